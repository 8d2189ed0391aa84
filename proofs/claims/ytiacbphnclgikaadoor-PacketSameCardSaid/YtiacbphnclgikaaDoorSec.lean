/-
 Contracts of Tag and Seal of the reference package of layer 12, by walks through their texts; what was there stays as it was.
-/
import Derived.Test.YtiacbphnclgikaaDoorSeb
import Derived.Test.YtiacbphnclgikaaDoorGtb
import Derived.Deep.RegionHeld3
namespace Go.Proofs.YtiacbphnclgikaaDoor
open Go.RowKit
set_option linter.unusedVariables false
set_option maxRecDepth 100000
set_option linter.unusedSimpArgs false
theorem haF_lt {f s:Nat→Nat} (hf:B16 f) (hs:B16 s) (l:List UInt8):B16 (haF f s l):=adF_lt (hsF_lt hf hs (fun _ _ _=>pt_lt _ _ _) _) (hrF_lt hf hs (atF_lt zF_lt hs _) _)
theorem csF_lt (l:List UInt8):B16 (csF l):=by
 unfold csF
 split
 ·exact ckF_lt (fun _ _ _=>pt_lt _ _ _) _
 ·exact adF_lt (ckF_lt (fun _ _ _=>pt_lt _ _ _) _) (fun _ _=>lF_lt _ _)
theorem ofF_lt {s a:Nat→Nat} (hs:B16 s) (ha:B16 a) (n:Nat):B16 (ofF s a n):=by
 unfold ofF
 split
 ·exact atF_lt ha hs _
 ·exact adF_lt (atF_lt ha hs _) hs
theorem tgF_lt {f s c o:Nat→Nat} (hf:B16 f) (hs:B16 s) (hc:B16 c) (ho:B16 o) (d:List UInt8):B16 (tgF f s c o d):=adF_lt (enR_lt hf (adF_lt (adF_lt hc ho) (dk_lt hs 1)) 10) (haF_lt hf hs d)
end Go.Proofs.YtiacbphnclgikaaDoor
