/-
 Contract of Crypt of the reference package of layer 12, by a walk through its text; what was there stays as it was.
-/
import Derived.Test.YtiacbphnclgikaaDoorSea
import Derived.Test.YtiacbphnclgikaaDoorGof
import Derived.Test.YtiacbphnclgikaaDoorGtb
import Derived.Deep.RegionHeld3
namespace Go.Proofs.YtiacbphnclgikaaDoor
open Go.RowKit
set_option linter.unusedVariables false
set_option maxRecDepth 100000
set_option linter.unusedSimpArgs false
theorem ifacts {i o q:Nat} (h:i=o+q) (hi:i<1000000):wrap64 ((i:Int)-(o:Int))=(q:Int)∧IntKind.i64.wrap ((i:Int)-(o:Int))=(q:Int)∧(i:Int)-(o:Int)=(q:Int)∧IntKind.i64.wrap (q:Int)=(q:Int):=by
 subst h
 refine⟨?_,?_,by omega,wraps_i64' _ (by omega) (by omega)⟩
 ·rw [IntWalk.wrap64_in _ (by omega)];omega
 ·rw [wraps_i64' _ (by omega) (by omega)];omega
theorem sl_byte {w:World} {B n b o:Nat} {l:List UInt8} (h:Sl w B (some ⟨b,o,none⟩) n l) (i:Nat) (hi:i<n):w.cell? ⟨b,o+i,none⟩=some (.int .u8 (lF l i:Nat)):=by
 obtain⟨b2,o2,e,_,hc⟩:=h.2 (by omega)
 injection e with e
 injection e with e1 e2
 subst e1 e2
 have hl:=h.len
 rw [hc i l[i] (List.getElem?_eq_getElem (by omega))]
 simp [b8,lF,List.getD,List.getElem?_eq_getElem (show i<l.length by omega)]
theorem sfacts12 {n N o:Nat} (hn:n≤1000000) (hN:n/16=N) (ho:16*N=o):wrap64 (16*(N:Int))=(o:Int)∧IntKind.i64.wrap (16*(N:Int))=(o:Int)∧16*(N:Int)=(o:Int)∧IntKind.i64.wrap (o:Int)=(o:Int):=rfacts2 hn hN ho
end Go.Proofs.YtiacbphnclgikaaDoor
