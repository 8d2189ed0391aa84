/-
  What the laws of layer 6 ask of the steps, of encrypting and decrypting: results that are what was there before, over the contracts.
-/
import Derived.Test.YtghcpfcomhfppaaDoorCga
import Derived.Test.YtghcpfcomhfppaaDoorCgb
import Derived.Test.YtghcpfcomhfppaaDoorCri
namespace Go.Proofs.YtghcpfcomhfppaaDoor
open Go.RowKit
set_option linter.unusedVariables false

theorem xDecEnc (f b : Nat → Nat) (w : World) (hf : B16 f) (hb : B16 b) (h : Boxes w) :
    Calls Tryd.prog 12 #[.agg (arL 16 f).toArray, .agg (arL 16 (enF f b)).toArray] w fun e w' => e = .returned (.agg (arL 16 b).toArray) ∧ Below w.heap.size w w' := by
  have e := arL_ext (n := 16) (de_en hf hb 10)
  have h1 := cdecrypt f (enF f b) w hf (enR_lt hf hb 10) h
  rwa [show deF f (enF f b) = deR f 10 (enR f b 10) from rfl, e] at h1
theorem xEncDec (f b : Nat → Nat) (w : World) (hf : B16 f) (hb : B16 b) (h : Boxes w) :
    Calls Tryd.prog 9 #[.agg (arL 16 f).toArray, .agg (arL 16 (deF f b)).toArray] w fun e w' => e = .returned (.agg (arL 16 b).toArray) ∧ Below w.heap.size w w' := by
  have e := arL_ext (n := 16) (en_de hf 10 hb)
  have h1 := cencrypt f (deF f b) w hf (deR_lt hf 10 hb) h
  rwa [show enF f (deF f b) = enR f (deR f 10 b) 10 from rfl, e] at h1
theorem xRefDec (f b : Nat → Nat) (w : World) (hf : B16 f) (hb : B16 b) :
    Calls Tryd.prog 10 #[.agg (arL 432 (pkF (ek f) sb)).toArray, .agg (arL 16 (deF f b)).toArray] w fun e w' => e = .returned (.agg (arL 16 b).toArray) ∧ Below w.heap.size w w' := by
  have e := arL_ext (n := 16) (en_de hf 10 hb)
  have h1 := refencrypt f (deF f b) w hf (deR_lt hf 10 hb)
  rwa [show enF f (deF f b) = enR f (deR f 10 b) 10 from rfl, e] at h1
theorem xUnsub (b : Nat → Nat) (w : World) (hb : B16 b) (h : Boxes w) :
    Calls Tryd.prog 24 #[.agg (arL 16 (suF b)).toArray] w fun e w' => e = .returned (.agg (arL 16 b).toArray) ∧ Below w.heap.size w w' := by
  have h1 := cunsub (suF b) w (suF_lt b) h
  rwa [arL_ext (n := 16) (us_su hb)] at h1
theorem xSub (b : Nat → Nat) (w : World) (hb : B16 b) (h : Boxes w) :
    Calls Tryd.prog 15 #[.agg (arL 16 (usF b)).toArray] w fun e w' => e = .returned (.agg (arL 16 b).toArray) ∧ Below w.heap.size w w' := by
  have h1 := csub (usF b) w (usF_lt hb) h
  rwa [arL_ext (n := 16) (su_us hb)] at h1
theorem xUnshift (b : Nat → Nat) (w : World) :
    Calls Tryd.prog 25 #[.agg (arL 16 (shF b)).toArray] w fun e w' => e = .returned (.agg (arL 16 b).toArray) ∧ Below w.heap.size w w' := by
  have h1 := cunshift (shF b) w
  rwa [arL_ext (n := 16) (uh_sh b)] at h1
theorem xShift (b : Nat → Nat) (w : World) :
    Calls Tryd.prog 16 #[.agg (arL 16 (uhF b)).toArray] w fun e w' => e = .returned (.agg (arL 16 b).toArray) ∧ Below w.heap.size w w' := by
  have h1 := cshift (uhF b) w
  rwa [arL_ext (n := 16) (sh_uh b)] at h1
theorem xUnmix (b : Nat → Nat) (w : World) (hb : B16 b) :
    Calls Tryd.prog 26 #[.agg (arL 16 (miF b)).toArray] w fun e w' => e = .returned (.agg (arL 16 b).toArray) ∧ Below w.heap.size w w' := by
  have h1 := cunmix (miF b) w (miF_lt b)
  rwa [arL_ext (n := 16) (um_mi hb)] at h1
theorem xMix (b : Nat → Nat) (w : World) (hb : B16 b) :
    Calls Tryd.prog 17 #[.agg (arL 16 (umF b)).toArray] w fun e w' => e = .returned (.agg (arL 16 b).toArray) ∧ Below w.heap.size w w' := by
  have h1 := cmix (umF b) w (umF_lt b)
  rwa [arL_ext (n := 16) (mi_um hb)] at h1
theorem xMixSum (a b : Nat → Nat) (w : World) (ha : B16 a) (hb : B16 b) :
    Calls Tryd.prog 17 #[.agg (arL 16 (adF a b)).toArray] w fun e w' => e = .returned (.agg (arL 16 (adF (miF a) (miF b))).toArray) ∧ Below w.heap.size w w' := by
  have h1 := cmix (adF a b) w (adF_lt ha hb)
  rwa [arL_ext (n := 16) (fun j _ => mi_ad a b j)] at h1
theorem xShiftSum (a b : Nat → Nat) (w : World) :
    Calls Tryd.prog 16 #[.agg (arL 16 (adF a b)).toArray] w fun e w' => e = .returned (.agg (arL 16 (adF (shF a) (shF b))).toArray) ∧ Below w.heap.size w w' := cshift (adF a b) w
theorem xAddBack (a b : Nat → Nat) (w : World) (ha : B16 a) (hb : B16 b) :
    Calls Tryd.prog 22 #[.agg (arL 16 (adF a b)).toArray, .agg (arL 16 b).toArray] w fun e w' => e = .returned (.agg (arL 16 a).toArray) ∧ Below w.heap.size w w' := by
  have h1 := cadd (adF a b) b w (adF_lt ha hb) hb
  rwa [arL_ext (n := 16) (ad_ad a b)] at h1
theorem xShiftSub (a : Nat → Nat) (w : World) :
    Calls Tryd.prog 16 #[.agg (arL 16 (suF a)).toArray] w fun e w' => e = .returned (.agg (arL 16 (suF (shF a))).toArray) ∧ Below w.heap.size w w' := cshift (suF a) w
end Go.Proofs.YtghcpfcomhfppaaDoor
