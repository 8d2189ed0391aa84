/-
  What the laws of layer 6 ask of the steps, of encrypting and decrypting: results that are what was there before, over the contracts.
-/
import Derived.Test.YtejgeefhnpeejaaDoorGcf
import Derived.Test.YtejgeefhnpeejaaDoorGcr
namespace Go.Proofs.YtejgeefhnpeejaaDoor
open Go.RowKit
set_option linter.unusedVariables false

theorem xDecEnc (f b : Nat → Nat) (w : World) (hf : B16 f) (hb : B16 b) (h : Boxes w) :
    Calls Tryd.prog 15 #[.agg (arL 16 f).toArray, .agg (arL 16 (enF f b)).toArray] w fun e w' => e = .returned (.agg (arL 16 b).toArray) ∧ Below w.heap.size w w' := by
  have e := arL_ext (n := 16) (de_en hf hb 10)
  have h1 := cdecrypt f (enF f b) w hf (enR_lt hf hb 10) h
  rwa [show deF f (enF f b) = deR f 10 (enR f b 10) from rfl, e] at h1
theorem xRefDec (f b : Nat → Nat) (w : World) (hf : B16 f) (hb : B16 b) :
    Calls Tryd.prog 12 #[.agg (arL 432 (pkF (ek f) sb)).toArray, .agg (arL 16 (deF f b)).toArray] w fun e w' => e = .returned (.agg (arL 16 b).toArray) ∧ Below w.heap.size w w' := by
  have e := arL_ext (n := 16) (en_de hf 10 hb)
  have h1 := refencrypt f (deF f b) w hf (deR_lt hf 10 hb)
  rwa [show enF f (deF f b) = enR f (deR f 10 b) 10 from rfl, e] at h1
theorem xUnsub (b : Nat → Nat) (w : World) (hb : B16 b) (h : Boxes w) :
    Calls Tryd.prog 39 #[.agg (arL 16 (suF b)).toArray] w fun e w' => e = .returned (.agg (arL 16 b).toArray) ∧ Below w.heap.size w w' := by
  have h1 := cunsub (suF b) w (suF_lt b) h
  rwa [arL_ext (n := 16) (us_su hb)] at h1
theorem xUnshift (b : Nat → Nat) (w : World) :
    Calls Tryd.prog 40 #[.agg (arL 16 (shF b)).toArray] w fun e w' => e = .returned (.agg (arL 16 b).toArray) ∧ Below w.heap.size w w' := by
  have h1 := cunshift (shF b) w
  rwa [arL_ext (n := 16) (uh_sh b)] at h1
theorem xUnmix (b : Nat → Nat) (w : World) (hb : B16 b) :
    Calls Tryd.prog 42 #[.agg (arL 16 (miF b)).toArray] w fun e w' => e = .returned (.agg (arL 16 b).toArray) ∧ Below w.heap.size w w' := by
  have h1 := cunmix (miF b) w (miF_lt b)
  rwa [arL_ext (n := 16) (um_mi hb)] at h1
theorem xAddBack (a b : Nat → Nat) (w : World) (ha : B16 a) (hb : B16 b) :
    Calls Tryd.prog 41 #[.agg (arL 16 (adF a b)).toArray, .agg (arL 16 b).toArray] w fun e w' => e = .returned (.agg (arL 16 a).toArray) ∧ Below w.heap.size w w' := by
  have h1 := cadd (adF a b) b w (adF_lt ha hb) hb
  rwa [arL_ext (n := 16) (ad_ad a b)] at h1
end Go.Proofs.YtejgeefhnpeejaaDoor
