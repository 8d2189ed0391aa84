/-
  What the laws of layer 7 ask of encrypting and decrypting with a Cipher: results that are what was there before, over the contracts.
-/
import Derived.Test.YtejgeefhnpeejaaDoorFal
import Derived.Test.YtejgeefhnpeejaaDoorFam
namespace Go.Proofs.YtejgeefhnpeejaaDoor
open Go.RowKit
set_option linter.unusedVariables false
set_option maxRecDepth 100000

theorem fdecEnc (v : Value) (f b : Nat → Nat) (w : World) (hf : B16 f) (hb : B16 b) (hv : CipV w v f) (h : Boxes w) :
    Calls Tryd.prog 14 #[v, .agg (arL 16 (enF f b)).toArray] w fun e w' => e = .returned (.agg (arL 16 b).toArray) ∧ Below w.heap.size w w' := by
  have e := arL_ext (n := 16) (de_en hf hb 10)
  have h1 := fdecrypt v f (enF f b) w hf (enR_lt hf hb 10) hv h
  rwa [show deF f (enF f b) = deR f 10 (enR f b 10) from rfl, e] at h1
theorem fencDec (v : Value) (f b : Nat → Nat) (w : World) (hf : B16 f) (hb : B16 b) (hv : CipV w v f) (h : Boxes w) :
    Calls Tryd.prog 10 #[v, .agg (arL 16 (deF f b)).toArray] w fun e w' => e = .returned (.agg (arL 16 b).toArray) ∧ Below w.heap.size w w' := by
  have e := arL_ext (n := 16) (en_de hf 10 hb)
  have h1 := fencrypt v f (deF f b) w hf (deR_lt hf 10 hb) hv h
  rwa [show enF f (deF f b) = enR f (deR f 10 b) 10 from rfl, e] at h1
end Go.Proofs.YtejgeefhnpeejaaDoor
