/-
 Contracts of layer 10 and its reference at the very arguments that its laws have, what they return as letters; arrays of 24 bytes compared.
-/
import Derived.Test.YthfnpjjckpnfbaaGreatDoorGof
namespace Go.Proofs.YthfnpjjckpnfbaaGreatDoor
open Go.RowKit
set_option linter.unusedVariables false
set_option maxRecDepth 100000

theorem wtab (gT gC : Nat) (f s : Nat → Nat) (w : World) (hs : enF f zF = s) (hT : Ti w gT (some ⟨gC, 0, none⟩) s) (hC : Ci w gC f) : TabC w (.pointer (some ⟨gT, 0, none⟩)) f := by
 subst hs
 exact tabc_made gT _ f w hT (exp_made gC f w hC)
theorem atI_zer (s : Nat → Nat) (i : Nat) (h0 : i ≠ 0) (hi : i < 18446744073709551616) : atI s (zer i : Nat) = dk s (zer i + 2) := by
 have h1 := zer_lt i h0 hi
 unfold atI
 rw [if_pos (by omega), Int.toNat_natCast]
theorem wnext (v : Value) (f l s d : Nat → Nat) (i : Nat) (w : World) (hs : enF f zF = s) (hd : dk s (zer i + 2) = d) (h0 : i ≠ 0) (hi : i < 18446744073709551616) (hf : B16 f) (hl : B16 l) (ht : TabC w v f) : Calls Tryz.prog 34 #[v, .agg (arL 16 l).toArray, .int .u64 i] w fun e w' => e = .returned (.agg (arL 16 (adF l d)).toArray) ∧ Below w.heap.size w w' := by
 have h := onext v f l i w hf hl hi ht
 rw [atI_zer _ i h0 hi, hs, hd] at h
 exact h
/-! ### The examples -/
def e16 (j : Nat) : Nat := if j = 0 then 1 else 0
end Go.Proofs.YthfnpjjckpnfbaaGreatDoor
