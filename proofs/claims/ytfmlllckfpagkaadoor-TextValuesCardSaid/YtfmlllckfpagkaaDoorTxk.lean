/-
  Texts of keys are parsed to them, and what is parsed is the text of the key; contracts of package text and of the reference package at the very strings that the laws have.
-/
import Derived.Test.YtfmlllckfpagkaaDoorTxp
namespace Go.Proofs.YtfmlllckfpagkaaDoor
open Go.RowKit
set_option linter.unusedVariables false
set_option maxRecDepth 100000

theorem tx_val (f : Nat → Nat) (i : Nat) (hi : i < 22) : valF (txL f) i = (sxF f i : Int) := by
  unfold valF
  rw [List.getD, txL_get f i hi, Option.getD_some, UInt8.toNat_ofNat_of_lt' (by have := tcF_lt _ (sxF_lt f i); simpa using (show tcF (sxF f i) < 256 by omega))]
  exact tv_tc _ (sxF_lt f i)
theorem pa_tx (f : Nat → Nat) : paC (txL f) = (0, 0) := by
  refine pa_ok (txL_len f) (fun j hj => by rw [tx_val f j hj]; omega) ?_
  rw [tx_val f 21 (by omega), Int.toNat_natCast]
  exact sx_last f
theorem pk_tx (f : Nat → Nat) (hf : B16 f) : ∀ j, j < 16 → paK (txL f) j = f j := fun j hj => by
  rw [paK_ok (pa_tx f)]
  unfold kyF
  rw [by8_congr8 (vbF fun i => (valF (txL f) i).toNat) (vbF (sxF f)) j (fun t ht => ?_)]
  · exact ky_sx f j hj (hf j hj)
  · unfold vbF
    dsimp only
    rw [tx_val f _ (by omega), Int.toNat_natCast]
theorem pa_zero {s : List UInt8} (h : (paC s).1 = 0) : s.length = 22 ∧ (∀ j, j < 22 → 0 ≤ valF s j) ∧ (valF s 21).toNat % 16 = 0 := by
  unfold paC at h
  by_cases h1 : s.length = 22
  · rw [if_neg (by omega)] at h
    cases hb : badF s 0 22 with
    | some i => rw [hb] at h; cases h
    | none =>
      rw [hb] at h
      dsimp only at h
      refine ⟨h1, fun j hj => badF_none 22 0 hb j (by omega) (by omega), ?_⟩
      by_cases h2 : (valF s 21).toNat % 16 = 0
      · exact h2
      · rw [if_pos h2] at h; cases h
  · rw [if_pos h1] at h; cases h
theorem pa_zero2 {s : List UInt8} (h : (paC s).1 = 0) : paC s = (0, 0) := by
  obtain ⟨h1, h2, h3⟩ := pa_zero h
  exact pa_ok h1 h2 h3
theorem tx_pa {s : List UInt8} (h : (paC s).1 = 0) : txL (paK s) = s := by
  obtain ⟨h1, h2, h3⟩ := pa_zero h
  rw [paK_ok (pa_zero2 h)]
  apply List.ext_getElem?
  intro i
  rcases Nat.lt_or_ge i 22 with hi | hi
  · rw [txL_get _ i hi, List.getElem?_eq_getElem (by omega)]
    have e : sxF (kyF fun i => (valF s i).toNat) i = (valF s i).toNat := by
      rcases Nat.lt_or_ge i 21 with h4 | h4
      · exact sx_ky _ i h4 (vaN_lt s i)
      · obtain rfl : i = 21 := by omega
        exact sx_ky_last _ (vaN_lt s 21) h3
    rw [e]
    have h5 : (s.getD i 0) = s[i] := by rw [List.getD, List.getElem?_eq_getElem (by omega)]; rfl
    have h6 := tc_tv (s.getD i 0).toNat (UInt8.toNat_lt _) (h2 i hi)
    unfold valF
    rw [h6, h5]
    simp
  · rw [List.getElem?_eq_none (by rw [txL_len]; exact hi), List.getElem?_eq_none (by omega)]
theorem paK_lt (s : List UInt8) : B16 (paK s) := fun j hj => by
  unfold paK
  split
  · unfold kyF by8
    have h := vbF_lt fun i => (valF s i).toNat
    have h0 := h (8 * j); have h1 := h (8 * j + 1); have h2 := h (8 * j + 2); have h3 := h (8 * j + 3); have h4 := h (8 * j + 4); have h5 := h (8 * j + 5); have h6 := h (8 * j + 6); have h7 := h (8 * j + 7)
    omega
  · show 0 < 256; omega
theorem tparse_at (S : ByteArray) (s : List UInt8) (h : stB s = S) (w : World) (hs : s.length ≤ 1000000) (hx : TxG w) : Calls Tryd.prog 9 #[.string S] w fun e w' => e = .returned (.tuple #[.agg (arL 16 (paK s)).toArray, fauV (paC s)]) ∧ Below w.heap.size w w' := by subst h; exact tparse s w hs hx
theorem rparse_at (S : ByteArray) (s : List UInt8) (h : stB s = S) (w : World) (hs : s.length ≤ 1000000) : Calls Tryd.prog 11 #[.string S] w fun e w' => e = .returned (.tuple #[.agg (arL 16 (paK s)).toArray, .int .i64 ((paC s).1 : Nat), .int .i64 ((paC s).2 : Nat)]) ∧ Below w.heap.size w w' := by subst h; exact rparse s w hs
theorem zF16t : B16 fun _ => 0 := fun _ _ => by show 0 < 256; omega
def e16t (j : Nat) : Nat := if j = 0 then 1 else 0
theorem run_e16t (w : World) : (Instr.build 22 #[(0, .int .u8 1)]).run Tryd.prog w = .ok (.agg (arL 16 e16t).toArray) w := run_build w _ _ _ (by kernel_rfl)
theorem lit0 : stB (txL fun _ => 0) = ⟨#[65, 65, 65, 65, 65, 65, 65, 65, 65, 65, 65, 65, 65, 65, 65, 65, 65, 65, 65, 65, 65, 65]⟩ := by decide +kernel
def li1 : List UInt8 := [65, 81, 65, 65, 65, 65, 65, 65, 65, 65, 65, 65, 65, 65, 65, 65, 65, 65, 65, 65, 65, 65]
theorem lit1 : stB li1 = ⟨#[65, 81, 65, 65, 65, 65, 65, 65, 65, 65, 65, 65, 65, 65, 65, 65, 65, 65, 65, 65, 65, 65]⟩ := by decide +kernel
theorem lit2 : stB [65] = ⟨#[65]⟩ := by decide +kernel
theorem pc1 : paC li1 = (0, 0) := by decide +kernel
theorem pc2 : paC [65] = (4, 1) := by decide +kernel
theorem pk1 : ∀ j, j < 16 → paK li1 j = e16t j := by decide +kernel
theorem tch63 : tchN 63 = 47 := by decide +kernel
theorem tv43 : tvI 43 = 62 := by decide +kernel
theorem tv61 : tvI 61 = -1 := by decide +kernel
end Go.Proofs.YtfmlllckfpagkaaDoor
