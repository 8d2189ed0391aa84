/-
  Words and their bytes, and the key expansion word by word. No condition but that the numbers are bytes; nothing of the program is named here.
-/
import Derived.Test.YtdfponbfgcfpdaaDoorKen
namespace Go.Proofs.YtdfponbfgcfpdaaDoor
set_option linter.unusedVariables false

def quad (a b c d : Nat) : Nat := ((a * 256 + b) * 256 + c) * 256 + d
theorem quad_lt {a b c d : Nat} (ha : a < 256) (hb : b < 256) (hc : c < 256) (hd : d < 256) : quad a b c d < 4294967296 := by unfold quad; omega
theorem step_xor (x y b d : Nat) (hb : b < 256) (hd : d < 256) : (x * 256 + b) ^^^ (y * 256 + d) = (x ^^^ y) * 256 + (b ^^^ d) := by
  have hx := xor_lt b d hb hd
  apply Nat.eq_of_testBit_eq
  intro i
  rw [Nat.testBit_xor, show x * 256 + b = 2 ^ 8 * x + b by omega, show y * 256 + d = 2 ^ 8 * y + d by omega, show (x ^^^ y) * 256 + (b ^^^ d) = 2 ^ 8 * (x ^^^ y) + (b ^^^ d) by omega,
    Nat.testBit_two_pow_mul_add _ (show b < 2 ^ 8 from hb), Nat.testBit_two_pow_mul_add _ (show d < 2 ^ 8 from hd), Nat.testBit_two_pow_mul_add _ (show (b ^^^ d) < 2 ^ 8 from hx)]
  split <;> rw [Nat.testBit_xor]
theorem quad_xor {a b c d a' b' c' d' : Nat} (hb : b < 256) (hc : c < 256) (hd : d < 256) (hb' : b' < 256) (hc' : c' < 256) (hd' : d' < 256) :
    quad a b c d ^^^ quad a' b' c' d' = quad (a ^^^ a') (b ^^^ b') (c ^^^ c') (d ^^^ d') := by
  unfold quad
  rw [step_xor _ _ _ _ hd hd', step_xor _ _ _ _ hc hc', step_xor _ _ _ _ hb hb']
theorem quad_inj {a b c d a' b' c' d' : Nat} (hb : b < 256) (hc : c < 256) (hd : d < 256) (hb' : b' < 256) (hc' : c' < 256) (hd' : d' < 256)
    (h : quad a b c d = quad a' b' c' d') : a = a' ∧ b = b' ∧ c = c' ∧ d = d' := by unfold quad at h; omega

/-- The word i of bytes in a row. -/
def wd (f : Nat → Nat) (i : Nat) : Nat := quad (f (4 * i)) (f (4 * i + 1)) (f (4 * i + 2)) (f (4 * i + 3))
theorem wd_lt (f : Nat → Nat) (i : Nat) (hf : ∀ j, j < 16 → f j < 256) (hi : i < 4) : wd f i < 4294967296 := quad_lt (hf _ (by omega)) (hf _ (by omega)) (hf _ (by omega)) (hf _ (by omega))
theorem wb_quad {a b c d : Nat} (ha : a < 256) (hb : b < 256) (hc : c < 256) (hd : d < 256) : wb (quad a b c d) 0 = a ∧ wb (quad a b c d) 1 = b ∧ wb (quad a b c d) 2 = c ∧ wb (quad a b c d) 3 = d := wb_four a b c d ha hb hc hd
theorem wb_wd (f : Nat → Nat) (i k : Nat) (hf : ∀ j, j < 16 → f j < 256) (hi : i < 4) (hk : k < 4) : wb (wd f i) k = f (4 * i + k) := by
  obtain ⟨e0, e1, e2, e3⟩ := wb_quad (hf (4 * i) (by omega)) (hf (4 * i + 1) (by omega)) (hf (4 * i + 2) (by omega)) (hf (4 * i + 3) (by omega))
  unfold wd
  rcases (show k = 0 ∨ k = 1 ∨ k = 2 ∨ k = 3 by omega) with rfl | rfl | rfl | rfl
  · exact e0
  · exact e1
  · exact e2
  · exact e3
/-- What is added to the first word. -/
def trn (x c : Nat) : Nat := sbw (rot8 x) ^^^ (c * 16777216)
theorem trn_quad {a b c d k : Nat} (ha : a < 256) (hb : b < 256) (hc : c < 256) (hd : d < 256) : trn (quad a b c d) k = quad (sb b ^^^ k) (sb c) (sb d) (sb a) := by
  have e : rot8 (quad a b c d) = quad b c d a := rot8_four a b c d ha hb hc hd
  obtain ⟨e0, e1, e2, e3⟩ := wb_quad hb hc hd ha
  have e4 : sbw (quad b c d a) = quad (sb b) (sb c) (sb d) (sb a) := by unfold sbw; rw [e0, e1, e2, e3]; rfl
  rw [trn, e, e4, show k * 16777216 = quad k 0 0 0 by unfold quad; omega, quad_xor (sb_lt _) (sb_lt _) (sb_lt _) (by omega) (by omega) (by omega)]
  simp
theorem trn_lt (x c : Nat) (hc : c < 256) : trn x c < 4294967296 := Nat.xor_lt_two_pow (n := 32) (sbw_lt _) (show c * 16777216 < 2 ^ 32 by omega)

/-- The words of the next round key. -/
theorem nx_w0 (c : Nat) (f : Nat → Nat) (hc : c < 256) (hf : ∀ j, j < 16 → f j < 256) : wd f 0 ^^^ trn (wd f 3) c = wd (nx c f) 0 := by
  have l := sb_lt
  have e : trn (wd f 3) c = quad (sb (f 13) ^^^ c) (sb (f 14)) (sb (f 15)) (sb (f 12)) := trn_quad (hf 12 (by omega)) (hf 13 (by omega)) (hf 14 (by omega)) (hf 15 (by omega))
  rw [e]
  show quad (f 0) (f 1) (f 2) (f 3) ^^^ _ = quad (nx c f 0) (nx c f 1) (nx c f 2) (nx c f 3)
  rw [quad_xor (hf 1 (by omega)) (hf 2 (by omega)) (hf 3 (by omega)) (l _) (l _) (l _), nx_first c f 0 (by omega), nx_first c f 1 (by omega), nx_first c f 2 (by omega), nx_first c f 3 (by omega)]
  simp [kt]
theorem nx_wS (c : Nat) (f : Nat → Nat) (i : Nat) (hi : i < 3) (hc : c < 256) (hf : ∀ j, j < 16 → f j < 256) : wd f (i + 1) ^^^ wd (nx c f) i = wd (nx c f) (i + 1) := by
  have hn := nx_lt c f hc hf
  unfold wd
  rw [quad_xor (hf _ (by omega)) (hf _ (by omega)) (hf _ (by omega)) (hn _ (by omega)) (hn _ (by omega)) (hn _ (by omega)),
    nx_more c f (4 * (i + 1)) (by omega), nx_more c f (4 * (i + 1) + 1) (by omega), nx_more c f (4 * (i + 1) + 2) (by omega), nx_more c f (4 * (i + 1) + 3) (by omega)]
  rw [show 4 * (i + 1) - 4 = 4 * i by omega, show 4 * (i + 1) + 1 - 4 = 4 * i + 1 by omega, show 4 * (i + 1) + 2 - 4 = 4 * i + 2 by omega, show 4 * (i + 1) + 3 - 4 = 4 * i + 3 by omega]
/-- The words of the one before. -/
theorem pv_wS (c : Nat) (g : Nat → Nat) (i : Nat) (hi : i < 3) (hg : ∀ j, j < 16 → g j < 256) : wd g (i + 1) ^^^ wd g i = wd (pv c g) (i + 1) := by
  unfold wd
  rw [quad_xor (hg _ (by omega)) (hg _ (by omega)) (hg _ (by omega)) (hg _ (by omega)) (hg _ (by omega)) (hg _ (by omega))]
  have e : ∀ j, 4 ≤ j → pv c g j = g j ^^^ g (j - 4) := fun j h => by unfold pv; rw [if_neg (by omega)]
  rw [e _ (by omega), e _ (by omega), e _ (by omega), e _ (by omega), show 4 * (i + 1) - 4 = 4 * i by omega, show 4 * (i + 1) + 1 - 4 = 4 * i + 1 by omega, show 4 * (i + 1) + 2 - 4 = 4 * i + 2 by omega, show 4 * (i + 1) + 3 - 4 = 4 * i + 3 by omega]
theorem pv_w0 (c : Nat) (g : Nat → Nat) (hc : c < 256) (hg : ∀ j, j < 16 → g j < 256) : wd g 0 ^^^ trn (wd (pv c g) 3) c = wd (pv c g) 0 := by
  have l := sb_lt
  have hp := pv_lt c g hc hg
  have e : trn (wd (pv c g) 3) c = quad (sb (pv c g 13) ^^^ c) (sb (pv c g 14)) (sb (pv c g 15)) (sb (pv c g 12)) := trn_quad (hp 12 (by omega)) (hp 13 (by omega)) (hp 14 (by omega)) (hp 15 (by omega))
  rw [e]
  show quad (g 0) (g 1) (g 2) (g 3) ^^^ _ = quad (pv c g 0) (pv c g 1) (pv c g 2) (pv c g 3)
  rw [quad_xor (hg 1 (by omega)) (hg 2 (by omega)) (hg 3 (by omega)) (l _) (l _) (l _)]
  simp [pv]

/-- The bytes of four words. -/
def jn (W : Nat → Nat) (j : Nat) : Nat := wb (W (j / 4)) (j % 4)
theorem jn_wd (f : Nat → Nat) (hf : ∀ j, j < 16 → f j < 256) (j : Nat) (hj : j < 16) : jn (wd f) j = f j := by
  rw [jn, wb_wd f _ _ hf (by omega) (by omega)]; congr 1; omega
theorem wd_congr {f g : Nat → Nat} (h : ∀ j, j < 16 → f j = g j) (i : Nat) (hi : i < 4) : wd f i = wd g i := by
  unfold wd; rw [h _ (by omega), h _ (by omega), h _ (by omega), h _ (by omega)]
end Go.Proofs.YtdfponbfgcfpdaaDoor
