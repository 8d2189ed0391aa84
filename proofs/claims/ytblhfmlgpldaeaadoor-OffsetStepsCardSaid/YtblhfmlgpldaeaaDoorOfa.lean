/-
  Offsets as functions on bytes: the nonce block, stretching, and the blocks that are added: one by one up to an index, or once each for the bits of the index. No condition.
-/
import Derived.Test.YtblhfmlgpldaeaaDoorTba
namespace Go.Proofs.YtblhfmlgpldaeaaDoor
open Go.RowKit
set_option linter.unusedVariables false
set_option maxRecDepth 100000

/-! ### The blocks that are added -/
/-- One by one, for 1 to i. -/
def acG (f : Nat → Nat) : Nat → Nat
  | 0 => 0
  | i + 1 => acG f i ^^^ f (zer (i + 1))
/-- Those below n whose bit differs from the next. -/
def smG (f : Nat → Nat) (i : Nat) : Nat → Nat
  | 0 => 0
  | n + 1 => smG f i n ^^^ (if (i / 2 ^ n + i / 2 ^ n / 2) % 2 = 1 then f n else 0)
theorem acG_split (f : Nat → Nat) : ∀ i, i < 9223372036854775808 → acG f i = (if (i + i / 2) % 2 = 1 then f 0 else 0) ^^^ acG (fun k => f (k + 1)) (i / 2)
  | 0, _ => by simp [acG]
  | i + 1, hi => by
    have ih := acG_split f i (by omega)
    show acG f i ^^^ f (zer (i + 1)) = _
    rw [ih]
    by_cases h : (i + 1) % 2 = 1
    · rw [zer_odd _ h, show (i + 1) / 2 = i / 2 by omega]
      by_cases g : (i + i / 2) % 2 = 1
      · rw [if_pos g, if_neg (by omega), Nat.zero_xor, Nat.xor_comm (f 0), Nat.xor_assoc, Nat.xor_self, Nat.xor_zero]
      · rw [if_neg g, if_pos (by omega), Nat.zero_xor, Nat.xor_comm]
    · have e : i + 1 = 2 * (i / 2 + 1) := by omega
      have ez : zer (i + 1) = zer (i / 2 + 1) + 1 := by rw [e]; exact zer_two _ (by omega) (by omega)
      rw [ez, show (i + 1) / 2 = i / 2 + 1 by omega, Nat.xor_assoc]
      have ea : acG (fun k => f (k + 1)) (i / 2 + 1) = acG (fun k => f (k + 1)) (i / 2) ^^^ f (zer (i / 2 + 1) + 1) := rfl
      rw [ea]
      congr 1
      by_cases g : (i + i / 2) % 2 = 1
      · rw [if_pos g, if_pos (by omega)]
      · rw [if_neg g, if_neg (by omega)]
theorem acG_part (f : Nat → Nat) (i : Nat) (hi : i < 9223372036854775808) : ∀ n, acG f i = smG f i n ^^^ acG (fun k => f (k + n)) (i / 2 ^ n)
  | 0 => by simp [smG]
  | n + 1 => by
    have h : i / 2 ^ n < 9223372036854775808 := Nat.lt_of_le_of_lt (Nat.div_le_self _ _) hi
    rw [acG_part f i hi n, acG_split (fun k => f (k + n)) _ h]
    show _ = (smG f i n ^^^ _) ^^^ _
    rw [Nat.xor_assoc, Nat.zero_add, Nat.pow_succ, ← Nat.div_div_eq_div_mul]
    have e : (fun k => (fun k => f (k + n)) (k + 1)) = fun k => f (k + (n + 1)) := funext fun k => by show f (k + 1 + n) = _; rw [Nat.add_assoc, Nat.add_comm 1 n]
    rw [e]
theorem acG_all (f : Nat → Nat) (i n : Nat) (hi : i < 9223372036854775808) (h : i < 2 ^ n) : smG f i n = acG f i := by
  rw [acG_part f i hi n, Nat.div_eq_of_lt h]
  simp [acG]
/-! ### The bits of an index that differ from the next -/
theorem xor_two (a b : Nat) : (a ^^^ b) % 2 = (a + b) % 2 := by
  have h : (a ^^^ b) % 2 ^ 1 = a % 2 ^ 1 ^^^ b % 2 ^ 1 := Nat.xor_mod_two_pow
  rw [Nat.pow_one] at h
  rw [h, Nat.add_mod]
  rcases Nat.mod_two_eq_zero_or_one a with ha | ha <;> rcases Nat.mod_two_eq_zero_or_one b with hb | hb <;> rw [ha, hb] <;> decide
theorem xor_same (a b : Nat) (h : a ^^^ b = 0) : a = b := by
  have h2 : (a ^^^ b) ^^^ b = 0 ^^^ b := by rw [h]
  rwa [Nat.xor_assoc, Nat.xor_self, Nat.xor_zero, Nat.zero_xor] at h2
theorem two_pow_div (i k : Nat) : i / 2 / 2 ^ k = i / 2 ^ k / 2 := by rw [Nat.div_div_eq_div_mul, Nat.div_div_eq_div_mul, Nat.mul_comm]
theorem gray_bit (i k : Nat) : (i ^^^ i / 2) / 2 ^ k % 2 = (i / 2 ^ k + i / 2 ^ k / 2) % 2 := by
  rw [Nat.xor_div_two_pow, two_pow_div, xor_two]
theorem gray_top (i n : Nat) (h : i ^^^ i / 2 < 2 ^ n) : i < 2 ^ n := by
  have h1 : (i ^^^ i / 2) / 2 ^ n = 0 := Nat.div_eq_of_lt h
  rw [Nat.xor_div_two_pow, two_pow_div] at h1
  have h2 := xor_same _ _ h1
  refine Nat.lt_of_div_eq_zero (Nat.two_pow_pos n) ?_
  generalize i / 2 ^ n = y at *
  omega
theorem gray_lt (i : Nat) (h : i < 9223372036854775808) : i ^^^ i / 2 < 9223372036854775808 :=
  Nat.xor_lt_two_pow (n := 63) h (Nat.lt_of_le_of_lt (Nat.div_le_self _ _) h)
/-! ### Offsets -/
/-- The offset i, of the offset 0 and the star block. -/
def atF (o s : Nat → Nat) (i j : Nat) : Nat := o j ^^^ acG (fun k => dk s (k + 2) j) i
/-- What the blocks below n make of the offset 0. -/
def ogF (o s : Nat → Nat) (i n j : Nat) : Nat := o j ^^^ smG (fun k => dk s (k + 2) j) i n
theorem atF_zero (o s : Nat → Nat) : atF o s 0 = o := funext fun j => by simp [atF, acG]
theorem atF_step (o s : Nat → Nat) (i : Nat) : adF (atF o s i) (dk s (zer (i + 1) + 2)) = atF o s (i + 1) := funext fun j => by
  show (o j ^^^ _) ^^^ _ = o j ^^^ (_ ^^^ _)
  rw [Nat.xor_assoc]
theorem ogF_zero (o s : Nat → Nat) (i : Nat) : ogF o s i 0 = o := funext fun j => by simp [ogF, smG]
theorem ogF_one (o s : Nat → Nat) (i n : Nat) (h : (i ^^^ i / 2) / 2 ^ n % 2 = 1) : adF (ogF o s i n) (dk s (n + 2)) = ogF o s i (n + 1) := funext fun j => by
  rw [gray_bit] at h
  show (o j ^^^ _) ^^^ _ = o j ^^^ (_ ^^^ _)
  rw [if_pos h, Nat.xor_assoc]
theorem ogF_none (o s : Nat → Nat) (i n : Nat) (h : (i ^^^ i / 2) / 2 ^ n % 2 = 0) : ogF o s i n = ogF o s i (n + 1) := funext fun j => by
  rw [gray_bit] at h
  show o j ^^^ _ = o j ^^^ (_ ^^^ _)
  rw [if_neg (by omega), Nat.xor_zero]
theorem ogF_all (o s : Nat → Nat) (i n : Nat) (hi : i < 9223372036854775808) (h : i ^^^ i / 2 < 2 ^ n) : ogF o s i n = atF o s i := funext fun j => by
  show o j ^^^ _ = o j ^^^ _
  rw [acG_all _ i n hi (gray_top i n h)]
theorem atF_lt {o s : Nat → Nat} (ho : B16 o) (hs : B16 s) : ∀ i, B16 (atF o s i)
  | 0 => by rw [atF_zero]; exact ho
  | i + 1 => by rw [← atF_step]; exact adF_lt (atF_lt ho hs i) (dk_lt hs _)
theorem ogF_lt {o s : Nat → Nat} (ho : B16 o) (hs : B16 s) (i : Nat) : ∀ n, B16 (ogF o s i n)
  | 0 => by rw [ogF_zero]; exact ho
  | n + 1 => by
    rcases Nat.mod_two_eq_zero_or_one ((i ^^^ i / 2) / 2 ^ n) with h | h
    · rw [← ogF_none _ _ _ _ h]; exact ogF_lt ho hs i n
    · rw [← ogF_one _ _ _ _ h]; exact adF_lt (ogF_lt ho hs i n) (dk_lt hs _)
/-! ### The nonce block, stretching, the offset 0 -/
/-- A nonce. -/
def B12 (n : Nat → Nat) : Prop := ∀ j, j < 12 → n j < 256
/-- The nonce whose last six bits are 0. -/
def lowF (n : Nat → Nat) (j : Nat) : Nat := if j = 11 then n 11 / 64 * 64 else n j
/-- Its block. -/
def nbF (n : Nat → Nat) (j : Nat) : Nat := if 4 ≤ j ∧ j < 16 then lowF n (j - 4) else if j = 3 then 1 else 0
theorem lowF_lt {n : Nat → Nat} (h : B12 n) : B12 (lowF n) := fun j hj => by
  unfold lowF
  split
  · have := h 11 (by omega); omega
  · exact h j hj
theorem nbF_lt {n : Nat → Nat} (h : B12 n) : B16 (nbF n) := fun j hj => by
  unfold nbF
  split
  · exact lowF_lt h _ (by omega)
  · split <;> omega
/-- A stretched block. -/
def stF (b : Nat → Nat) (j : Nat) : Nat := if j < 16 then b j else b (j - 16) ^^^ b (j - 15)
theorem stF_lt {b : Nat → Nat} (h : B16 b) (j : Nat) (hj : j < 24) : stF b j < 256 := by
  unfold stF
  split
  · exact h j (by omega)
  · exact Nat.xor_lt_two_pow (n := 8) (h _ (by omega)) (h _ (by omega))
/-- The offset 0, of the top and the last byte of the nonce. -/
def o0F (t : Nat → Nat) (b : Nat) : Nat → Nat := shB (cut 24 (stF t)) (b % 64)
theorem shB_lt {f : Nat → Nat} (hf : ∀ j, f j < 256) (m j : Nat) : shB f m j < 256 := by
  rw [← by8_shift f hf m j]
  unfold by8
  dsimp only
  have b0 := bitF_lt f
  have h0 := b0 (8 * j + m); have h1 := b0 (8 * j + 1 + m); have h2 := b0 (8 * j + 2 + m); have h3 := b0 (8 * j + 3 + m)
  have h4 := b0 (8 * j + 4 + m); have h5 := b0 (8 * j + 5 + m); have h6 := b0 (8 * j + 6 + m); have h7 := b0 (8 * j + 7 + m)
  omega
theorem o0F_lt {t : Nat → Nat} (h : B16 t) (b : Nat) : B16 (o0F t b) := fun j _ => shB_lt (cut_lt (stF_lt h)) _ _
/-! ### Nonces that differ in the last six bits only -/
/-- The last byte is changed by the last six bits of another. -/
def xlF (n : Nat → Nat) (x j : Nat) : Nat := if j = 11 then n 11 ^^^ x % 64 else n j
theorem low_xor : ∀ a, a < 256 → ∀ c, c < 64 → (a ^^^ c) / 64 * 64 = a / 64 * 64 ∧ a ^^^ c < 256 := fun a ha c hc => by
  have h : (a ^^^ c) / 2 ^ 6 = a / 2 ^ 6 ^^^ c / 2 ^ 6 := Nat.xor_div_two_pow ..
  rw [Nat.div_eq_of_lt (show c < 2 ^ 6 from hc), Nat.xor_zero] at h
  refine ⟨by rw [show (64 : Nat) = 2 ^ 6 from rfl, h], Nat.xor_lt_two_pow (n := 8) ha (by omega)⟩
theorem xlF_lt {n : Nat → Nat} (h : B12 n) (x : Nat) : B12 (xlF n x) := fun j hj => by
  unfold xlF
  split
  · exact (low_xor _ (h 11 (by omega)) _ (Nat.mod_lt _ (by decide))).2
  · exact h j hj
theorem lowF_xl {n : Nat → Nat} (h : B12 n) (x j : Nat) : lowF (xlF n x) j = lowF n j := by
  unfold lowF xlF
  by_cases e : j = 11
  · rw [if_pos e, if_pos e, if_pos rfl]; exact (low_xor _ (h 11 (by omega)) _ (Nat.mod_lt _ (by decide))).1
  · rw [if_neg e, if_neg e, if_neg e]
theorem nbF_xl {n : Nat → Nat} (h : B12 n) (x : Nat) : nbF (xlF n x) = nbF n := funext fun j => by
  unfold nbF
  rw [lowF_xl h]
end Go.Proofs.YtblhfmlgpldaeaaDoor
