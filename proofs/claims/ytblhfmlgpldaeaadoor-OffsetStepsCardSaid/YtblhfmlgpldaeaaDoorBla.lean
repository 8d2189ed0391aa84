/-
  Bytes as bits: the bit k of bytes, the byte of eight bits, bits shifted, blocks doubled and halved; lists of ints in memory. No condition; nothing of the program is named here.
-/
import Derived.Test.YtblhfmlgpldaeaaDoorFre
namespace Go.Proofs.YtblhfmlgpldaeaaDoor
open Go.RowKit
set_option linter.unusedVariables false

/-- The bit k of bytes, the highest one of each byte first. -/
def bitF (f : Nat → Nat) (k : Nat) : Nat := f (k / 8) / 2 ^ (7 - k % 8) % 2
/-- The byte j of bits. -/
def by8 (l : Nat → Nat) (j : Nat) : Nat :=
  ((((((l (8 * j) * 2 + l (8 * j + 1)) * 2 + l (8 * j + 2)) * 2 + l (8 * j + 3)) * 2 + l (8 * j + 4)) * 2 + l (8 * j + 5)) * 2 + l (8 * j + 6)) * 2 + l (8 * j + 7)
/-- The bytes from the bit n on: the byte j. -/
def shB (f : Nat → Nat) (n j : Nat) : Nat := f (j + n / 8) * 2 ^ (n % 8) % 256 + f (j + n / 8 + 1) / 2 ^ (8 - n % 8)
theorem bitF_lt (f : Nat → Nat) (k : Nat) : bitF f k < 2 := Nat.mod_lt _ (by decide)
theorem bitF_at (f : Nat → Nat) (j i : Nat) (hi : i < 8) : bitF f (8 * j + i) = f j / 2 ^ (7 - i) % 2 := by
  unfold bitF
  rw [show (8 * j + i) / 8 = j by omega, show (8 * j + i) % 8 = i by omega]
theorem bitF_put (f : Nat → Nat) (j q r i : Nat) (hr : r < 8) (hi : i < 8) : bitF f (8 * j + i + (8 * q + r)) = if i + r < 8 then f (j + q) / 2 ^ (7 - (i + r)) % 2 else f (j + q + 1) / 2 ^ (15 - (i + r)) % 2 := by
  unfold bitF
  by_cases h : i + r < 8
  · rw [if_pos h, show (8 * j + i + (8 * q + r)) / 8 = j + q by omega, show (8 * j + i + (8 * q + r)) % 8 = i + r by omega]
  · rw [if_neg h, show (8 * j + i + (8 * q + r)) / 8 = j + q + 1 by omega, show (8 * j + i + (8 * q + r)) % 8 = i + r - 8 by omega]
    congr 3; omega
theorem by8_bits (x : Nat) (h : x < 256) : ((((((x / 128 % 2 * 2 + x / 64 % 2) * 2 + x / 32 % 2) * 2 + x / 16 % 2) * 2 + x / 8 % 2) * 2 + x / 4 % 2) * 2 + x / 2 % 2) * 2 + x % 2 = x := by
  have H : ∀ x, x < 256 → ((((((x / 128 % 2 * 2 + x / 64 % 2) * 2 + x / 32 % 2) * 2 + x / 16 % 2) * 2 + x / 8 % 2) * 2 + x / 4 % 2) * 2 + x / 2 % 2) * 2 + x % 2 = x := by decide +kernel
  exact H x h
theorem hi0 : ∀ x, x < 256 → x / 128 % 2 * 128 + x / 64 % 2 * 64 + x / 32 % 2 * 32 + x / 16 % 2 * 16 + x / 8 % 2 * 8 + x / 4 % 2 * 4 + x / 2 % 2 * 2 + x % 2 * 1 = x * 1 % 256 := by decide +kernel
theorem hi1 : ∀ x, x < 256 → x / 64 % 2 * 128 + x / 32 % 2 * 64 + x / 16 % 2 * 32 + x / 8 % 2 * 16 + x / 4 % 2 * 8 + x / 2 % 2 * 4 + x % 2 * 2 = x * 2 % 256 := by decide +kernel
theorem lo1 : ∀ y, y < 256 → y / 128 % 2 * 1 = y / 128 := by decide +kernel
theorem hi2 : ∀ x, x < 256 → x / 32 % 2 * 128 + x / 16 % 2 * 64 + x / 8 % 2 * 32 + x / 4 % 2 * 16 + x / 2 % 2 * 8 + x % 2 * 4 = x * 4 % 256 := by decide +kernel
theorem lo2 : ∀ y, y < 256 → y / 128 % 2 * 2 + y / 64 % 2 * 1 = y / 64 := by decide +kernel
theorem hi3 : ∀ x, x < 256 → x / 16 % 2 * 128 + x / 8 % 2 * 64 + x / 4 % 2 * 32 + x / 2 % 2 * 16 + x % 2 * 8 = x * 8 % 256 := by decide +kernel
theorem lo3 : ∀ y, y < 256 → y / 128 % 2 * 4 + y / 64 % 2 * 2 + y / 32 % 2 * 1 = y / 32 := by decide +kernel
theorem hi4 : ∀ x, x < 256 → x / 8 % 2 * 128 + x / 4 % 2 * 64 + x / 2 % 2 * 32 + x % 2 * 16 = x * 16 % 256 := by decide +kernel
theorem lo4 : ∀ y, y < 256 → y / 128 % 2 * 8 + y / 64 % 2 * 4 + y / 32 % 2 * 2 + y / 16 % 2 * 1 = y / 16 := by decide +kernel
theorem hi5 : ∀ x, x < 256 → x / 4 % 2 * 128 + x / 2 % 2 * 64 + x % 2 * 32 = x * 32 % 256 := by decide +kernel
theorem lo5 : ∀ y, y < 256 → y / 128 % 2 * 16 + y / 64 % 2 * 8 + y / 32 % 2 * 4 + y / 16 % 2 * 2 + y / 8 % 2 * 1 = y / 8 := by decide +kernel
theorem hi6 : ∀ x, x < 256 → x / 2 % 2 * 128 + x % 2 * 64 = x * 64 % 256 := by decide +kernel
theorem lo6 : ∀ y, y < 256 → y / 128 % 2 * 32 + y / 64 % 2 * 16 + y / 32 % 2 * 8 + y / 16 % 2 * 4 + y / 8 % 2 * 2 + y / 4 % 2 * 1 = y / 4 := by decide +kernel
theorem hi7 : ∀ x, x < 256 → x % 2 * 128 = x * 128 % 256 := by decide +kernel
theorem lo7 : ∀ y, y < 256 → y / 128 % 2 * 64 + y / 64 % 2 * 32 + y / 32 % 2 * 16 + y / 16 % 2 * 8 + y / 8 % 2 * 4 + y / 4 % 2 * 2 + y / 2 % 2 * 1 = y / 2 := by decide +kernel
/-- What the bits from place r on of two bytes give. -/
theorem two_bytes (r : Nat) (hr : r < 8) (x y : Nat) (hx : x < 256) (hy : y < 256) :
    ((((((
      (if 0 + r < 8 then x / 2 ^ (7 - (0 + r)) % 2 else y / 2 ^ (15 - (0 + r)) % 2) * 2 + (if 1 + r < 8 then x / 2 ^ (7 - (1 + r)) % 2 else y / 2 ^ (15 - (1 + r)) % 2)) * 2 +
      (if 2 + r < 8 then x / 2 ^ (7 - (2 + r)) % 2 else y / 2 ^ (15 - (2 + r)) % 2)) * 2 + (if 3 + r < 8 then x / 2 ^ (7 - (3 + r)) % 2 else y / 2 ^ (15 - (3 + r)) % 2)) * 2 +
      (if 4 + r < 8 then x / 2 ^ (7 - (4 + r)) % 2 else y / 2 ^ (15 - (4 + r)) % 2)) * 2 + (if 5 + r < 8 then x / 2 ^ (7 - (5 + r)) % 2 else y / 2 ^ (15 - (5 + r)) % 2)) * 2 +
      (if 6 + r < 8 then x / 2 ^ (7 - (6 + r)) % 2 else y / 2 ^ (15 - (6 + r)) % 2)) * 2 + (if 7 + r < 8 then x / 2 ^ (7 - (7 + r)) % 2 else y / 2 ^ (15 - (7 + r)) % 2)
    = x * 2 ^ r % 256 + y / 2 ^ (8 - r) := by
  rcases (show r = 0 ∨ r = 1 ∨ r = 2 ∨ r = 3 ∨ r = 4 ∨ r = 5 ∨ r = 6 ∨ r = 7 by omega) with rfl | rfl | rfl | rfl | rfl | rfl | rfl | rfl
  · have h1 := hi0 x hx
    have h2 : y / 256 = 0 := by omega
    simp only [Nat.zero_add, Nat.reduceAdd, Nat.reduceLT, if_true, Nat.reduceSub, Nat.reducePow, Nat.div_one]
    generalize x % 2 = a0 at *
    generalize x / 2 % 2 = a1 at *
    generalize x / 4 % 2 = a2 at *
    generalize x / 8 % 2 = a3 at *
    generalize x / 16 % 2 = a4 at *
    generalize x / 32 % 2 = a5 at *
    generalize x / 64 % 2 = a6 at *
    generalize x / 128 % 2 = a7 at *
    generalize x * 1 % 256 = p at *
    generalize y / 256 = q at *
    clear hx hy
    omega
  · have h1 := hi1 x hx
    have h2 := lo1 y hy
    simp only [Nat.zero_add, Nat.reduceAdd, Nat.reduceLT, if_true, Nat.reduceSub, Nat.reducePow, Nat.div_one, if_false]
    generalize x % 2 = a0 at *
    generalize x / 2 % 2 = a1 at *
    generalize x / 4 % 2 = a2 at *
    generalize x / 8 % 2 = a3 at *
    generalize x / 16 % 2 = a4 at *
    generalize x / 32 % 2 = a5 at *
    generalize x / 64 % 2 = a6 at *
    generalize y / 128 % 2 = b0 at *
    generalize x * 2 % 256 = p at *
    generalize y / 128 = q at *
    clear hx hy
    omega
  · have h1 := hi2 x hx
    have h2 := lo2 y hy
    simp only [Nat.zero_add, Nat.reduceAdd, Nat.reduceLT, if_true, Nat.reduceSub, Nat.reducePow, Nat.div_one, if_false]
    generalize x % 2 = a0 at *
    generalize x / 2 % 2 = a1 at *
    generalize x / 4 % 2 = a2 at *
    generalize x / 8 % 2 = a3 at *
    generalize x / 16 % 2 = a4 at *
    generalize x / 32 % 2 = a5 at *
    generalize y / 128 % 2 = b0 at *
    generalize y / 64 % 2 = b1 at *
    generalize x * 4 % 256 = p at *
    generalize y / 64 = q at *
    clear hx hy
    omega
  · have h1 := hi3 x hx
    have h2 := lo3 y hy
    simp only [Nat.zero_add, Nat.reduceAdd, Nat.reduceLT, if_true, Nat.reduceSub, Nat.reducePow, Nat.div_one, if_false]
    generalize x % 2 = a0 at *
    generalize x / 2 % 2 = a1 at *
    generalize x / 4 % 2 = a2 at *
    generalize x / 8 % 2 = a3 at *
    generalize x / 16 % 2 = a4 at *
    generalize y / 128 % 2 = b0 at *
    generalize y / 64 % 2 = b1 at *
    generalize y / 32 % 2 = b2 at *
    generalize x * 8 % 256 = p at *
    generalize y / 32 = q at *
    clear hx hy
    omega
  · have h1 := hi4 x hx
    have h2 := lo4 y hy
    simp only [Nat.zero_add, Nat.reduceAdd, Nat.reduceLT, if_true, Nat.reduceSub, Nat.reducePow, Nat.div_one, if_false]
    generalize x % 2 = a0 at *
    generalize x / 2 % 2 = a1 at *
    generalize x / 4 % 2 = a2 at *
    generalize x / 8 % 2 = a3 at *
    generalize y / 128 % 2 = b0 at *
    generalize y / 64 % 2 = b1 at *
    generalize y / 32 % 2 = b2 at *
    generalize y / 16 % 2 = b3 at *
    generalize x * 16 % 256 = p at *
    generalize y / 16 = q at *
    clear hx hy
    omega
  · have h1 := hi5 x hx
    have h2 := lo5 y hy
    simp only [Nat.zero_add, Nat.reduceAdd, Nat.reduceLT, if_true, Nat.reduceSub, Nat.reducePow, Nat.div_one, if_false]
    generalize x % 2 = a0 at *
    generalize x / 2 % 2 = a1 at *
    generalize x / 4 % 2 = a2 at *
    generalize y / 128 % 2 = b0 at *
    generalize y / 64 % 2 = b1 at *
    generalize y / 32 % 2 = b2 at *
    generalize y / 16 % 2 = b3 at *
    generalize y / 8 % 2 = b4 at *
    generalize x * 32 % 256 = p at *
    generalize y / 8 = q at *
    clear hx hy
    omega
  · have h1 := hi6 x hx
    have h2 := lo6 y hy
    simp only [Nat.zero_add, Nat.reduceAdd, Nat.reduceLT, if_true, Nat.reduceSub, Nat.reducePow, Nat.div_one, if_false]
    generalize x % 2 = a0 at *
    generalize x / 2 % 2 = a1 at *
    generalize y / 128 % 2 = b0 at *
    generalize y / 64 % 2 = b1 at *
    generalize y / 32 % 2 = b2 at *
    generalize y / 16 % 2 = b3 at *
    generalize y / 8 % 2 = b4 at *
    generalize y / 4 % 2 = b5 at *
    generalize x * 64 % 256 = p at *
    generalize y / 4 = q at *
    clear hx hy
    omega
  · have h1 := hi7 x hx
    have h2 := lo7 y hy
    simp only [Nat.zero_add, Nat.reduceAdd, Nat.reduceLT, if_true, Nat.reduceSub, Nat.reducePow, Nat.div_one, if_false]
    generalize x % 2 = a0 at *
    generalize y / 128 % 2 = b0 at *
    generalize y / 64 % 2 = b1 at *
    generalize y / 32 % 2 = b2 at *
    generalize y / 16 % 2 = b3 at *
    generalize y / 8 % 2 = b4 at *
    generalize y / 4 % 2 = b5 at *
    generalize y / 2 % 2 = b6 at *
    generalize x * 128 % 256 = p at *
    generalize y / 2 = q at *
    clear hx hy
    omega
theorem by8_shift (f : Nat → Nat) (hf : ∀ j, f j < 256) (n j : Nat) : by8 (fun k => bitF f (k + n)) j = shB f n j := by
  have e := fun i (hi : i < 8) => bitF_put f j (n / 8) (n % 8) i (by omega) hi
  rw [show 8 * (n / 8) + n % 8 = n by omega] at e
  unfold by8 shB
  dsimp only
  have e0 := e 0 (by omega)
  rw [Nat.add_zero] at e0
  rw [e0, e 1 (by omega), e 2 (by omega), e 3 (by omega), e 4 (by omega), e 5 (by omega), e 6 (by omega), e 7 (by omega)]
  exact two_bytes (n % 8) (by omega) _ _ (hf _) (hf _)
theorem by8_congr {l m : Nat → Nat} (j : Nat) (h : ∀ i, i < 8 → l (8 * j + i) = m (8 * j + i)) : by8 l j = by8 m j := by
  unfold by8
  have h0 := h 0 (by omega)
  rw [Nat.add_zero] at h0
  rw [h0, h 1 (by omega), h 2 (by omega), h 3 (by omega), h 4 (by omega), h 5 (by omega), h 6 (by omega), h 7 (by omega)]
/-! ### Doubled and halved -/
/-- What lies behind n bytes is 0. -/
def cut (n : Nat) (f : Nat → Nat) (j : Nat) : Nat := if j < n then f j else 0
theorem cut_lt {n : Nat} {f : Nat → Nat} (h : ∀ j, j < n → f j < 256) (j : Nat) : cut n f j < 256 := by
  unfold cut; split
  · exact h j (by assumption)
  · omega
def dbF (f : Nat → Nat) (j : Nat) : Nat := shB (cut 16 f) 1 j ^^^ (if j = 15 then f 0 / 128 * 135 else 0)
def hvG (f : Nat → Nat) (j : Nat) : Nat := f j ^^^ (if j = 15 then f 15 % 2 * 135 else 0)
def hvF (f : Nat → Nat) (j : Nat) : Nat := hvG f j / 2 + (if j = 0 then f 15 % 2 else hvG f (j - 1) % 2) * 128
theorem shB_one (f : Nat → Nat) (j : Nat) : shB f 1 j = f j * 2 % 256 + f (j + 1) / 128 := by simp [shB]
theorem x135 : ∀ x, x < 256 → (x ^^^ 135) % 2 = (x + 1) % 2 ∧ x ^^^ 135 < 256 := by decide +kernel
theorem bit135 (c : Nat) (hc : c < 2) (x : Nat) (hx : x < 256) : (x ^^^ c * 135) % 2 = (x + c) % 2 ∧ x ^^^ c * 135 < 256 := by
  rcases (show c = 0 ∨ c = 1 by omega) with rfl | rfl
  · simp; omega
  · rw [Nat.one_mul]; exact x135 x hx
theorem dbF_lt {f : Nat → Nat} (h : B16 f) : B16 (dbF f) := fun j hj => by
  unfold dbF
  rw [shB_one]
  have h1 := cut_lt h j
  have h2 := cut_lt h (j + 1)
  have h0 := h 0 (by omega)
  refine xor_lt _ _ (by omega) ?_
  split <;> omega
theorem hvG_lt {f : Nat → Nat} (h : B16 f) : B16 (hvG f) := fun j hj => by
  unfold hvG
  refine xor_lt _ _ (h j hj) ?_
  split <;> omega
theorem hvF_lt {f : Nat → Nat} (h : B16 f) : B16 (hvF f) := fun j hj => by
  have h1 := hvG_lt h j hj
  unfold hvF
  split <;> omega
theorem hvG_db {f : Nat → Nat} (h : B16 f) (j : Nat) (hj : j < 16) : dbF f 15 % 2 = f 0 / 128 ∧ hvG (dbF f) j = shB (cut 16 f) 1 j := by
  have h0 := h 0 (by omega)
  have hc : f 0 / 128 < 2 := by omega
  have h15 := cut_lt h 15
  have e : dbF f 15 % 2 = f 0 / 128 := by
    unfold dbF
    rw [if_pos rfl]
    have hs : shB (cut 16 f) 1 15 = cut 16 f 15 * 2 % 256 := by rw [shB_one]; simp [cut]
    rw [hs, (bit135 _ hc _ (by omega)).1]
    omega
  refine ⟨e, ?_⟩
  unfold hvG
  rw [e]
  unfold dbF
  rw [xor_cancel]
theorem hv_db {f : Nat → Nat} (h : B16 f) : E16 (hvF (dbF f)) f := fun j hj => by
  have h1 := h j hj
  unfold hvF
  rw [(hvG_db h j hj).2, (hvG_db h j hj).1, shB_one]
  have c0 : cut 16 f j = f j := if_pos hj
  by_cases h0 : j = 0
  · subst h0
    rw [if_pos rfl, c0]
    have := cut_lt h (0 + 1)
    omega
  · rw [if_neg h0, (hvG_db h (j - 1) (by omega)).2, shB_one, show j - 1 + 1 = j by omega, c0]
    have := cut_lt h (j + 1)
    have := cut_lt h (j - 1)
    omega
theorem db_hv {f : Nat → Nat} (h : B16 f) : E16 (dbF (hvF f)) f := fun j hj => by
  have hg := hvG_lt h
  have h15 := h 15 (by omega)
  have hc : f 15 % 2 < 2 := by omega
  have g15 : hvG f 15 % 2 = 0 := by
    unfold hvG
    rw [if_pos rfl, (bit135 _ hc _ h15).1]
    omega
  have hh := hvF_lt h
  have t0 : hvF f 0 / 128 = f 15 % 2 := by
    have := hg 0 (by omega)
    unfold hvF
    rw [if_pos rfl]; omega
  have s1 : shB (cut 16 (hvF f)) 1 j = hvG f j := by
    rw [shB_one, show cut 16 (hvF f) j = hvF f j from if_pos hj]
    have gj := hg j hj
    have a1 : hvF f j * 2 % 256 = hvG f j / 2 * 2 := by
      unfold hvF
      split <;> omega
    rw [a1]
    by_cases hj15 : j = 15
    · subst hj15
      rw [show cut 16 (hvF f) (15 + 1) = 0 from if_neg (by omega)]; omega
    · rw [show cut 16 (hvF f) (j + 1) = hvF f (j + 1) from if_pos (by omega)]
      have g1 := hg (j + 1) (by omega)
      have a2 : hvF f (j + 1) / 128 = hvG f j % 2 := by
        unfold hvF
        rw [if_neg (by omega), Nat.add_sub_cancel]; omega
      rw [a2]; omega
  unfold dbF
  rw [s1, t0]
  unfold hvG
  exact xor_cancel _ _
theorem add_xor : ∀ a, a < 128 → ∀ b, b < 2 → a * 2 + b = a * 2 ^^^ b := by decide +kernel
theorem sh_xor (x y : Nat) : (x ^^^ y) * 2 % 256 = (x * 2 % 256) ^^^ (y * 2 % 256) := by
  have e : ∀ z : Nat, z * 2 = z <<< 1 := fun z => by rw [Nat.shiftLeft_eq]
  rw [e, e, e, Nat.shiftLeft_xor_distrib, show 256 = 2 ^ 8 from rfl, Nat.xor_mod_two_pow]
theorem hi_xor (x y : Nat) : (x ^^^ y) / 128 = (x / 128) ^^^ (y / 128) := by
  have e : ∀ z : Nat, z / 128 = z >>> 7 := fun z => by rw [Nat.shiftRight_eq_div_pow]
  rw [e, e, e, Nat.shiftRight_xor_distrib]
theorem m135 (p q : Nat) (hp : p < 2) (hq : q < 2) : (p ^^^ q) * 135 = p * 135 ^^^ q * 135 := by
  rcases (show p = 0 ∨ p = 1 by omega) with rfl | rfl <;> rcases (show q = 0 ∨ q = 1 by omega) with rfl | rfl <;> decide
theorem shB_xor (f g : Nat → Nat) (hf : ∀ j, f j < 256) (hg : ∀ j, g j < 256) (j : Nat) : shB (fun i => f i ^^^ g i) 1 j = shB f 1 j ^^^ shB g 1 j := by
  have hx : ∀ z, z < 256 → ∀ y, y < 256 → z * 2 % 256 + y / 128 = (z * 2 % 256) ^^^ (y / 128) := fun z hz y hy => by
    have := add_xor (z % 128) (by omega) (y / 128) (by omega)
    rwa [show z % 128 * 2 = z * 2 % 256 by omega] at this
  rw [shB_one, shB_one, shB_one, hx _ (hf j) _ (hf (j + 1)), hx _ (hg j) _ (hg (j + 1)), hx _ (xor_lt _ _ (hf j) (hg j)) _ (xor_lt _ _ (hf (j + 1)) (hg (j + 1))), sh_xor, hi_xor]
  ac_rfl
theorem db_ad {f g : Nat → Nat} (hf : B16 f) (hg : B16 g) (j : Nat) : dbF (adF f g) j = adF (dbF f) (dbF g) j := by
  have e : cut 16 (adF f g) = fun i => cut 16 f i ^^^ cut 16 g i := by
    funext i; unfold cut adF; split <;> simp
  have h0 := hf 0 (by omega)
  have h1 := hg 0 (by omega)
  show shB (cut 16 (adF f g)) 1 j ^^^ (if j = 15 then (f 0 ^^^ g 0) / 128 * 135 else 0) = (shB (cut 16 f) 1 j ^^^ (if j = 15 then f 0 / 128 * 135 else 0)) ^^^ (shB (cut 16 g) 1 j ^^^ (if j = 15 then g 0 / 128 * 135 else 0))
  rw [e, shB_xor _ _ (cut_lt hf) (cut_lt hg)]
  by_cases hj : j = 15
  · simp only [if_pos hj]
    rw [hi_xor, m135 _ _ (by omega) (by omega)]
    ac_rfl
  · simp only [if_neg hj, Nat.xor_zero]
end Go.Proofs.YtblhfmlgpldaeaaDoor
