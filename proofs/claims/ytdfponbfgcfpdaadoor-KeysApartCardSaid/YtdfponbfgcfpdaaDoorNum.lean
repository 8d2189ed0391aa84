/-
  Plain arithmetic on bytes, words and bits: numbers of bytes, rotations, exclusive or, zeros below the lowest bit. No condition; nothing of the program is named here.
-/
import Derived.WalkKit
import Derived.Laws.BitsLemmas
import Derived.Laws.Bits64
import Derived.IntWalk
namespace Go.Proofs.YtdfponbfgcfpdaaDoor

/-! ### Bit operations of the model on numbers that fit -/
theorem bits_xor_nat (k : IntKind) (j : Nat) (hj : j ≤ k.bits) (hk : ∀ n : Int, 0 ≤ n → n < 2 ^ j → k.wrap n = n) (a b : Nat) (ha : a < 2 ^ j) (hb : b < 2 ^ j) :
    bits .xor k a b = ((a ^^^ b : Nat) : Int) := by
  have hp : 2 ^ j ≤ 2 ^ k.bits := Nat.pow_le_pow_right (by decide) hj
  have ha' : a % 2 ^ k.bits = a := Nat.mod_eq_of_lt (Nat.lt_of_lt_of_le ha hp)
  have hb' : b % 2 ^ k.bits = b := Nat.mod_eq_of_lt (Nat.lt_of_lt_of_le hb hp)
  have hx : a ^^^ b < 2 ^ j := Nat.xor_lt_two_pow ha hb
  simp only [bits, BitVec.ofInt_natCast, BitVec.toNat_xor, BitVec.toNat_ofNat, ha', hb']
  exact hk _ (Int.natCast_nonneg _) (by exact_mod_cast hx)

theorem wraps_u32' (n : Int) (h₀ : 0 ≤ n) (h₁ : n < 2 ^ 32) : IntKind.u32.wrap n = n := by rw [IntKind.wrap_u32]; omega
theorem wraps_u64' (n : Int) (h₀ : 0 ≤ n) (h₁ : n < 2 ^ 64) : IntKind.u64.wrap n = n := by rw [IntKind.wrap_u64]; omega
theorem wraps_i64' (n : Int) (h₀ : 0 ≤ n) (h₁ : n < 2 ^ 63) : IntKind.i64.wrap n = n := by rw [IntKind.wrap_i64]; omega

theorem xor_u8 (a b : UInt8) : bits .xor .u8 (a.toNat : Int) (b.toNat : Int) = ((a ^^^ b).toNat : Int) := by
  rw [bits_xor_nat .u8 8 (by decide) wraps_u8 _ _ a.toNat_lt b.toNat_lt, UInt8.toNat_xor]
theorem or_u8 (a b : Nat) (ha : a < 256) (hb : b < 256) : bits .or .u8 (a : Int) (b : Int) = ((a ||| b : Nat) : Int) :=
  (bits_nat .u8 8 (by decide) wraps_u8 a b ha hb).2
theorem or_u32 (a b : Nat) (ha : a < 4294967296) (hb : b < 4294967296) : bits .or .u32 (a : Int) (b : Int) = ((a ||| b : Nat) : Int) :=
  (bits_nat .u32 32 (by decide) wraps_u32' a b ha hb).2
theorem or_u64 (a b : Nat) (ha : a < 18446744073709551616) (hb : b < 18446744073709551616) : bits .or .u64 (a : Int) (b : Int) = ((a ||| b : Nat) : Int) :=
  (bits_nat .u64 64 (by decide) wraps_u64' a b ha hb).2
theorem and1_u64 (a : Nat) (ha : a < 18446744073709551616) : bits .and .u64 (a : Int) 1 = ((a % 2 : Nat) : Int) := by
  have h := (bits_nat .u64 64 (by decide) wraps_u64' a 1 ha (by decide)).1
  rw [Nat.and_one_is_mod] at h
  exact h
theorem and1_i64 (a : Nat) (ha : a < 9223372036854775808) : bits .and .i64 (a : Int) 1 = ((a % 2 : Nat) : Int) := by
  have h := (bits_nat .i64 63 (by decide) wraps_i64' a 1 ha (by decide)).1
  rw [Nat.and_one_is_mod] at h
  exact h

/-! ### The number of bytes -/
theorem snoc_ind {α : Type} {P : List α → Prop} (h0 : P []) (h1 : ∀ l a, P l → P (l ++ [a])) (l : List α) : P l := by
  have H : ∀ r : List α, P r.reverse := by
    intro r
    induction r with
    | nil => exact h0
    | cons a r ih => rw [List.reverse_cons]; exact h1 _ _ ih
  have := H l.reverse
  rwa [List.reverse_reverse] at this
def val (l : List UInt8) : Nat := l.foldl (fun x b => x * 256 + b.toNat) 0
def num (l : List UInt8) : Nat := val l % 18446744073709551616

theorem val_snoc (l : List UInt8) (b : UInt8) : val (l ++ [b]) = val l * 256 + b.toNat := by
  unfold val; rw [List.foldl_append]; rfl
theorem val_append (a b : List UInt8) : val (a ++ b) = val a * 256 ^ b.length + val b := by
  refine snoc_ind (P := fun b => val (a ++ b) = val a * 256 ^ b.length + val b) ?_ ?_ b
  · simp [val]
  · intro b x ih
    rw [← List.append_assoc, val_snoc, ih, val_snoc, List.length_append, Nat.add_mul, Nat.mul_assoc, List.length_singleton, Nat.pow_succ]
    omega
theorem num_lt (l : List UInt8) : num l < 18446744073709551616 := Nat.mod_lt _ (by decide)
theorem num_snoc (l : List UInt8) (b : UInt8) : num (l ++ [b]) = (num l * 256 + b.toNat) % 18446744073709551616 := by
  unfold num; rw [val_snoc]; omega
theorem num_take (l : List UInt8) (k : Nat) (h : k < l.length) : num (l.take (k + 1)) = (num (l.take k) * 256 + (l[k]?.getD 0).toNat) % 18446744073709551616 := by
  rw [List.take_succ_eq_append_getElem h, num_snoc]
  simp [List.getElem?_eq_getElem h]
/-- The last 8 bytes decide. -/
theorem num_last (a b : List UInt8) (h : b.length = 8) : num (a ++ b) = num b := by
  unfold num
  rw [val_append, h]
  have : (256 : Nat) ^ 8 = 18446744073709551616 := by decide
  omega

/-- The k bytes of a number, the highest first. -/
def byt (x : Nat) : Nat → List UInt8
  | 0 => []
  | k + 1 => UInt8.ofNat (x / 256 ^ k) :: byt x k
theorem byt_len (x k : Nat) : (byt x k).length = k := by
  induction k with
  | zero => rfl
  | succ k ih => simp [byt, ih]
theorem byt_snoc (x k : Nat) : byt x (k + 1) = byt (x / 256) k ++ [UInt8.ofNat x] := by
  induction k with
  | zero => simp [byt]
  | succ k ih =>
    rw [byt, ih, byt]
    simp only [List.cons_append]
    rw [Nat.div_div_eq_div_mul, ← Nat.pow_succ']
theorem byt_mod (x : Nat) : ∀ k, byt (x % 256 ^ k) k = byt x k := by
  intro k
  induction k generalizing x with
  | zero => rfl
  | succ k ih =>
    have h1 : x % 256 ^ (k + 1) / 256 = x / 256 % 256 ^ k := by
      rw [Nat.pow_succ', Nat.mod_mul_right_div_self]
    have h2 : UInt8.ofNat (x % 256 ^ (k + 1)) = UInt8.ofNat x := by
      apply UInt8.toNat_inj.1
      simp only [UInt8.toNat_ofNat']
      exact Nat.mod_mod_of_dvd _ ⟨256 ^ k, by rw [Nat.pow_succ']⟩
    rw [byt_snoc, byt_snoc, h1, h2, ih]
theorem byt_val (l : List UInt8) : byt (val l) l.length = l := by
  refine snoc_ind (P := fun l => byt (val l) l.length = l) rfl ?_ l
  · intro l b ih
    have hb := b.toNat_lt
    have h1 : (val l * 256 + b.toNat) / 256 = val l := by omega
    have h2 : UInt8.ofNat (val l * 256 + b.toNat) = b := by
      apply UInt8.toNat_inj.1
      simp only [UInt8.toNat_ofNat']
      omega
    rw [List.length_append, List.length_singleton, byt_snoc, val_snoc, h1, h2, ih]
theorem val_byt (x k : Nat) : val (byt x k) = x % 256 ^ k := by
  induction k generalizing x with
  | zero => simp [byt, val, Nat.mod_one]
  | succ k ih =>
    have e : x % 256 ^ (k + 1) = x % 256 + 256 * (x / 256 % 256 ^ k) := by rw [Nat.pow_succ']; exact Nat.mod_mul
    have e2 : (UInt8.ofNat x).toNat = x % 256 := UInt8.toNat_ofNat'
    rw [byt_snoc, val_snoc, ih, e, e2, Nat.mul_comm, Nat.add_comm]
theorem pow256_le (k : Nat) (h : k ≤ 8) : 256 ^ k ≤ 18446744073709551616 := by
  have : (256 : Nat) ^ 8 = 18446744073709551616 := by decide
  rw [← this]; exact Nat.pow_le_pow_right (by decide) h
theorem num_byt (x k : Nat) (h : k ≤ 8) : num (byt x k) = x % 256 ^ k := by
  unfold num
  rw [val_byt, Nat.mod_eq_of_lt]
  exact Nat.lt_of_lt_of_le (Nat.mod_lt _ (Nat.pow_pos (by decide))) (pow256_le k h)
/-- The bytes of the number of bytes are the last 8 of them. -/
theorem byt_num (l : List UInt8) : byt (num l) (min l.length 8) = l.drop (l.length - min l.length 8) := by
  rcases Nat.lt_or_ge l.length 8 with h | h
  · rw [Nat.min_eq_left (by omega), Nat.sub_self, List.drop_zero]
    have h1 : num l = val l % 256 ^ l.length % 18446744073709551616 ∧ val l % 256 ^ l.length = val l := by
      have h2 : val l < 256 ^ l.length := by
        have h3 := val_byt (val l) l.length
        rw [byt_val] at h3
        rw [h3]; exact Nat.mod_lt _ (Nat.pow_pos (by decide))
      refine ⟨?_, Nat.mod_eq_of_lt h2⟩
      rw [Nat.mod_eq_of_lt h2]; rfl
    have h4 : num l = val l := by
      rw [h1.1, h1.2, Nat.mod_eq_of_lt]
      have := Nat.mod_lt (val l) (Nat.pow_pos (n := l.length) (show 0 < 256 by decide))
      rw [h1.2] at this
      exact Nat.lt_of_lt_of_le this (pow256_le _ (by omega))
    rw [h4, byt_val]
  · rw [Nat.min_eq_right h]
    have h1 : (l.drop (l.length - 8)).length = 8 := by simp; omega
    have h2 : num l = num (l.drop (l.length - 8)) := by
      conv => lhs; rw [← List.take_append_drop (l.length - 8) l]
      exact num_last _ _ h1
    have h3 := byt_val (l.drop (l.length - 8))
    rw [h1] at h3
    have h4 := byt_mod (val (l.drop (l.length - 8))) 8
    rw [h3] at h4
    rw [h2]
    exact h4
theorem num_drop (l : List UInt8) : num (l.drop (l.length - 8)) = num l := by
  rcases Nat.lt_or_ge l.length 8 with h | h
  · rw [show l.length - 8 = 0 by omega, List.drop_zero]
  · conv => rhs; rw [← List.take_append_drop (l.length - 8) l]
    exact (num_last _ _ (by simp; omega)).symm

/-! ### Rotations -/
def rot1 (x : Nat) : Nat := (x * 2 + x / 2147483648) % 4294967296
def rotN (x : Nat) : Nat → Nat
  | 0 => x
  | k + 1 => rot1 (rotN x k)
theorem rotN_add (x a : Nat) : ∀ b, rotN (rotN x a) b = rotN x (a + b)
  | 0 => rfl
  | b + 1 => by rw [rotN, rotN_add x a b]; rfl
def rotC (x k : Nat) : Nat := x * 2 ^ k % 4294967296 + x / 2 ^ (32 - k)
theorem rotC_eq (x k : Nat) (hk : k ≤ 32) : rotC x k = x % 2 ^ (32 - k) * 2 ^ k + x / 2 ^ (32 - k) := by
  unfold rotC
  rw [show 4294967296 = 2 ^ k * 2 ^ (32 - k) by rw [← Nat.pow_add, show k + (32 - k) = 32 by omega], Nat.mul_comm x, Nat.mul_mod_mul_left, Nat.mul_comm (2 ^ k)]
theorem rot_step (x K M : Nat) (hKM : M * K = 2147483648) (hx : x < 4294967296) :
    rot1 (x % (M * 2) * K + x / (M * 2)) = x % M * (K * 2) + x / M := by
  have hM : 0 < M := Nat.pos_of_ne_zero (by rintro rfl; simp at hKM)
  have e1 : x % (M * 2) = x % M + M * (x / M % 2) := Nat.mod_mul
  have e2 : x / (M * 2) = x / M / 2 := by rw [Nat.div_div_eq_div_mul]
  have e3 : M * (x / M % 2) * K = 2147483648 * (x / M % 2) := by rw [Nat.mul_right_comm, hKM]
  have e4 : x % M * (K * 2) = x % M * K * 2 := by rw [Nat.mul_assoc]
  have h1 : (x % M + 1) * K ≤ M * K := Nat.mul_le_mul_right K (Nat.mod_lt x hM)
  have h2 : x / M < K * 2 := by rw [Nat.div_lt_iff_lt_mul hM, Nat.mul_right_comm, Nat.mul_comm K M, hKM]; omega
  rw [e1, e2, Nat.add_mul, e3, e4]
  rw [Nat.add_mul, Nat.one_mul, hKM] at h1
  generalize x % M * K = Y at *
  generalize x / M = q at *
  unfold rot1
  have h3 : (Y + 2147483648 * (q % 2) + q / 2) / 2147483648 = q % 2 := by omega
  rw [h3]
  omega
theorem rotC_succ (x k : Nat) (hx : x < 4294967296) (hk : k < 32) : rot1 (rotC x k) = rotC x (k + 1) := by
  rw [rotC_eq x k (by omega), rotC_eq x (k + 1) (by omega)]
  have h1 : 2 ^ (32 - k) = 2 ^ (32 - (k + 1)) * 2 := by rw [← Nat.pow_succ]; congr 1; omega
  have h2 : 2 ^ (32 - (k + 1)) * 2 ^ k = 2147483648 := by rw [← Nat.pow_add, show 32 - (k + 1) + k = 31 by omega]
  rw [h1, Nat.pow_succ 2 k]
  exact rot_step x (2 ^ k) (2 ^ (32 - (k + 1))) h2 hx
theorem rotN_eq (x : Nat) (hx : x < 4294967296) : ∀ k, k ≤ 32 → rotN x k = rotC x k
  | 0, _ => by unfold rotN rotC; simp; omega
  | k + 1, h => by rw [rotN, rotN_eq x hx k (by omega), rotC_succ x k hx (by omega)]
theorem rotN_lt (x : Nat) (hx : x < 4294967296) : ∀ k, rotN x k < 4294967296
  | 0 => hx
  | _ + 1 => Nat.mod_lt _ (by decide)
theorem rotN_32 (x : Nat) (hx : x < 4294967296) : rotN x 32 = x := by
  rw [rotN_eq x hx 32 (Nat.le_refl _)]; unfold rotC; simp
theorem rot_or (x k : Nat) (hx : x < 4294967296) (hk : k < 32) : x * 2 ^ k % 4294967296 ||| x / 2 ^ (32 - k) = rotN x k := by
  rw [rotN_eq x hx k (by omega)]
  unfold rotC
  have h1 : x / 2 ^ (32 - k) < 2 ^ k := by
    rw [Nat.div_lt_iff_lt_mul (Nat.two_pow_pos _), ← Nat.pow_add, show k + (32 - k) = 32 by omega]
    exact hx
  have h2 : x * 2 ^ k % 4294967296 = 2 ^ k * (x % 2 ^ (32 - k)) := by
    rw [show 4294967296 = 2 ^ k * 2 ^ (32 - k) by rw [← Nat.pow_add, show k + (32 - k) = 32 by omega], Nat.mul_comm, Nat.mul_mod_mul_left]
  rw [h2, Nat.two_pow_add_eq_or_of_lt h1]

/-! ### Zeros below the lowest bit 1 -/
def zerF (x : Nat) : Nat → Nat → Nat
  | 0, i => i
  | f + 1, i => if x / 2 ^ i % 2 = 1 then i else zerF x f (i + 1)
def zer (x : Nat) : Nat := zerF x 64 0
theorem zerF_eq (x r : Nat) : ∀ f i, i ≤ r → r ≤ i + f → (∀ j, i ≤ j → j < r → x / 2 ^ j % 2 = 0) → (r < i + f → x / 2 ^ r % 2 = 1) → zerF x f i = r
  | 0, i, h1, h2, _, _ => by unfold zerF; omega
  | f + 1, i, h1, h2, h3, h4 => by
    unfold zerF
    by_cases hr : i = r
    · subst hr
      rw [if_pos (h4 (by omega))]
    · rw [if_neg (by rw [h3 i (Nat.le_refl _) (by omega)]; decide)]
      exact zerF_eq x r f (i + 1) (by omega) (by omega) (fun j a b => h3 j (by omega) b) (fun h => h4 (by omega))
theorem zer_eq (x r : Nat) (h2 : r ≤ 64) (h3 : ∀ j, j < r → x / 2 ^ j % 2 = 0) (h4 : r < 64 → x / 2 ^ r % 2 = 1) : zer x = r :=
  zerF_eq x r 64 0 (Nat.zero_le _) (by omega) (fun j _ b => h3 j b) (fun h => h4 (by omega))

/-! ### Exclusive or of strings, and a bit of a string -/
def xorL (a b : List UInt8) : List UInt8 := List.zipWith (· ^^^ ·) a b
theorem xorL_len (a b : List UInt8) : (xorL a b).length = min a.length b.length := by simp [xorL]
theorem xorL_get (a b : List UInt8) (k : Nat) (ha : k < a.length) (hb : k < b.length) : (xorL a b)[k]? = some (a[k]?.getD 0 ^^^ b[k]?.getD 0) := by
  simp [xorL, List.getElem?_zipWith, List.getElem?_eq_getElem ha, List.getElem?_eq_getElem hb]
theorem xorL_twice (a b : List UInt8) : xorL (xorL a b) b = a.take (min a.length b.length) := by
  apply List.ext_getElem?
  intro i
  by_cases h : i < min a.length b.length
  · have ha : i < a.length := by omega
    have hb : i < b.length := by omega
    rw [xorL_get _ _ _ (by rw [xorL_len]; exact h) hb, xorL_get _ _ _ ha hb, List.getElem?_take_of_lt h]
    simp [List.getElem?_eq_getElem ha, List.getElem?_eq_getElem hb, UInt8.xor_assoc]
  · rw [List.getElem?_eq_none (by simp [xorL_len]; omega), List.getElem?_eq_none (by simp; omega)]
def bitOf (l : List UInt8) (k : Nat) : Nat := (l[k / 8]?.getD 0).toNat / 2 ^ (7 - k % 8) % 2
end Go.Proofs.YtdfponbfgcfpdaaDoor
