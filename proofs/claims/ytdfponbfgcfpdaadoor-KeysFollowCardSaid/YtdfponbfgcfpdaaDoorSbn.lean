/-
  Plain arithmetic of the table of AES: the S-boxes as a list, the affine image, powers of 3; words whose bytes are replaced. No condition but that the numbers are bytes or words; nothing of the program is named here.
-/
import Derived.Test.YtdfponbfgcfpdaaDoorFld
namespace Go.Proofs.YtdfponbfgcfpdaaDoor
set_option linter.unusedVariables false

def boxL : List Nat := [
  99, 124, 119, 123, 242, 107, 111, 197, 48, 1, 103, 43, 254, 215, 171, 118,
  202, 130, 201, 125, 250, 89, 71, 240, 173, 212, 162, 175, 156, 164, 114, 192,
  183, 253, 147, 38, 54, 63, 247, 204, 52, 165, 229, 241, 113, 216, 49, 21,
  4, 199, 35, 195, 24, 150, 5, 154, 7, 18, 128, 226, 235, 39, 178, 117,
  9, 131, 44, 26, 27, 110, 90, 160, 82, 59, 214, 179, 41, 227, 47, 132,
  83, 209, 0, 237, 32, 252, 177, 91, 106, 203, 190, 57, 74, 76, 88, 207,
  208, 239, 170, 251, 67, 77, 51, 133, 69, 249, 2, 127, 80, 60, 159, 168,
  81, 163, 64, 143, 146, 157, 56, 245, 188, 182, 218, 33, 16, 255, 243, 210,
  205, 12, 19, 236, 95, 151, 68, 23, 196, 167, 126, 61, 100, 93, 25, 115,
  96, 129, 79, 220, 34, 42, 144, 136, 70, 238, 184, 20, 222, 94, 11, 219,
  224, 50, 58, 10, 73, 6, 36, 92, 194, 211, 172, 98, 145, 149, 228, 121,
  231, 200, 55, 109, 141, 213, 78, 169, 108, 86, 244, 234, 101, 122, 174, 8,
  186, 120, 37, 46, 28, 166, 180, 198, 232, 221, 116, 31, 75, 189, 139, 138,
  112, 62, 181, 102, 72, 3, 246, 14, 97, 53, 87, 185, 134, 193, 29, 158,
  225, 248, 152, 17, 105, 217, 142, 148, 155, 30, 135, 233, 206, 85, 40, 223,
  140, 161, 137, 13, 191, 230, 66, 104, 65, 153, 45, 15, 176, 84, 187, 22]
def sb (b : Nat) : Nat := boxL.getD b 0
theorem boxL_len : boxL.length = 256 := by decide +kernel
theorem boxL_get (b : Nat) (h : b < 256) : boxL[b]? = some (sb b) := by
  rw [sb, List.getD_eq_getElem?_getD, List.getElem?_eq_getElem (by rw [boxL_len]; exact h)]; rfl
theorem sb_lt (b : Nat) : sb b < 256 := by
  rcases Nat.lt_or_ge b 256 with h | h
  · have H : ∀ b, b < 256 → sb b < 256 := by decide +kernel
    exact H b h
  · rw [sb, List.getD_eq_getElem?_getD, List.getElem?_eq_none (by rw [boxL_len]; exact h)]; decide

/-! ### The affine image -/
def rl (b n : Nat) : Nat := (b * 2 ^ n % 256) ||| (b / 2 ^ (8 - n))
def affK (b : Nat) : Nat → Nat
  | 0 => 99 ^^^ b
  | n + 1 => affK b n ^^^ rl b (n + 1)
def aff (b : Nat) : Nat := affK b 4
theorem aff_lt (b : Nat) (h : b < 256) : aff b < 256 := by
  have H : ∀ b, b < 256 → aff b < 256 := by decide +kernel
  exact H b h
theorem affK_lt (b : Nat) (h : b < 256) (n : Nat) (hn : n ≤ 4) : affK b n < 256 := by
  have H : ∀ n, n ≤ 4 → ∀ b, b < 256 → affK b n < 256 := by decide +kernel
  exact H n hn b h
theorem rl_lt (b : Nat) (h : b < 256) (n : Nat) (hn : n ≤ 4) : rl b n < 256 := by
  have H : ∀ n, n ≤ 4 → ∀ b, b < 256 → rl b n < 256 := by decide +kernel
  exact H n hn b h
/-- The reference's way: bits that are counted. -/
def cnt (b i : Nat) : Nat → Nat
  | 0 => 99 / 2 ^ i % 2 + b / 2 ^ i % 2
  | k + 1 => cnt b i k + b / 2 ^ ((i + (4 + k)) % 8) % 2
def affR (b : Nat) : Nat → Nat
  | 0 => 0
  | i + 1 => affR b i + cnt b i 4 % 2 * 2 ^ i
theorem affR_aff (b : Nat) (h : b < 256) : affR b 8 = aff b := by
  have H : ∀ b, b < 256 → affR b 8 = aff b := by decide +kernel
  exact H b h
theorem affR_lt (b : Nat) : ∀ i, affR b i < 2 ^ i
  | 0 => by simp [affR]
  | i + 1 => by
    have := affR_lt b i
    have h1 : cnt b i 4 % 2 * 2 ^ i ≤ 1 * 2 ^ i := Nat.mul_le_mul_right _ (by omega)
    unfold affR
    rw [Nat.pow_succ]; omega
theorem cnt_le (b i : Nat) : ∀ k, cnt b i k ≤ 2 + k
  | 0 => by unfold cnt; omega
  | k + 1 => by have := cnt_le b i k; unfold cnt; omega
theorem sb_aff (b : Nat) (h : b < 256) : sb b = aff (inv b) := by
  have H : ∀ b, b < 256 → sb b = aff (chain b) := by decide +kernel
  rw [inv_chain b h]; exact H b h
theorem aff_zero : aff 0 = 99 := by decide +kernel
theorem sb_zero : sb 0 = 99 := by decide +kernel
theorem rl_xor (x y : Nat) (hx : x < 256) (hy : y < 256) (n : Nat) (hn : n ≤ 4) : rl (x ^^^ y) n = rl x n ^^^ rl y n := by
  have e : ∀ b, b < 256 → rl b n = (b * 2 ^ n % 256) ^^^ (b / 2 ^ (8 - n)) := by
    have H : ∀ n, n ≤ 4 → ∀ b, b < 256 → rl b n = (b * 2 ^ n % 256) ^^^ (b / 2 ^ (8 - n)) := by decide +kernel
    exact H n hn
  rw [e _ hx, e _ hy, e _ (xor_lt _ _ hx hy), xor4]
  congr 1
  · rw [show 256 = 2 ^ 8 from rfl, ← Nat.xor_mod_two_pow]
    congr 1
    have := Nat.shiftLeft_xor_distrib (a := x) (b := y) (i := n)
    simpa only [Nat.shiftLeft_eq] using this
  · have := Nat.shiftRight_xor_distrib (a := x) (b := y) (i := 8 - n)
    simpa only [Nat.shiftRight_eq_div_pow] using this
theorem aff_xor (x y : Nat) (hx : x < 256) (hy : y < 256) : aff x ^^^ aff y = aff (x ^^^ y) ^^^ 99 := by
  unfold aff
  simp only [affK]
  rw [rl_xor x y hx hy 1 (by omega), rl_xor x y hx hy 2 (by omega), rl_xor x y hx hy 3 (by omega), rl_xor x y hx hy 4 (by omega)]
  generalize rl x 1 = a1
  generalize rl x 2 = a2
  generalize rl x 3 = a3
  generalize rl x 4 = a4
  generalize rl y 1 = b1
  generalize rl y 2 = b2
  generalize rl y 3 = b3
  generalize rl y 4 = b4
  apply Nat.eq_of_testBit_eq
  intro i
  simp only [Nat.testBit_xor]
  cases Nat.testBit 99 i <;> cases Nat.testBit x i <;> cases Nat.testBit y i <;> cases Nat.testBit a1 i <;> cases Nat.testBit a2 i <;> cases Nat.testBit a3 i <;> cases Nat.testBit a4 i <;> cases Nat.testBit b1 i <;> cases Nat.testBit b2 i <;> simp

/-! ### The way back -/
def bk (b : Nat) : Nat := boxL.idxOf b
theorem sb_bk (b : Nat) (h : b < 256) : sb (bk b) = b := by
  have H : ∀ b, b < 256 → sb (bk b) = b := by decide +kernel
  exact H b h
theorem bk_lt (b : Nat) (h : b < 256) : bk b < 256 := by
  have H : ∀ b, b < 256 → bk b < 256 := by decide +kernel
  exact H b h
theorem bk_sb (b : Nat) (h : b < 256) : bk (sb b) = b := by
  have H : ∀ b, b < 256 → bk (sb b) = b := by decide +kernel
  exact H b h
theorem sb_inj (a b : Nat) (ha : a < 256) (hb : b < 256) (h : sb a = sb b) : a = b := by
  rw [← bk_sb a ha, ← bk_sb b hb, h]
theorem sb_first (b k : Nat) (hk : k < 256) (h : sb k = b) : k = bk b := by
  rw [← h, bk_sb k hk]
theorem sb_ne (b : Nat) (h : b < 256) : sb b ≠ b ∧ sb b ≠ 255 - b := by
  have H : ∀ b, b < 256 → sb b ≠ b ∧ sb b ≠ 255 - b := by decide +kernel
  exact H b h

/-! ### The powers of 3 -/
def p3 : Nat → Nat
  | 0 => 1
  | n + 1 => mul (p3 n) 3
theorem p3_lt : ∀ n, p3 n < 256
  | 0 => by decide
  | n + 1 => mul_lt _ _ (p3_lt n)
theorem p3_pwr : ∀ n, p3 n = pwr 3 n
  | 0 => rfl
  | n + 1 => by rw [p3, p3_pwr n]; rfl
theorem p3_255 : p3 255 = 1 := by rw [p3_pwr]; exact pwr_255 3 (by omega) (by omega)
theorem p3_inv (i : Nat) (h : i ≤ 255) : inv (p3 i) = p3 (255 - i) := by
  refine (inv_unique _ _ (p3_lt i) (p3_lt _) ?_).symm
  rw [p3_pwr, p3_pwr, ← pwr_add 3 _ (by omega), show i + (255 - i) = 255 by omega, ← p3_pwr, p3_255]
theorem p3_box (i : Nat) (h : i ≤ 255) : aff (p3 (255 - i)) = sb (p3 i) := by
  rw [← p3_inv i h, ← sb_aff _ (p3_lt i)]
def p3L (x : Nat) : Nat → List Nat
  | 0 => []
  | n + 1 => x :: p3L (mul x 3) n
theorem p3L_get : ∀ n i k, k < n → (p3L (p3 i) n)[k]? = some (p3 (i + k))
  | 0, _, _, h => absurd h (Nat.not_lt_zero _)
  | n + 1, i, 0, _ => rfl
  | n + 1, i, k + 1, h => by
    rw [p3L, List.getElem?_cons_succ, show mul (p3 i) 3 = p3 (i + 1) from rfl, p3L_get n (i + 1) k (by omega)]
    congr 2; omega
theorem p3L_len (x : Nat) : ∀ n, (p3L x n).length = n := by
  intro n
  induction n generalizing x with
  | zero => rfl
  | succ n ih => rw [p3L, List.length_cons, ih]
theorem p3_all (j : Nat) (h : j < 256) (h0 : j ≠ 0) : ∃ i, i < 255 ∧ p3 i = j := by
  have H : ∀ j, j < 256 → j ≠ 0 → (p3L 1 255).contains j = true := by decide +kernel
  have h1 := H j h h0
  rw [List.contains_iff_mem] at h1
  obtain ⟨i, hi, e⟩ := List.mem_iff_getElem.1 h1
  rw [p3L_len] at hi
  refine ⟨i, hi, ?_⟩
  have h2 := p3L_get 255 0 i hi
  rw [show p3 0 = 1 from rfl, List.getElem?_eq_getElem (by rw [p3L_len]; exact hi), e, Nat.zero_add] at h2
  exact (Option.some.inj h2).symm
/-- The table as the reference fills it: after i powers. -/
def tb : Nat → Nat → Nat
  | 0 => fun j => if j = 0 then aff 0 else 0
  | i + 1 => fun j => if j = p3 i then aff (p3 (255 - i)) else tb i j
theorem tb_box : ∀ i, i ≤ 255 → ∀ j, (j = 0 ∨ ∃ k, k < i ∧ p3 k = j) → tb i j = sb j
  | 0, _, j, h => by
    rcases h with rfl | ⟨k, hk, _⟩
    · show (if 0 = 0 then aff 0 else 0) = sb 0
      rw [if_pos rfl, aff_zero, sb_zero]
    · omega
  | i + 1, hi, j, h => by
    rw [tb]
    dsimp only
    by_cases e : j = p3 i
    · rw [if_pos e, p3_box i (by omega), e]
    · rw [if_neg e]
      refine tb_box i (by omega) j ?_
      rcases h with h | ⟨k, hk, hj⟩
      · exact .inl h
      · refine .inr ⟨k, ?_, hj⟩
        rcases Nat.lt_or_ge k i with h1 | h1
        · exact h1
        · obtain rfl : k = i := by omega
          exact absurd hj.symm e
theorem tb_all (j : Nat) (h : j < 256) : tb 255 j = sb j := by
  refine tb_box 255 (Nat.le_refl _) j ?_
  by_cases h0 : j = 0
  · exact .inl h0
  · exact .inr (p3_all j h h0)

/-! ### Words -/
/-- The byte k of a word, the highest one first. -/
def wb (x k : Nat) : Nat := x / 256 ^ (3 - k) % 256
def sbw (x : Nat) : Nat := ((sb (wb x 0) * 256 + sb (wb x 1)) * 256 + sb (wb x 2)) * 256 + sb (wb x 3)
def rot8 (x : Nat) : Nat := x * 256 % 4294967296 + x / 16777216
def rot8K (x : Nat) : Nat → Nat
  | 0 => x
  | n + 1 => rot8 (rot8K x n)
def sbK (x : Nat) : Nat → Nat
  | 0 => 0
  | n + 1 => sbK x n * 256 + sb (wb x n)
theorem rot8_lt (x : Nat) (h : x < 4294967296) : rot8 x < 4294967296 := by unfold rot8; omega
theorem or_rot8 (x : Nat) (h : x < 4294967296) : x * 256 % 4294967296 ||| x / 16777216 = rot8 x := by
  have e : x * 256 % 4294967296 = 2 ^ 8 * (x % 16777216) := by omega
  rw [rot8, e, Nat.two_pow_add_eq_or_of_lt (show x / 16777216 < 2 ^ 8 by omega)]
theorem rot8K_lt (x : Nat) (h : x < 4294967296) : ∀ n, rot8K x n < 4294967296
  | 0 => h
  | n + 1 => rot8_lt _ (rot8K_lt x h n)
theorem bytes4 (x : Nat) (h : x < 4294967296) : ∃ a b c d, a < 256 ∧ b < 256 ∧ c < 256 ∧ d < 256 ∧ x = ((a * 256 + b) * 256 + c) * 256 + d :=
  ⟨x / 16777216, x / 65536 % 256, x / 256 % 256, x % 256, by omega, by omega, by omega, by omega, by omega⟩
theorem wb_four (a b c d : Nat) (ha : a < 256) (hb : b < 256) (hc : c < 256) (hd : d < 256) :
    wb (((a * 256 + b) * 256 + c) * 256 + d) 0 = a ∧ wb (((a * 256 + b) * 256 + c) * 256 + d) 1 = b ∧ wb (((a * 256 + b) * 256 + c) * 256 + d) 2 = c ∧ wb (((a * 256 + b) * 256 + c) * 256 + d) 3 = d := by
  refine ⟨?_, ?_, ?_, ?_⟩ <;> simp only [wb, Nat.reduceSub, Nat.reducePow] <;> omega
theorem rot8_four (a b c d : Nat) (ha : a < 256) (hb : b < 256) (hc : c < 256) (hd : d < 256) :
    rot8 (((a * 256 + b) * 256 + c) * 256 + d) = ((b * 256 + c) * 256 + d) * 256 + a := by
  unfold rot8; omega
theorem rot8K_byte (x : Nat) (h : x < 4294967296) (n : Nat) (hn : n < 4) : rot8K x (n + 1) % 256 = wb x n := by
  obtain ⟨a, b, c, d, ha, hb, hc, hd, rfl⟩ := bytes4 x h
  obtain ⟨e0, e1, e2, e3⟩ := wb_four a b c d ha hb hc hd
  rcases (show n = 0 ∨ n = 1 ∨ n = 2 ∨ n = 3 by omega) with rfl | rfl | rfl | rfl
  · rw [e0, rot8K, rot8K, rot8_four a b c d ha hb hc hd]; omega
  · rw [e1, rot8K, rot8K, rot8K, rot8_four a b c d ha hb hc hd, rot8_four b c d a hb hc hd ha]; omega
  · rw [e2, rot8K, rot8K, rot8K, rot8K, rot8_four a b c d ha hb hc hd, rot8_four b c d a hb hc hd ha, rot8_four c d a b hc hd ha hb]; omega
  · rw [e3, rot8K, rot8K, rot8K, rot8K, rot8K, rot8_four a b c d ha hb hc hd, rot8_four b c d a hb hc hd ha, rot8_four c d a b hc hd ha hb, rot8_four d a b c hd ha hb hc]; omega
theorem sbK_lt (x : Nat) : ∀ n, sbK x n < 256 ^ n
  | 0 => by simp [sbK]
  | n + 1 => by
    have := sbK_lt x n
    have h2 := sb_lt (wb x n)
    rw [sbK, Nat.pow_succ]; omega
theorem sbK_four (x : Nat) : sbK x 4 = sbw x := by simp [sbK, sbw]
theorem sbw_lt (x : Nat) : sbw x < 4294967296 := by
  have h0 := sb_lt (wb x 0)
  have h1 := sb_lt (wb x 1)
  have h2 := sb_lt (wb x 2)
  have h3 := sb_lt (wb x 3)
  unfold sbw; omega
theorem sbw_byte (x k : Nat) (hk : k < 4) : wb (sbw x) k = sb (wb x k) := by
  have h0 := sb_lt (wb x 0)
  have h1 := sb_lt (wb x 1)
  have h2 := sb_lt (wb x 2)
  have h3 := sb_lt (wb x 3)
  obtain ⟨e0, e1, e2, e3⟩ := wb_four _ _ _ _ h0 h1 h2 h3
  unfold sbw
  rcases (show k = 0 ∨ k = 1 ∨ k = 2 ∨ k = 3 by omega) with rfl | rfl | rfl | rfl
  · exact e0
  · exact e1
  · exact e2
  · exact e3
end Go.Proofs.YtdfponbfgcfpdaaDoor
