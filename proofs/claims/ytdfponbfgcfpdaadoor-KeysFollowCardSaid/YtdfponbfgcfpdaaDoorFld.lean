/-
  Plain arithmetic of the field of 256 bytes: doubles, products, powers and inverses as functions on numbers, and the reference's way by counted coefficients. No condition but that the numbers are bytes; nothing of the program is named here.
-/
import Derived.Test.YtdfponbfgcfpdaaDoorNum
namespace Go.Proofs.YtdfponbfgcfpdaaDoor

/-! ### Doubles and products -/
def dbl (a : Nat) : Nat := (2 * a) ^^^ (if a.testBit 7 then 283 else 0)
def pw (a : Nat) : Nat → Nat
  | 0 => a
  | k + 1 => dbl (pw a k)
def mulK (a b : Nat) : Nat → Nat
  | 0 => 0
  | k + 1 => mulK a b k ^^^ (if b.testBit k then pw a k else 0)
def mul (a b : Nat) : Nat := mulK a b 8

theorem two_xor (x y : Nat) : 2 * (x ^^^ y) = (2 * x) ^^^ (2 * y) := by
  have h := Nat.shiftLeft_xor_distrib (a := x) (b := y) (i := 1)
  simp only [Nat.shiftLeft_eq] at h
  rw [Nat.mul_comm 2, Nat.mul_comm 2, Nat.mul_comm 2]
  exact h
theorem xor4 (a b c d : Nat) : (a ^^^ b) ^^^ (c ^^^ d) = (a ^^^ c) ^^^ (b ^^^ d) := by
  rw [Nat.xor_assoc, Nat.xor_assoc, ← Nat.xor_assoc b, Nat.xor_comm b c, Nat.xor_assoc c]
theorem if_xor (p q : Bool) (c : Nat) : (if (p ^^ q) = true then c else 0) = (if p = true then c else 0) ^^^ (if q = true then c else 0) := by
  cases p <;> cases q <;> simp
theorem dbl_xor (x y : Nat) : dbl (x ^^^ y) = dbl x ^^^ dbl y := by
  unfold dbl
  rw [two_xor, Nat.testBit_xor, if_xor, xor4]
theorem pw_xor (x y : Nat) : ∀ k, pw (x ^^^ y) k = pw x k ^^^ pw y k
  | 0 => rfl
  | k + 1 => by rw [pw, pw_xor x y k, dbl_xor]; rfl
theorem if_lin (p : Bool) (c d : Nat) : (if p = true then c ^^^ d else 0) = (if p = true then c else 0) ^^^ (if p = true then d else 0) := by
  cases p <;> simp
theorem mulK_left (x y b : Nat) : ∀ k, mulK (x ^^^ y) b k = mulK x b k ^^^ mulK y b k
  | 0 => by simp [mulK]
  | k + 1 => by rw [mulK, mulK_left x y b k, pw_xor, if_lin, xor4]; rfl
theorem mulK_right (a x y : Nat) : ∀ k, mulK a (x ^^^ y) k = mulK a x k ^^^ mulK a y k
  | 0 => by simp [mulK]
  | k + 1 => by rw [mulK, mulK_right a x y k, Nat.testBit_xor, if_xor, xor4]; rfl
theorem mul_left (x y b : Nat) : mul (x ^^^ y) b = mul x b ^^^ mul y b := mulK_left x y b 8
theorem mul_right (a x y : Nat) : mul a (x ^^^ y) = mul a x ^^^ mul a y := mulK_right a x y 8

/-- A number is the sum of its bits. -/
theorem low_bit (b k : Nat) : b % 2 ^ (k + 1) = b % 2 ^ k ^^^ (if b.testBit k then 2 ^ k else 0) := by
  apply Nat.eq_of_testBit_eq
  intro i
  rw [Nat.testBit_xor, Nat.testBit_mod_two_pow, Nat.testBit_mod_two_pow]
  cases h : b.testBit k
  · simp
    rcases Nat.lt_trichotomy i k with h1 | rfl | h1
    · simp [h1, show i < k + 1 by omega]
    · simp [h]
    · simp [show ¬ i < k by omega, show ¬ i < k + 1 by omega]
  · simp [Nat.testBit_two_pow]
    rcases Nat.lt_trichotomy i k with h1 | rfl | h1
    · simp [h1, show i < k + 1 by omega, show ¬ k = i by omega]
    · simp [h]
    · simp [show ¬ i < k by omega, show ¬ i < k + 1 by omega, show ¬ k = i by omega]

/-- Two functions that keep sums are the same on bytes if they are on the powers of 2. -/
theorem lin_ext (f g : Nat → Nat) (hf : ∀ x y, f (x ^^^ y) = f x ^^^ f y) (hg : ∀ x y, g (x ^^^ y) = g x ^^^ g y) (h : ∀ k, k < 8 → f (2 ^ k) = g (2 ^ k)) (b : Nat) (hb : b < 256) : f b = g b := by
  have f0 : f 0 = 0 := by have := hf 0 0; simpa using this
  have g0 : g 0 = 0 := by have := hg 0 0; simpa using this
  have H : ∀ k, k ≤ 8 → f (b % 2 ^ k) = g (b % 2 ^ k) := by
    intro k
    induction k with
    | zero => intro _; simp [Nat.mod_one, f0, g0]
    | succ k ih =>
      intro hk
      rw [low_bit, hf, hg, ih (by omega)]
      cases b.testBit k
      · simp [f0, g0]
      · simp [h k (by omega)]
  have := H 8 (Nat.le_refl _)
  rwa [Nat.mod_eq_of_lt (show b < 2 ^ 8 by omega)] at this

theorem mul_comm_base : ∀ k, k < 8 → ∀ j, j < 8 → mul (2 ^ j) (2 ^ k) = mul (2 ^ k) (2 ^ j) := by decide +kernel
theorem mul_comm_ (a b : Nat) (ha : a < 256) (hb : b < 256) : mul a b = mul b a := by
  have H1 : ∀ k, k < 8 → mul a (2 ^ k) = mul (2 ^ k) a := fun k hk =>
    lin_ext (fun a => mul a (2 ^ k)) (fun a => mul (2 ^ k) a) (fun x y => mul_left x y (2 ^ k)) (fun x y => mul_right (2 ^ k) x y) (fun j hj => mul_comm_base k hk j hj) a ha
  exact lin_ext (fun b => mul a b) (fun b => mul b a) (fun x y => mul_right a x y) (fun x y => mul_left x y a) H1 b hb
theorem mul_assoc_ (a b c : Nat) (ha : a < 256) (hb : b < 256) (hc : c < 256) : mul (mul a b) c = mul a (mul b c) := by
  refine lin_ext (fun c => mul (mul a b) c) (fun c => mul a (mul b c)) (mul_right _) (fun x y => by simp only [mul_right]) (fun k hk => ?_) c hc
  refine lin_ext (fun b => mul (mul a b) (2 ^ k)) (fun b => mul a (mul b (2 ^ k))) (fun x y => by simp only [mul_right, mul_left]) (fun x y => by simp only [mul_right, mul_left]) (fun j hj => ?_) b hb
  refine lin_ext (fun a => mul (mul a (2 ^ j)) (2 ^ k)) (fun a => mul a (mul (2 ^ j) (2 ^ k))) (fun x y => by simp only [mul_left]) (fun x y => by simp only [mul_left]) (fun i hi => ?_) a ha
  have H : ∀ k, k < 8 → ∀ j, j < 8 → ∀ i, i < 8 → mul (mul (2 ^ i) (2 ^ j)) (2 ^ k) = mul (2 ^ i) (mul (2 ^ j) (2 ^ k)) := by decide +kernel
  exact H k hk j hj i hi

theorem dbl_lt (a : Nat) (h : a < 256) : dbl a < 256 := by
  have H : ∀ a, a < 256 → dbl a < 256 := by decide +kernel
  exact H a h
theorem pw_lt (a : Nat) (h : a < 256) : ∀ k, pw a k < 256
  | 0 => h
  | k + 1 => dbl_lt _ (pw_lt a h k)
theorem xor_lt (a b : Nat) (ha : a < 256) (hb : b < 256) : a ^^^ b < 256 := Nat.xor_lt_two_pow (n := 8) ha hb
theorem mulK_lt (a b : Nat) (h : a < 256) : ∀ k, mulK a b k < 256
  | 0 => by simp [mulK]
  | k + 1 => by
    unfold mulK
    refine xor_lt _ _ (mulK_lt a b h k) ?_
    split
    · exact pw_lt a h k
    · omega
theorem mul_lt (a b : Nat) (h : a < 256) : mul a b < 256 := mulK_lt a b h 8
/-- Behind the highest bit nothing is added. -/
theorem mulK_stop (a b k : Nat) (hb : b / 2 ^ k = 0) (hk : k ≤ 8) : mulK a b k = mul a b := by
  have H : ∀ j, mulK a b (k + j) = mulK a b k := by
    intro j
    induction j with
    | zero => rfl
    | succ j ih =>
      rw [← Nat.add_assoc, mulK, ih]
      have h1 : b < 2 ^ k := by
        rcases Nat.lt_or_ge b (2 ^ k) with h | h
        · exact h
        · have := Nat.div_pos h (Nat.two_pow_pos k); omega
      have h2 : b.testBit (k + j) = false := Nat.testBit_lt_two_pow (Nat.lt_of_lt_of_le h1 (Nat.pow_le_pow_right (by decide) (by omega)))
      simp [h2]
  have := H (8 - k)
  rw [show k + (8 - k) = 8 by omega] at this
  exact this.symm
theorem mul_one_ (a : Nat) (h : a < 256) : mul a 1 = a := by
  have H : ∀ a, a < 256 → mul a 1 = a := by decide +kernel
  exact H a h
theorem one_mul_ (a : Nat) (h : a < 256) : mul 1 a = a := by rw [mul_comm_ 1 a (by omega) h, mul_one_ a h]
theorem mul_two (a : Nat) (h : a < 256) : mul a 2 = dbl a := by
  have H : ∀ a, a < 256 → mul a 2 = dbl a := by decide +kernel
  exact H a h

/-! ### Powers and inverses -/
def pwr (a : Nat) : Nat → Nat
  | 0 => 1
  | n + 1 => mul (pwr a n) a
theorem pwr_lt (a : Nat) : ∀ n, pwr a n < 256
  | 0 => by simp [pwr]
  | n + 1 => mul_lt _ _ (pwr_lt a n)
theorem pwr_add (a n : Nat) (h : a < 256) : ∀ m, pwr a (n + m) = mul (pwr a n) (pwr a m)
  | 0 => (mul_one_ _ (pwr_lt a n)).symm
  | m + 1 => by rw [← Nat.add_assoc, pwr, pwr_add a n h m, mul_assoc_ _ _ _ (pwr_lt a n) (pwr_lt a m) h]; rfl
theorem pwr_one (a : Nat) (h : a < 256) : pwr a 1 = a := one_mul_ a h
theorem pwr_sq (a n : Nat) (h : a < 256) : pwr (mul a a) n = pwr a (2 * n) := by
  induction n with
  | zero => rfl
  | succ n ih =>
    have e : pwr a 2 = mul a a := by rw [show 2 = 1 + 1 from rfl, pwr_add a 1 h 1, pwr_one a h]
    rw [pwr, ih, show 2 * (n + 1) = 2 * n + 2 by omega, pwr_add a _ h, e]
def inv (a : Nat) : Nat := pwr a 254
theorem inv_lt (a : Nat) : inv a < 256 := pwr_lt a 254
def chain (a : Nat) : Nat :=
  let b := mul a a
  let c := mul b b
  let d := mul c c
  let e := mul d d
  let f := mul e e
  let g := mul f f
  let h := mul g g
  mul (mul (mul (mul (mul (mul b c) d) e) f) g) h
theorem inv_chain (a : Nat) (h : a < 256) : inv a = chain a := by
  unfold chain inv
  have h1 := pwr_one a h
  have h2 : mul a a = pwr a 2 := by rw [show 2 = 1 + 1 from rfl, pwr_add a 1 h, h1]
  simp only [h2, ← pwr_add a _ h]
theorem inv_mul (a : Nat) (h : a < 256) (h0 : a ≠ 0) : mul a (inv a) = 1 := by
  have H : ∀ a, a < 256 → a ≠ 0 → mul a (chain a) = 1 := by decide +kernel
  rw [inv_chain a h]
  exact H a h h0
theorem inv_zero : inv 0 = 0 := by
  rw [inv_chain 0 (by omega)]; decide +kernel
theorem zero_mul_ (b : Nat) : mul 0 b = 0 := by
  have h := mul_left 0 0 b
  simpa using h
theorem inv_unique (a i : Nat) (h : a < 256) (hi : i < 256) (h1 : mul a i = 1) : i = inv a := by
  have h0 : a ≠ 0 := by
    rintro rfl
    rw [zero_mul_] at h1
    omega
  have e : mul (mul i a) (inv a) = mul i (mul a (inv a)) := mul_assoc_ i a _ hi h (inv_lt a)
  rw [inv_mul a h h0, mul_one_ i hi, mul_comm_ i a hi h, h1, one_mul_ _ (inv_lt a)] at e
  exact e.symm
theorem inv_ne_zero (a : Nat) (h : a < 256) (h0 : a ≠ 0) : inv a ≠ 0 := by
  intro e
  have h1 := inv_mul a h h0
  rw [e, mul_comm_ a 0 h (by omega), zero_mul_] at h1
  omega
theorem inv_inv (a : Nat) (h : a < 256) (h0 : a ≠ 0) : inv (inv a) = a := by
  have h1 := inv_mul a h h0
  rw [mul_comm_ a _ h (inv_lt a)] at h1
  exact (inv_unique _ a (inv_lt a) h h1).symm
theorem pwr_255 (a : Nat) (h : a < 256) (h0 : a ≠ 0) : pwr a 255 = 1 := by
  have : pwr a 255 = mul (inv a) a := rfl
  rw [this, mul_comm_ _ a (inv_lt a) h, inv_mul a h h0]
theorem pw_mul (a : Nat) (h : a < 256) (k : Nat) (hk : k < 8) : pw a k = mul a (2 ^ k) := by
  refine lin_ext (fun a => pw a k) (fun a => mul a (2 ^ k)) (fun x y => pw_xor x y k) (fun x y => mul_left x y _) (fun j hj => ?_) a h
  have H : ∀ k, k < 8 → ∀ j, j < 8 → pw (2 ^ j) k = mul (2 ^ j) (2 ^ k) := by decide +kernel
  exact H k hk j hj
theorem pwr_two (k : Nat) (hk : k < 8) : pwr 2 k = 2 ^ k := by
  have H : ∀ k, k < 8 → pwr 2 k = 2 ^ k := by decide +kernel
  exact H k hk

/-! ### The reference's way: coefficients that are counted -/
def bt (a i : Nat) : Nat := a / 2 ^ i % 2
def up (P : Nat → Nat) (j v : Nat) : Nat → Nat := fun i => if i = j then P i + v else P i
def inn (P : Nat → Nat) (a b i : Nat) : Nat → Nat → Nat
  | 0 => P
  | k + 1 => up (inn P a b i k) (i + k) (bt a i * bt b k)
def outr (a b : Nat) : Nat → Nat → Nat
  | 0 => fun _ => 0
  | i + 1 => inn (outr a b i) a b i 8
def red1 (Q : Nat → Nat) (i : Nat) : Nat → Nat := if Q i % 2 = 1 then up (up (up (up Q (i - 4) 1) (i - 5) 1) (i - 7) 1) (i - 8) 1 else Q
def red (P : Nat → Nat) : Nat → Nat → Nat
  | 0 => P
  | n + 1 => red1 (red P n) (14 - n)
def fin (P : Nat → Nat) : Nat → Nat
  | 0 => 0
  | n + 1 => fin P n + P n % 2 * 2 ^ n

theorem fin_lt (P : Nat → Nat) : ∀ n, fin P n < 2 ^ n
  | 0 => by simp [fin]
  | n + 1 => by
    have := fin_lt P n
    have h1 : P n % 2 * 2 ^ n ≤ 1 * 2 ^ n := Nat.mul_le_mul_right _ (by omega)
    unfold fin
    rw [Nat.pow_succ]; omega
theorem fin_bit (P : Nat → Nat) (j : Nat) : ∀ n, (fin P n).testBit j = (decide (j < n) && decide (P j % 2 = 1))
  | 0 => by simp [fin]
  | n + 1 => by
    have h := fin_lt P n
    have e : fin P (n + 1) = 2 ^ n * (P n % 2) + fin P n := (Nat.add_comm _ _).trans (congrArg (· + fin P n) (Nat.mul_comm _ _))
    rw [e]
    rcases Nat.lt_or_ge j n with h1 | h1
    · rw [Nat.testBit_two_pow_mul_add _ h, if_pos h1, fin_bit P j n]
      simp [h1, show j < n + 1 by omega]
    · rw [Nat.testBit_two_pow_mul_add _ h, if_neg (by omega)]
      rcases Nat.eq_or_lt_of_le h1 with rfl | h2
      · rw [Nat.sub_self, Nat.testBit_zero]
        have h3 := Nat.mod_two_eq_zero_or_one (P n)
        rcases h3 with h3 | h3 <;> simp [h3]
      · have h3 : (P n % 2).testBit (j - n) = false := Nat.testBit_lt_two_pow (by
          have : 2 ^ 1 ≤ 2 ^ (j - n) := Nat.pow_le_pow_right (by decide) (by omega)
          omega)
        simp [h3, show ¬ j < n + 1 by omega]
/-- What is added to a coefficient turns its bit. -/
theorem fin_up (P : Nat → Nat) (j v n : Nat) (hj : j < n) : fin (up P j v) n = fin P n ^^^ (if v % 2 = 1 then 2 ^ j else 0) := by
  apply Nat.eq_of_testBit_eq
  intro i
  rw [Nat.testBit_xor, fin_bit, fin_bit]
  unfold up
  by_cases hi : i = j
  · subst hi
    rcases Nat.mod_two_eq_zero_or_one v with hv | hv <;> rcases Nat.mod_two_eq_zero_or_one (P i) with hp | hp <;> simp [hv, hp, hj, Nat.add_mod]
  · have h2 : (if v % 2 = 1 then 2 ^ j else 0).testBit i = false := by
      split
      · rw [Nat.testBit_two_pow]; simp; omega
      · simp
    rw [h2, if_neg hi]
    simp
theorem fin_low (P : Nat → Nat) : fin P 8 = fin P 15 % 256 := by
  apply Nat.eq_of_testBit_eq
  intro i
  rw [show 256 = 2 ^ 8 from rfl, Nat.testBit_mod_two_pow, fin_bit, fin_bit]
  by_cases h : i < 8
  · simp [h, show i < 15 by omega]
  · simp [h]

/-- The same on numbers. -/
def inN (x a b i : Nat) : Nat → Nat
  | 0 => x
  | k + 1 => inN x a b i k ^^^ (if a.testBit i && b.testBit k then 2 ^ (i + k) else 0)
def ouN (a b : Nat) : Nat → Nat
  | 0 => 0
  | i + 1 => inN (ouN a b i) a b i 8
def rc (i : Nat) : Nat := ((2 ^ (i - 4) ^^^ 2 ^ (i - 5)) ^^^ 2 ^ (i - 7)) ^^^ 2 ^ (i - 8)
def reN (x : Nat) : Nat → Nat
  | 0 => x
  | n + 1 => reN x n ^^^ (if (reN x n).testBit (14 - n) then rc (14 - n) else 0)
def reM (a b : Nat) : Nat := reN (ouN a b 8) 7 % 256

theorem bt_mul (a b i k : Nat) : (bt a i * bt b k % 2 = 1) = ((a.testBit i && b.testBit k) = true) := by
  unfold bt
  rw [Nat.testBit_eq_decide_div_mod_eq, Nat.testBit_eq_decide_div_mod_eq]
  rcases Nat.mod_two_eq_zero_or_one (a / 2 ^ i) with h1 | h1 <;> rcases Nat.mod_two_eq_zero_or_one (b / 2 ^ k) with h2 | h2 <;> simp [h1, h2]
theorem fin_inn (P : Nat → Nat) (a b i : Nat) (hi : i < 8) : ∀ k, k ≤ 8 → fin (inn P a b i k) 15 = inN (fin P 15) a b i k
  | 0, _ => rfl
  | k + 1, hk => by
    rw [inn, fin_up _ _ _ _ (by omega), fin_inn P a b i hi k (by omega)]
    simp only [bt_mul]
    rfl
theorem fin_zero : ∀ n, fin (fun _ => 0) n = 0
  | 0 => rfl
  | n + 1 => by unfold fin; rw [fin_zero n]; simp
theorem fin_outr (a b : Nat) : ∀ i, i ≤ 8 → fin (outr a b i) 15 = ouN a b i
  | 0, _ => fin_zero 15
  | i + 1, hi => by rw [outr, fin_inn _ _ _ _ (by omega) 8 (Nat.le_refl _), fin_outr a b i (by omega)]; rfl
theorem fin_red (P : Nat → Nat) : ∀ n, n ≤ 7 → fin (red P n) 15 = reN (fin P 15) n
  | 0, _ => rfl
  | n + 1, hn => by
    have ih := fin_red P n (by omega)
    have hb := fin_bit (red P n) (14 - n) 15
    rw [ih] at hb
    rw [red, reN, red1, hb]
    by_cases h : red P n (14 - n) % 2 = 1
    · rw [if_pos h, fin_up _ _ _ _ (by omega), fin_up _ _ _ _ (by omega), fin_up _ _ _ _ (by omega), fin_up _ _ _ _ (by omega), ih]
      simp [h, show 14 - n < 15 by omega, rc, Nat.xor_assoc]
    · rw [if_neg h, ih]; simp [h]
theorem fin_all (a b : Nat) : fin (red (outr a b 8) 7) 8 = reM a b := by
  rw [fin_low, fin_red _ 7 (Nat.le_refl _), fin_outr _ _ 8 (Nat.le_refl _)]; rfl

theorem and_xor_l (p q r : Bool) : ((p ^^ q) && r) = ((p && r) ^^ (q && r)) := by cases p <;> cases q <;> cases r <;> rfl
theorem and_xor_r (p q r : Bool) : (r && (p ^^ q)) = ((r && p) ^^ (r && q)) := by cases p <;> cases q <;> cases r <;> rfl
theorem inN_right (x x' a b b' i : Nat) : ∀ k, inN (x ^^^ x') a (b ^^^ b') i k = inN x a b i k ^^^ inN x' a b' i k
  | 0 => rfl
  | k + 1 => by rw [inN, inN_right x x' a b b' i k, Nat.testBit_xor, and_xor_r, if_xor, xor4]; rfl
theorem ouN_right (a b b' : Nat) : ∀ i, ouN a (b ^^^ b') i = ouN a b i ^^^ ouN a b' i
  | 0 => by simp [ouN]
  | i + 1 => by rw [ouN, ouN_right a b b' i, inN_right]; rfl
theorem inN_left (x x' a a' b i : Nat) : ∀ k, inN (x ^^^ x') (a ^^^ a') b i k = inN x a b i k ^^^ inN x' a' b i k
  | 0 => rfl
  | k + 1 => by rw [inN, inN_left x x' a a' b i k, Nat.testBit_xor, and_xor_l, if_xor, xor4]; rfl
theorem ouN_left (a a' b : Nat) : ∀ i, ouN (a ^^^ a') b i = ouN a b i ^^^ ouN a' b i
  | 0 => by simp [ouN]
  | i + 1 => by rw [ouN, ouN_left a a' b i, inN_left]; rfl
theorem reN_xor (x y : Nat) : ∀ n, reN (x ^^^ y) n = reN x n ^^^ reN y n
  | 0 => rfl
  | n + 1 => by rw [reN, reN_xor x y n, Nat.testBit_xor, if_xor, xor4]; rfl
theorem mod_xor (x y : Nat) : (x ^^^ y) % 256 = (x % 256) ^^^ (y % 256) := by
  rw [show 256 = 2 ^ 8 from rfl, Nat.xor_mod_two_pow]
/-- The reference's product is the product. -/
theorem reM_mul (a b : Nat) (ha : a < 256) (hb : b < 256) : reM a b = mul a b := by
  refine lin_ext (fun b => reM a b) (fun b => mul a b) (fun x y => by simp only [reM, ouN_right, reN_xor, mod_xor]) (mul_right a) (fun k hk => ?_) b hb
  refine lin_ext (fun a => reM a (2 ^ k)) (fun a => mul a (2 ^ k)) (fun x y => by simp only [reM, ouN_left, reN_xor, mod_xor]) (fun x y => mul_left x y _) (fun j hj => ?_) a ha
  have H : ∀ k, k < 8 → ∀ j, j < 8 → reM (2 ^ j) (2 ^ k) = mul (2 ^ j) (2 ^ k) := by decide +kernel
  exact H k hk j hj
theorem fin_mul (a b : Nat) (ha : a < 256) (hb : b < 256) : fin (red (outr a b 8) 7) 8 = mul a b := (fin_all a b).trans (reM_mul a b ha hb)

/-! ### Bounds of the coefficients -/
theorem bt_le (a i : Nat) : bt a i ≤ 1 := by unfold bt; omega
theorem btbt_le (a b i k : Nat) : bt a i * bt b k ≤ 1 := Nat.mul_le_mul (bt_le a i) (bt_le b k)
theorem up_le (P : Nat → Nat) (j v n : Nat) (h : ∀ i, P i ≤ n) (hv : v ≤ 1) : ∀ i, up P j v i ≤ n + 1 := by
  intro i
  have := h i
  unfold up
  split <;> omega
theorem inn_le (P : Nat → Nat) (a b i n : Nat) (h : ∀ i, P i ≤ n) : ∀ k j, inn P a b i k j ≤ n + k
  | 0 => h
  | k + 1 => up_le _ _ _ _ (inn_le P a b i n h k) (btbt_le a b i k)
theorem outr_le (a b : Nat) : ∀ i j, outr a b i j ≤ 8 * i
  | 0 => fun _ => Nat.le_refl _
  | i + 1 => inn_le _ _ _ _ _ (outr_le a b i) 8
theorem red1_le (Q : Nat → Nat) (i n : Nat) (h : ∀ i, Q i ≤ n) : ∀ j, red1 Q i j ≤ n + 4 := by
  unfold red1
  split
  · exact up_le _ _ _ _ (up_le _ _ _ _ (up_le _ _ _ _ (up_le _ _ _ _ h (Nat.le_refl 1)) (Nat.le_refl 1)) (Nat.le_refl 1)) (Nat.le_refl 1)
  · intro j; have := h j; omega
theorem red_le (P : Nat → Nat) (m : Nat) (h : ∀ i, P i ≤ m) : ∀ n j, red P n j ≤ m + 4 * n
  | 0 => h
  | n + 1 => red1_le _ _ _ (red_le P m h n)
end Go.Proofs.YtdfponbfgcfpdaaDoor
