/-
  The struct table.Table in memory: a Cipher, the star block, the dollar block and 64 blocks, one after the other. No condition.
-/
import Derived.Test.YtblhfmlgpldaeaaDoorFai
import Derived.Test.YtblhfmlgpldaeaaDoorBla
namespace Go.Proofs.YtblhfmlgpldaeaaDoor
open Go.RowKit
set_option linter.unusedVariables false
set_option maxRecDepth 100000

theorem zerF_spec (x : Nat) : ∀ f i, (i ≤ zerF x f i ∧ zerF x f i ≤ i + f) ∧ (∀ j, i ≤ j → j < zerF x f i → x / 2 ^ j % 2 = 0) ∧ (zerF x f i < i + f → x / 2 ^ zerF x f i % 2 = 1)
  | 0, i => by unfold zerF; exact ⟨⟨Nat.le_refl _, Nat.le_refl _⟩, fun j a b => absurd b (by omega), fun h => absurd h (by omega)⟩
  | f + 1, i => by
    unfold zerF
    by_cases h : x / 2 ^ i % 2 = 1
    · rw [if_pos h]
      exact ⟨⟨Nat.le_refl _, by omega⟩, fun j a b => absurd b (by omega), fun _ => h⟩
    · rw [if_neg h]
      obtain ⟨⟨a, b⟩, c, d⟩ := zerF_spec x f (i + 1)
      refine ⟨⟨by omega, by omega⟩, fun j h1 h2 => ?_, fun h1 => d (by omega)⟩
      by_cases e : j = i
      · subst e; omega
      · exact c j (by omega) h2
theorem zer_le (x : Nat) : zer x ≤ 64 := by have := (zerF_spec x 64 0).1.2; unfold zer; omega
theorem zer_low (x j : Nat) (h : j < zer x) : x / 2 ^ j % 2 = 0 := (zerF_spec x 64 0).2.1 j (Nat.zero_le _) h
theorem zer_bit (x : Nat) (h : zer x < 64) : x / 2 ^ zer x % 2 = 1 := (zerF_spec x 64 0).2.2 (by unfold zer at h; omega)
theorem low_zero (x : Nat) : ∀ k, (∀ j, j < k → x / 2 ^ j % 2 = 0) → x % 2 ^ k = 0
  | 0, _ => by rw [Nat.pow_zero, Nat.mod_one]
  | k + 1, h => by rw [Nat.mod_pow_succ, low_zero x k (fun j hj => h j (by omega)), h k (by omega)]; simp
theorem zer_lt (x : Nat) (h0 : x ≠ 0) (h : x < 18446744073709551616) : zer x < 64 := by
  rcases Nat.lt_or_ge (zer x) 64 with h1 | h1
  · exact h1
  · have := low_zero x 64 (fun j hj => zer_low x j (by omega))
    rw [Nat.mod_eq_of_lt (by simpa using h)] at this
    exact absurd this h0
theorem zer_two (x : Nat) (h0 : x ≠ 0) (h : x < 18446744073709551616) : zer (2 * x) = zer x + 1 := by
  have hl := zer_lt x h0 h
  have e : ∀ j, 2 * x / 2 ^ (j + 1) = x / 2 ^ j := fun j => by rw [Nat.pow_succ, Nat.mul_comm (2 ^ j) 2, Nat.mul_div_mul_left _ _ (by decide)]
  refine zer_eq _ _ (by omega) (fun j hj => ?_) (fun h1 => ?_)
  · rcases j with _ | j
    · rw [Nat.pow_zero, Nat.div_one]; omega
    · rw [e]; exact zer_low x j (by omega)
  · rw [e]; exact zer_bit x hl
theorem zer_odd (x : Nat) (h : x % 2 = 1) : zer x = 0 := zer_eq _ _ (by omega) (fun j hj => absurd hj (by omega)) (fun _ => by rw [Nat.pow_zero, Nat.div_one]; exact h)
theorem zer_zero : zer 0 = 64 := zer_eq _ _ (by omega) (fun j _ => by rw [Nat.zero_div]) (fun h => absurd h (by omega))
/-- The k-th double of a block. -/
def dk (s : Nat → Nat) : Nat → Nat → Nat
  | 0 => s
  | k + 1 => dbF (dk s k)
theorem dk_lt {s : Nat → Nat} (h : B16 s) : ∀ k, B16 (dk s k)
  | 0 => h
  | k + 1 => dbF_lt (dk_lt h k)
/-- The cells of a Table. -/
def tbF (c : Value) (s d T : Nat → Nat) (j : Nat) : Value := if j < 1 then c else if j < 17 then n8 (s (j - 1)) else if j < 33 then n8 (d (j - 17)) else n8 (T (j - 33))
theorem built_tab (p : Option Addr) (s : Nat → Nat) : Tryd.prog.built 56 [(0, .pointer p), (1, .agg (arL 16 s).toArray)] = some (cxL 1057 (tbF (.pointer p) s (fun _ => 0) (fun _ => 0))).toArray := by kernel_rfl
theorem run_tab (p : Option Addr) (s : Nat → Nat) (w : World) : (Instr.build 56 #[(0, .pointer p), (1, .agg (arL 16 s).toArray)]).run Tryd.prog w = .ok (.agg (cxL 1057 (tbF (.pointer p) s (fun _ => 0) (fun _ => 0))).toArray) w :=
  run_build w _ _ _ (built_tab p s)
/-- The first n blocks. -/
def tbT (s : Nat → Nat) (n m : Nat) : Nat := if m / 16 < n then dk s (m / 16 + 2) (m % 16) else 0
theorem tbT_zero (s : Nat → Nat) (m : Nat) : tbT s 0 m = 0 := by simp [tbT]
theorem tbT_step (s : Nat → Nat) (n m : Nat) : (if m / 16 = n then dk s (n + 2) (m % 16) else tbT s n m) = tbT s (n + 1) m := by
  unfold tbT
  by_cases h : m / 16 = n
  · rw [if_pos h, if_pos (by omega), h]
  · rw [if_neg h]
    by_cases h2 : m / 16 < n
    · rw [if_pos h2, if_pos (by omega)]
    · rw [if_neg h2, if_neg (by omega)]
/-- A Table that New has made, of the star block s. -/
def Ti (w : World) (g : Nat) (p : Option Addr) (s : Nat → Nat) : Prop := Cx w g 1057 (tbF (.pointer p) s (dk s 1) (tbT s 64))
theorem tbF_star (c : Value) (s d T : Nat → Nat) (j : Nat) (v : Value) (h : (arL 16 s)[j]? = some v) : tbF c s d T (1 + j) = v := by
  obtain ⟨h1, rfl⟩ := arL_get_some h
  unfold tbF; rw [if_neg (by omega), if_pos (by omega), Nat.add_sub_cancel_left]
theorem tbF_dollar (c : Value) (s d T : Nat → Nat) (j : Nat) (v : Value) (h : (arL 16 d)[j]? = some v) : tbF c s d T (17 + j) = v := by
  obtain ⟨h1, rfl⟩ := arL_get_some h
  unfold tbF; rw [if_neg (by omega), if_neg (by omega), if_pos (by omega), Nat.add_sub_cancel_left]
theorem tbF_block (c : Value) (s d T : Nat → Nat) (r : Nat) (W : Nat → Nat) (hW : ∀ k, k < 16 → T (r * 16 + k) = W k) (j : Nat) (v : Value) (h : (arL 16 W)[j]? = some v) : tbF c s d T (33 + r * 16 + j) = v := by
  obtain ⟨h1, rfl⟩ := arL_get_some h
  unfold tbF; rw [if_neg (by omega), if_neg (by omega), if_neg (by omega), show 33 + r * 16 + j - 33 = r * 16 + j by omega, hW j h1]
theorem tx_star {w : World} {g : Nat} {c : Value} {s d T : Nat → Nat} (h : Cx w g 1057 (tbF c s d T)) : w.rangeAt g 1 (arL 16 s) := Cx.range h _ _ (by rw [arL_len]; omega) (tbF_star _ _ _ _)
theorem tx_dollar {w : World} {g : Nat} {c : Value} {s d T : Nat → Nat} (h : Cx w g 1057 (tbF c s d T)) : w.rangeAt g 17 (arL 16 d) := Cx.range h _ _ (by rw [arL_len]; omega) (tbF_dollar _ _ _ _)
theorem tx_cip {w : World} {g : Nat} {c : Value} {s d T : Nat → Nat} (h : Cx w g 1057 (tbF c s d T)) : w.cell? ⟨g, 0, none⟩ = some c := (h 0 (by decide)).1
theorem Ti.block {w : World} {g : Nat} {p : Option Addr} {s : Nat → Nat} (h : Ti w g p s) (r : Nat) (hr : r < 64) : w.rangeAt g (33 + r * 16) (arL 16 (dk s (r + 2))) :=
  Cx.range h _ _ (by rw [arL_len]; omega) (tbF_block _ _ _ _ r _ (fun k hk => by unfold tbT; rw [show (r * 16 + k) / 16 = r by omega, show (r * 16 + k) % 16 = k by omega, if_pos hr]))
theorem Ti.to {w w' : World} {g : Nat} {p : Option Addr} {s : Nat → Nat} (h : Ti w g p s) (hb : Below w.heap.size w w') : Ti w' g p s := Cx.to h (by decide) hb
theorem Ti.keep {w w' : World} {B g : Nat} {p : Option Addr} {s : Nat → Nat} (h : Ti w g p s) (hg : g < B) (hb : Below B w w') : Ti w' g p s := Cx.keep h hg hb
theorem Ti.drew {w : World} {g : Nat} {p : Option Addr} {s : Nat → Nat} (h : Ti w g p s) : Ti w.drew g p s := h
theorem Ti.lt {w : World} {g : Nat} {p : Option Addr} {s : Nat → Nat} (h : Ti w g p s) : g < w.heap.size := Cx.lt h (by decide)
/-- The dollar block is written. -/
theorem tbF_putD (c : Value) (s d d' T : Nat → Nat) (j : Nat) (hj : j < 1057) : cxP (tbF c s d T) 17 (arL 16 d') j = tbF c s d' T j := by
  unfold cxP
  rw [arL_len]
  by_cases hc : 17 ≤ j ∧ j < 17 + 16
  · rw [if_pos hc, arL_get 16 d' _ (by omega)]
    unfold tbF
    rw [if_neg (by omega), if_neg (by omega), if_pos (by omega)]; rfl
  · rw [if_neg hc]
    unfold tbF
    split
    · rfl
    · split
      · rfl
      · rw [if_neg (by omega), if_neg (by omega)]
/-- One block more is written. -/
theorem tbF_putT (c : Value) (s d T T' : Nat → Nat) (r : Nat) (hr : r < 64) (W : Nat → Nat) (hT : ∀ m, m < 1024 → (if m / 16 = r then W (m % 16) else T m) = T' m) (j : Nat) (hj : j < 1057) : cxP (tbF c s d T) (33 + r * 16) (arL 16 W) j = tbF c s d T' j := by
  unfold cxP
  rw [arL_len]
  by_cases hc : 33 + r * 16 ≤ j ∧ j < 33 + r * 16 + 16
  · rw [if_pos hc, arL_get 16 W _ (by omega)]
    unfold tbF
    rw [if_neg (by omega), if_neg (by omega), if_neg (by omega), ← hT _ (by omega), if_pos (by omega), show j - (33 + r * 16) = (j - 33) % 16 by omega]; rfl
  · rw [if_neg hc]
    unfold tbF
    split
    · rfl
    · split
      · rfl
      · split
        · rfl
        · rw [← hT _ (by omega), if_neg (by omega)]
end Go.Proofs.YtblhfmlgpldaeaaDoor
