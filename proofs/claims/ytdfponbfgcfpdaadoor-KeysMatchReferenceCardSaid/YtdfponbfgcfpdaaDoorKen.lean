/-
  Plain arithmetic of the key expansion: round keys as functions of the index, one after the other and back. No condition but that the numbers are bytes; nothing of the program is named here.
-/
import Derived.Test.YtdfponbfgcfpdaaDoorSbn
namespace Go.Proofs.YtdfponbfgcfpdaaDoor
set_option linter.unusedVariables false

/-- What is added to the first word of a round key. -/
def kt (c : Nat) (f : Nat → Nat) (k : Nat) : Nat := sb (f (12 + (k + 1) % 4)) ^^^ (if k = 0 then c else 0)
def nxw (c : Nat) (f : Nat → Nat) : Nat → Nat → Nat
  | 0, k => f k ^^^ kt c f k
  | i + 1, k => f (4 * (i + 1) + k) ^^^ nxw c f i k
/-- The next round key. -/
def nx (c : Nat) (f : Nat → Nat) (j : Nat) : Nat := nxw c f (j / 4) (j % 4)
/-- The one before. -/
def pv (c : Nat) (g : Nat → Nat) (j : Nat) : Nat :=
  if j < 4 then g j ^^^ (sb (g (12 + (j + 1) % 4) ^^^ g (8 + (j + 1) % 4)) ^^^ (if j = 0 then c else 0)) else g j ^^^ g (j - 4)
/-- The round key r of a key. -/
def rk (f : Nat → Nat) : Nat → Nat → Nat
  | 0 => f
  | r + 1 => nx (pwr 2 r) (rk f r)
/-- The key of a round key. -/
def bkr (g : Nat → Nat) : Nat → Nat → Nat
  | 0 => g
  | r + 1 => bkr (pv (pwr 2 r) g) r
/-- All round keys in a row. -/
def ek (f : Nat → Nat) (m : Nat) : Nat := rk f (m / 16) (m % 16)
def conN (i : Int) : Nat := if 1 ≤ i ∧ i ≤ 10 then pwr 2 (i - 1).toNat else 0

theorem xor_cancel (a b : Nat) : (a ^^^ b) ^^^ b = a := by rw [Nat.xor_assoc, Nat.xor_self, Nat.xor_zero]
theorem xor_cancel_l (a b : Nat) : (a ^^^ b) ^^^ a = b := by rw [Nat.xor_comm a b, xor_cancel]
theorem if0_lt (k c : Nat) (hc : c < 256) : (if k = 0 then c else 0) < 256 := by split <;> omega
theorem kt_lt (c : Nat) (f : Nat → Nat) (k : Nat) (hc : c < 256) : kt c f k < 256 := xor_lt _ _ (sb_lt _) (if0_lt k c hc)
theorem nxw_lt (c : Nat) (f : Nat → Nat) (hc : c < 256) (hf : ∀ j, j < 16 → f j < 256) : ∀ i k, i < 4 → k < 4 → nxw c f i k < 256
  | 0, k, _, hk => xor_lt _ _ (hf k (by omega)) (kt_lt c f k hc)
  | i + 1, k, hi, hk => xor_lt _ _ (hf _ (by omega)) (nxw_lt c f hc hf i k (by omega) hk)
theorem nx_lt (c : Nat) (f : Nat → Nat) (hc : c < 256) (hf : ∀ j, j < 16 → f j < 256) (j : Nat) (hj : j < 16) : nx c f j < 256 := nxw_lt c f hc hf _ _ (by omega) (by omega)
theorem pv_lt (c : Nat) (g : Nat → Nat) (hc : c < 256) (hg : ∀ j, j < 16 → g j < 256) (j : Nat) (hj : j < 16) : pv c g j < 256 := by
  unfold pv
  split
  · exact xor_lt _ _ (hg j hj) (xor_lt _ _ (sb_lt _) (if0_lt j c hc))
  · exact xor_lt _ _ (hg j hj) (hg _ (by omega))
theorem rk_lt (f : Nat → Nat) (hf : ∀ j, j < 16 → f j < 256) : ∀ r j, j < 16 → rk f r j < 256
  | 0, j, hj => hf j hj
  | r + 1, j, hj => nx_lt _ _ (pwr_lt 2 r) (rk_lt f hf r) j hj
theorem bkr_lt : ∀ (r : Nat) (g : Nat → Nat) (hg : ∀ j, j < 16 → g j < 256) (j : Nat), j < 16 → bkr g r j < 256
  | 0, g, hg, j, hj => hg j hj
  | r + 1, g, hg, j, hj => bkr_lt r _ (pv_lt _ g (pwr_lt 2 r) hg) j hj
theorem ek_lt (f : Nat → Nat) (hf : ∀ j, j < 16 → f j < 256) (m : Nat) : ek f m < 256 := rk_lt f hf _ _ (by omega)

theorem nxw_congr (c : Nat) {f f' : Nat → Nat} (h : ∀ j, j < 16 → f j = f' j) : ∀ i k, i < 4 → k < 4 → nxw c f i k = nxw c f' i k
  | 0, k, _, hk => by simp only [nxw, kt]; rw [h k (by omega), h (12 + (k + 1) % 4) (by omega)]
  | i + 1, k, hi, hk => by simp only [nxw]; rw [h _ (by omega), nxw_congr c h i k (by omega) hk]
theorem nx_congr (c : Nat) {f f' : Nat → Nat} (h : ∀ j, j < 16 → f j = f' j) (j : Nat) (hj : j < 16) : nx c f j = nx c f' j := nxw_congr c h _ _ (by omega) (by omega)
theorem pv_congr (c : Nat) {g g' : Nat → Nat} (h : ∀ j, j < 16 → g j = g' j) (j : Nat) (hj : j < 16) : pv c g j = pv c g' j := by
  unfold pv
  rw [h j hj, h (12 + (j + 1) % 4) (by omega), h (8 + (j + 1) % 4) (by omega), h (j - 4) (by omega)]
theorem rk_congr {f f' : Nat → Nat} (h : ∀ j, j < 16 → f j = f' j) : ∀ r j, j < 16 → rk f r j = rk f' r j
  | 0, j, hj => h j hj
  | r + 1, j, hj => nx_congr _ (rk_congr h r) j hj
theorem bkr_congr : ∀ (r : Nat) {g g' : Nat → Nat} (h : ∀ j, j < 16 → g j = g' j) (j : Nat), j < 16 → bkr g r j = bkr g' r j
  | 0, _, _, h, j, hj => h j hj
  | r + 1, _, _, h, j, hj => bkr_congr r (pv_congr _ h) j hj

theorem nx_first (c : Nat) (f : Nat → Nat) (j : Nat) (h : j < 4) : nx c f j = f j ^^^ kt c f j := by
  unfold nx
  rw [show j / 4 = 0 by omega, show j % 4 = j by omega]; rfl
theorem nx_more (c : Nat) (f : Nat → Nat) (j : Nat) (h : 4 ≤ j) : nx c f j = f j ^^^ nx c f (j - 4) := by
  unfold nx
  obtain ⟨i, hi⟩ : ∃ i, j / 4 = i + 1 := ⟨j / 4 - 1, by omega⟩
  rw [hi, show (j - 4) / 4 = i by omega, show (j - 4) % 4 = j % 4 by omega, nxw, show 4 * (i + 1) + j % 4 = j by omega]
theorem pv_nx (c : Nat) (f : Nat → Nat) (j : Nat) (hj : j < 16) : pv c (nx c f) j = f j := by
  have hm : ∀ j, 4 ≤ j → nx c f j ^^^ nx c f (j - 4) = f j := fun j h => by rw [nx_more c f j h, xor_cancel]
  unfold pv
  split
  · rename_i h
    have e := hm (12 + (j + 1) % 4) (by omega)
    rw [show 12 + (j + 1) % 4 - 4 = 8 + (j + 1) % 4 by omega] at e
    rw [e, nx_first c f j h, show sb (f (12 + (j + 1) % 4)) ^^^ (if j = 0 then c else 0) = kt c f j from rfl, xor_cancel]
  · exact hm j (by omega)
theorem nx_pv (c : Nat) (g : Nat → Nat) : ∀ j, j < 16 → nx c (pv c g) j = g j := by
  have h1 : ∀ j, j < 4 → nx c (pv c g) j = g j := fun j h => by
    rw [nx_first _ _ j h]
    have e : kt c (pv c g) j = sb (g (12 + (j + 1) % 4) ^^^ g (8 + (j + 1) % 4)) ^^^ (if j = 0 then c else 0) := by
      unfold kt
      rw [show pv c g (12 + (j + 1) % 4) = g (12 + (j + 1) % 4) ^^^ g (8 + (j + 1) % 4) by
        unfold pv; rw [if_neg (by omega), show 12 + (j + 1) % 4 - 4 = 8 + (j + 1) % 4 by omega]]
    rw [e]
    unfold pv
    rw [if_pos h, xor_cancel]
  have h2 : ∀ i j, j < 16 → j / 4 = i → nx c (pv c g) j = g j := by
    intro i
    induction i with
    | zero => intro j hj hi; exact h1 j (by omega)
    | succ i ih =>
      intro j hj hi
      rw [nx_more _ _ j (by omega), ih (j - 4) (by omega) (by omega)]
      unfold pv
      rw [if_neg (by omega), xor_cancel]
  exact fun j hj => h2 _ j hj rfl
theorem bkr_rk (f : Nat → Nat) : ∀ r j, j < 16 → bkr (rk f r) r j = f j
  | 0, j, hj => rfl
  | r + 1, j, hj => by
    rw [bkr]
    rw [bkr_congr r (g := pv (pwr 2 r) (rk f (r + 1))) (g' := rk f r) (fun i hi => pv_nx (pwr 2 r) (rk f r) i hi) j hj]
    exact bkr_rk f r j hj
theorem rk_bkr : ∀ (r : Nat) (g : Nat → Nat) (j : Nat), j < 16 → rk (bkr g r) r j = g j
  | 0, g, j, hj => rfl
  | r + 1, g, j, hj => by
    rw [bkr, rk]
    rw [nx_congr (pwr 2 r) (f := rk (bkr (pv (pwr 2 r) g) r) r) (f' := pv (pwr 2 r) g) (fun i hi => rk_bkr r (pv (pwr 2 r) g) i hi) j hj]
    exact nx_pv _ g j hj
/-- Different keys have different round keys. -/
theorem rk_inj {f f' : Nat → Nat} (r : Nat) (h : ∀ j, j < 16 → rk f r j = rk f' r j) (j : Nat) (hj : j < 16) : f j = f' j := by
  rw [← bkr_rk f r j hj, ← bkr_rk f' r j hj]
  exact bkr_congr r h j hj

/-! ### In a row -/
theorem ek_key (f : Nat → Nat) (m : Nat) (h : m < 16) : ek f m = f m := by
  unfold ek
  rw [show m / 16 = 0 by omega, show m % 16 = m by omega]; rfl
theorem ek_rk (f : Nat → Nat) (r j : Nat) (h : j < 16) : ek f (16 * r + j) = rk f r j := by
  unfold ek
  rw [show (16 * r + j) / 16 = r by omega, show (16 * r + j) % 16 = j by omega]
theorem ek_more (f : Nat → Nat) (i k : Nat) (hi : 4 ≤ i) (h4 : i % 4 ≠ 0) (hk : k < 4) : ek f (4 * i + k) = ek f (4 * (i - 4) + k) ^^^ ek f (4 * (i - 1) + k) := by
  obtain ⟨r, hr⟩ : ∃ r, i / 4 = r + 1 := ⟨i / 4 - 1, by omega⟩
  obtain ⟨j, hj⟩ : ∃ j, j = 4 * (i % 4) + k := ⟨_, rfl⟩
  rw [show 4 * i + k = 16 * (r + 1) + j by omega, show 4 * (i - 4) + k = 16 * r + j by omega, show 4 * (i - 1) + k = 16 * (r + 1) + (j - 4) by omega,
    ek_rk _ _ _ (by omega), ek_rk _ _ _ (by omega), ek_rk _ _ _ (by omega), rk, nx_more _ _ j (by omega)]
theorem ek_first (f : Nat → Nat) (i k : Nat) (hi : 4 ≤ i) (h4 : i % 4 = 0) (hk : k < 4) :
    ek f (4 * i + k) = ek f (4 * (i - 4) + k) ^^^ (sb (ek f (4 * (i - 1) + (k + 1) % 4)) ^^^ (if k = 0 then pwr 2 (i / 4 - 1) else 0)) := by
  obtain ⟨r, hr⟩ : ∃ r, i / 4 = r + 1 := ⟨i / 4 - 1, by omega⟩
  rw [show 4 * i + k = 16 * (r + 1) + k by omega, show 4 * (i - 4) + k = 16 * r + k by omega, show 4 * (i - 1) + (k + 1) % 4 = 16 * r + (12 + (k + 1) % 4) by omega,
    ek_rk _ _ _ (by omega), ek_rk _ _ _ (by omega), ek_rk _ _ _ (by omega), rk, nx_first _ _ k hk, hr]
  rfl
end Go.Proofs.YtdfponbfgcfpdaaDoor
