/-
  The struct fast.Cipher in memory: a key, the round keys as columns, and a mark. No condition.
-/
import Derived.Test.YtblhfmlgpldaeaaDoorFre
import Derived.Test.YtblhfmlgpldaeaaDoorFac
namespace Go.Proofs.YtblhfmlgpldaeaaDoor
open Go.RowKit
set_option linter.unusedVariables false
set_option maxRecDepth 100000

/-- The cells of a Cipher. -/
def ciF (f T : Nat → Nat) (b : Bool) (j : Nat) : Value := if j < 16 then n8 (f j) else if j < 60 then w32 (T (j - 16)) else .bool b
theorem ciF_one (f T : Nat → Nat) (b : Bool) (j : Nat) : (ciF f T b j).oneCell' = true := by
  unfold ciF
  repeat' split
  all_goals rfl
theorem built_cip (f : Nat → Nat) : Tryd.prog.built 62 [(0, .agg (arL 16 f).toArray), (2, .bool true)] = some (cxL 61 (ciF f (fun _ => 0) true)).toArray := by kernel_rfl
theorem run_cip (f : Nat → Nat) (w : World) : (Instr.build 62 #[(0, .agg (arL 16 f).toArray), (2, .bool true)]).run Tryd.prog w = .ok (.agg (cxL 61 (ciF f (fun _ => 0) true)).toArray) w :=
  run_build w _ _ _ (built_cip f)
/-- The columns of the first n round keys. -/
def thF (f : Nat → Nat) (n m : Nat) : Nat := if m / 4 < n then wd (rk f (m / 4)) (m % 4) else 0
/-- A Cipher that New has made of the key f. -/
def Ci (w : World) (g : Nat) (f : Nat → Nat) : Prop := Cx w g 61 (ciF f (thF f 11) true)
theorem ciF_key (f T : Nat → Nat) (b : Bool) (j : Nat) (v : Value) (h : (arL 16 f)[j]? = some v) : ciF f T b (0 + j) = v := by
  obtain ⟨h1, rfl⟩ := arL_get_some h
  unfold ciF; rw [if_pos (by omega), Nat.zero_add]
theorem ciF_there (f T : Nat → Nat) (b : Bool) (r : Nat) (hr : r < 11) (W : Nat → Nat) (hW : ∀ k, k < 4 → T (4 * r + k) = W k) (j : Nat) (v : Value) (h : (awL 4 W)[j]? = some v) : ciF f T b (16 + r * 4 + j) = v := by
  obtain ⟨h1, rfl⟩ := awL_get_some h
  unfold ciF; rw [if_neg (by omega), if_pos (by omega), show 16 + r * 4 + j - 16 = 4 * r + j by omega, hW j h1]
theorem Ci.there {w : World} {g : Nat} {f : Nat → Nat} (h : Ci w g f) (r : Nat) (hr : r < 11) : w.rangeAt g (16 + r * 4) (awL 4 (wd (rk f r))) :=
  Cx.range h _ _ (by rw [awL_len]; omega) (ciF_there _ _ _ r hr _ (fun k hk => by unfold thF; rw [show (4 * r + k) / 4 = r by omega, show (4 * r + k) % 4 = k by omega, if_pos hr]))
theorem Ci.key {w : World} {g : Nat} {f : Nat → Nat} (h : Ci w g f) : w.rangeAt g 0 (arL 16 f) := Cx.range h _ _ (by rw [arL_len]; omega) (ciF_key _ _ _)
theorem Ci.ready {w : World} {g : Nat} {f : Nat → Nat} (h : Ci w g f) : w.cell? ⟨g, 60, none⟩ = some (.bool true) := (h 60 (by decide)).1
theorem Ci.to {w w' : World} {g : Nat} {f : Nat → Nat} (h : Ci w g f) (hb : Below w.heap.size w w') : Ci w' g f := Cx.to h (by decide) hb
theorem Ci.keep {w w' : World} {B g : Nat} {f : Nat → Nat} (h : Ci w g f) (hg : g < B) (hb : Below B w w') : Ci w' g f := Cx.keep h hg hb
theorem Ci.drew {w : World} {g : Nat} {f : Nat → Nat} (h : Ci w g f) : Ci w.drew g f := h
theorem Ci.lt {w : World} {g : Nat} {f : Nat → Nat} (h : Ci w g f) : g < w.heap.size := Cx.lt h (by decide)
/-- One row more is written. -/
theorem ciF_putT (f T T' : Nat → Nat) (b : Bool) (r : Nat) (hr : r < 11) (W : Nat → Nat) (hT : ∀ m, m < 44 → (if m / 4 = r then W (m % 4) else T m) = T' m) (j : Nat) (hj : j < 61) : cxP (ciF f T b) (16 + r * 4) (awL 4 W) j = ciF f T' b j := by
  unfold cxP
  rw [awL_len]
  by_cases hc : 16 + r * 4 ≤ j ∧ j < 16 + r * 4 + 4
  · rw [if_pos hc, awL_get 4 W _ (by omega)]
    unfold ciF
    rw [if_neg (by omega), if_pos (by omega), ← hT _ (by omega), if_pos (by omega), show j - (16 + r * 4) = (j - 16) % 4 by omega]; rfl
  · rw [if_neg hc]
    unfold ciF
    split
    · rfl
    · split
      · rw [← hT _ (by omega), if_neg (by omega)]
      · rfl
end Go.Proofs.YtblhfmlgpldaeaaDoor
