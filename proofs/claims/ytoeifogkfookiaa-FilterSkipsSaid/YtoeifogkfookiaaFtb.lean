/-
  Contracts of the reference package of layer 19, and what ties a list of accepted numbers to a filter's last one. No condition but the reach; nothing is written.
-/
import Derived.Test.YtoeifogkfookiaaFta
namespace Go.Proofs.Ytoeifogkfookiaa
open Go.RowKit
set_option linter.unusedVariables false
set_option linter.unusedSimpArgs false
set_option maxRecDepth 100000

/-- A number is greater than all of a list, and small enough. -/
def rfF (F : Nat → Nat) (m s : Nat) : Bool := decide (s ≤ 9223372036854775807 ∧ ∀ j, j < m → F j < s)
theorem rfF_iff {F : Nat → Nat} {m s : Nat} : rfF F m s = true ↔ s ≤ 9223372036854775807 ∧ ∀ j, j < m → F j < s := by unfold rfF; rw [decide_eq_true_iff]
theorem rfF_no {F : Nat → Nat} {m s j : Nat} (hj : j < m) (h : s ≤ F j) : rfF F m s = false := by
  unfold rfF
  exact decide_eq_false (fun k => by have := k.2 j hj; omega)
/-- Its code. -/
def rcF (F : Nat → Nat) (m s : Nat) : Nat := if rfF F m s then 0 else noF s
/-- The accepted numbers rise to the last one. -/
structure Up (F : Nat → Nat) (m n : Nat) (z : Bool) : Prop where
  any : z = decide (0 < m)
  low : ∀ j, j < m → F j ≤ n
  last : 0 < m → F (m - 1) = n
  zero : m = 0 → n = 0
theorem Up.start (F : Nat → Nat) : Up F 0 0 false := ⟨rfl, fun j hj => by omega, fun h => by omega, fun _ => rfl⟩
theorem Up.fresh {F : Nat → Nat} {m n : Nat} {z : Bool} (h : Up F m n z) (s : Nat) : rfF F m s = frF n z s := by
  rw [Bool.eq_iff_iff, rfF_iff, frF_iff, h.any]
  refine and_congr_right fun _ => ⟨fun k => ?_, fun k j hj => ?_⟩
  · by_cases hm : 0 < m
    · right
      rw [← h.last hm]
      exact k _ (by omega)
    · left
      exact decide_eq_false hm
  · rcases k with k | k
    · exact absurd hj (by have := of_decide_eq_false k; omega)
    · have := h.low j hj; omega
theorem Up.code {F : Nat → Nat} {m n : Nat} {z : Bool} (h : Up F m n z) (s : Nat) : rcF F m s = if frF n z s then 0 else noF s := by unfold rcF; rw [h.fresh]
theorem Up.next {F : Nat → Nat} {m n s : Nat} {z : Bool} (h : Up F m n z) (hs : frF n z s = true) : Up (unP F m s) (m + 1) s true := by
  refine ⟨(decide_eq_true (by omega)).symm, fun j hj => ?_, fun _ => ?_, fun e => by omega⟩
  · by_cases e : j = m
    · rw [e, unP_same]; exact Nat.le_refl _
    · rw [unP_old _ _ _ _ (by omega)]
      have h1 := h.low j (by omega)
      rcases (frF_iff.1 hs).2 with k | k
      · rw [h.any] at k
        exact absurd (of_decide_eq_false k) (by omega)
      · omega
  · rw [show m + 1 - 1 = m by omega, unP_same]
theorem Up.one (x : Nat) : Up (fun _ => x) 1 x true := ⟨rfl, fun _ _ => Nat.le_refl _, fun _ => rfl, fun h => by omega⟩

set_option maxHeartbeats 1600000 in
theorem rfresh (A : Option Addr) (m c B : Nat) (F : Nat → Nat) (s : Nat) (w : World) (h : Us w B A m F) (hm : m ≤ 1000) :
    Calls Try.prog 12 #[.slice A m c, .int .u64 (s : Int)] w fun e w' => e = .returned (.bool (rfF F m s)) ∧ w' = w := by
  obtain ⟨V, hV⟩ : ∃ V, rfF F m s = V := ⟨_, rfl⟩
  rw [hV]
  have HV := Lib.hid hV
  clear hV
  go_enter Try.func12, Try.ntmps12
  go_wp2_with fail
  go_loopw [5] (fun i wr => ∃ r : Nat, r ≤ m ∧ i = .int .i64 (r : Int) ∧ (∀ j, j < r → F j < s) ∧ wr = w) (fun i _ => m - (intOf i).toNat)
  case atStart => exact ⟨0, Nat.zero_le _, rfl, fun j hj => by omega, rfl⟩
  case round =>
    obtain ⟨r, hr, rfl, ha, rfl⟩ := hrel
    have HA := Lib.hid ha
    clear ha
    by_cases hlt : r < m
    · have i1 : (r : Int) < (m : Int) := by omega
      obtain ⟨b, off, rfl, hb, hcell⟩ := h r hlt
      by_cases hs : s ≤ F r
      · have i2 : (s : Int) ≤ (F r : Int) := by omega
        have HS := Lib.hid hs
        clear hs
        go_wp2_with fail
        go_ret
        exact ⟨by rw [← HV.out, rfF_no hlt HS.out]; rfl, rfl⟩
      · have i2 : ¬ (s : Int) ≤ (F r : Int) := by omega
        have HS := Lib.hid hs
        clear hs
        go_wp2_with fail
        go_roundw
        case rel => exact ⟨r + 1, by omega, by go_num, fun j hj => (by have := HS.out; by_cases e : j = r; (subst e; omega); exact HA.out j (by omega)), (by first | rfl | trivial)⟩
        case measure => simp [intOf]; omega
    · have i1 : ¬ (r : Int) < (m : Int) := by omega
      obtain rfl : r = m := by omega
      by_cases hs : s < 9223372036854775808
      · have i2 : (s : Int) < 9223372036854775808 := by omega
        have HS := Lib.hid hs
        clear hs
        go_wp2_with fail
        go_ret
        exact ⟨by rw [← HV.out, rfF_iff.2 ⟨by have := HS.out; omega, HA.out⟩]; rfl, rfl⟩
      · have i2 : ¬ (s : Int) < 9223372036854775808 := by omega
        have HS := Lib.hid hs
        clear hs
        go_wp2_with fail
        go_ret
        exact ⟨by rw [← HV.out, show rfF F r s = false from decide_eq_false (fun k => by have := HS.out; omega)]; rfl, rfl⟩

set_option maxHeartbeats 1600000 in
theorem rcode (A : Option Addr) (m c B : Nat) (F : Nat → Nat) (s : Nat) (w : World) (h : Us w B A m F) (hm : m ≤ 1000) :
    Calls Try.prog 10 #[.slice A m c, .int .u64 (s : Int)] w fun e w' => e = .returned (.int .i64 (rcF F m s : Nat)) ∧ w' = w := by
  by_cases hC : rfF F m s = true
  · have HC := Lib.hid hC
    rw [show rcF F m s = 0 from if_pos hC]
    clear hC
    go_enter Try.func10, Try.ntmps10
    go_wp2_with fail
    refine (rfresh A m c B F s _ h hm).mono ?_
    rintro e w1 ⟨rfl, rfl⟩
    rw [HC.out]
    go_wp2_with fail
    go_ret
    exact ⟨rfl, rfl⟩
  have hC0 : rfF F m s = false := by simpa using hC
  have HC := Lib.hid hC0
  rw [show rcF F m s = noF s from if_neg hC]
  clear hC hC0
  by_cases h9 : 9223372036854775807 < s
  · have i1 : (s : Int) ≥ 9223372036854775808 := by omega
    rw [show noF s = 10 from if_pos h9]
    clear h9
    go_enter Try.func10, Try.ntmps10
    go_wp2_with fail
    refine (rfresh A m c B F s _ h hm).mono ?_
    rintro e w1 ⟨rfl, rfl⟩
    rw [HC.out]
    go_wp2_with fail
    go_ret
    exact ⟨rfl, rfl⟩
  · have i1 : (s : Int) < 9223372036854775808 := by omega
    have i2 : ¬ (9223372036854775808 : Int) ≤ (s : Int) := by omega
    have i3 : decide ((s : Int) ≥ 9223372036854775808) = false := decide_eq_false i2
    rw [show noF s = 9 from if_neg h9]
    clear h9
    go_enter Try.func10, Try.ntmps10
    go_wp2_with fail
    refine (rfresh A m c B F s _ h hm).mono ?_
    rintro e w1 ⟨rfl, rfl⟩
    rw [HC.out]
    go_wp2_with fail
    go_ret
    exact ⟨rfl, rfl⟩
end Go.Proofs.Ytoeifogkfookiaa
