/-
  The walk of the law FilterRises of layer 19: for any numbers it returns true, and writes nothing that was there.
-/
import Derived.Test.YtoeifogkfookiaaFtc
namespace Go.Proofs.Ytoeifogkfookiaa
open Go.RowKit
set_option linter.unusedVariables false
set_option linter.unusedSimpArgs false
set_option maxRecDepth 100000

set_option maxHeartbeats 4000000 in
theorem frises (A : Option Addr) (n c : Nat) (F : Nat → Nat) (w : World) (h : Us w w.heap.size A n F) (hnc : n ≤ c) (hcm : c ≤ maxLen) :
    Calls Try.prog 4 #[.slice A n c] w fun e w' => e = .returned (.bool true) ∧ Below w.heap.size w w' := by
  by_cases h2 : n > 100
  · have i1 : (n : Int) > 100 := by omega
    clear h2 h hnc hcm
    have hBw : Below w.heap.size w w := Below.refl _ _
    go_enter Try.func4, Try.ntmps4
    go_wp2_with fail
    refine (fawake _).mono ?_
    rintro e x1 ⟨rfl, hq⟩
    have hBx1 := hBw.trans (hq.mono hBw.size)
    clear hq hBw 
    go_wp2_with fail
    refine (fawake _).mono ?_
    rintro e x2 ⟨rfl, hq⟩
    have hBx2 := hBx1.trans (hq.mono hBx1.size)
    clear hq hBx1 
    go_wp2_with fail
    go_ret
    exact ⟨rfl, hBx2⟩
  have i1 : ¬ (n : Int) > 100 := by omega
  have i3 : decide ((n : Int) > 100) = false := decide_eq_false i1
  have h100 : n ≤ 100 := by omega
  clear h2
  have hBw : Below w.heap.size w w := Below.refl _ _
  go_enter Try.func4, Try.ntmps4
  go_wp2_with fail
  refine (fawake _).mono ?_
  rintro e x3 ⟨rfl, hq⟩
  have hBx3 := hBw.trans (hq.mono hBw.size)
  clear hq hBw 
  go_wp2_with fail
  refine (fnew _).mono ?_
  rintro e x4 ⟨g, rfl, hl, hcgx4, hq⟩
  have hBx4 := hBx3.trans (hq.mono hBx3.size)
  have hlg : w.heap.size ≤ g := Nat.le_trans hBx3.size hl
  clear hl
  clear hq hBx3 
  go_wp2_with fail
  go_loopw [4, 5, 6] (fun u v j wr => ∃ (r x y L : Nat) (z : Bool), r ≤ n ∧ u = .int .u64 (L : Int) ∧ v = .bool z ∧ j = .int .i64 (r : Int) ∧ x + y = r ∧ (∀ i, i < r → frF L z (F i) = false) ∧ Fi wr g x y L z ∧ Below w.heap.size w wr) (fun u v j _ => n - (intOf j).toNat)
  case atStart => exact ⟨0, 0, 0, 0, false, Nat.zero_le _, rfl, rfl, rfl, rfl, (fun i hi => by omega), hcgx4, hBx4⟩
  case round =>
    clear hcgx4 hBx4
    obtain ⟨r, x, y, L, z, hr, rfl, rfl, rfl, hxy, hno, hcg0, hB0⟩ := hrel
    have HNO := Lib.hid hno
    clear hno
    by_cases hlt : r < n
    · have i2 : (r : Int) < (n : Int) := by omega
      obtain ⟨b, off, rfl, hb, hcell⟩ := h r hlt
      obtain ⟨q, hq⟩ : ∃ q, F r = q := ⟨_, rfl⟩
      rw [hq] at hcell
      have HQ := Lib.hid hq
      clear hq
      have ce := (hB0.cell (p := ⟨b, off + r, none⟩) hb).trans hcell
      by_cases hC : frF L z q = true
      · have HC := Lib.hid hC
        have hq := frF_iff.1 hC
        have HLZ := Lib.hid hq.2
        have j0 : ((q : Int) < 9223372036854775808) := by have := hq.1; omega
        have j1 : ¬ (9223372036854775808 : Int) ≤ (q : Int) := by omega
        have j2 : decide ((q : Int) ≥ 9223372036854775808) = false := decide_eq_false j1
        clear hC hq
        go_wp2_with fail
        refine (facceptY g _ _ _ _ q _ hcg0 (by omega) HC.out).mono ?_
        rintro e x5 ⟨rfl, hcgx5, hq⟩
        have hBx5 := hB0.trans (hq.on hB0.size (by omega))
        clear hq hB0 hcg0
        rw [erC_no rfl]
        clear ce
        have ce := (hBx5.cell (p := ⟨b, off + r, none⟩) hb).trans hcell
        cases z with
        | false =>
          go_wp2_with fail
          go_round
          case rel => exact ⟨r + 1, x + 1, y, q, true, by omega, rfl, rfl, by go_num, by omega, (fun i hi => by by_cases e : i = r; (rw [e, HQ.out]; exact frF_self q); exact frF_rises HC.out (HNO.out i (by omega))), hcgx5, hBx5⟩
          case measure => simp [intOf]; omega
        | true =>
          have j3 : ¬ (q : Int) ≤ (L : Int) := by rcases HLZ.out with e | e; (cases e); omega
          have j4 : decide ((q : Int) ≤ (L : Int)) = false := decide_eq_false j3
          have j5 : (L : Int) < (q : Int) := by omega
          clear j3 j0 j1
          go_wp2_with fail
          go_round
          case rel => exact ⟨r + 1, x + 1, y, q, true, by omega, rfl, rfl, by go_num, by omega, (fun i hi => by by_cases e : i = r; (rw [e, HQ.out]; exact frF_self q); exact frF_rises HC.out (HNO.out i (by omega))), hcgx5, hBx5⟩
          case measure => simp [intOf]; omega
      · have hC0 : frF L z q = false := by simpa using hC
        have HC := Lib.hid hC0
        clear hC hC0
        have hN := erEqC 42 (.int .i64 (noF q : Nat))
        go_wp2_with fail
        refine (facceptN g _ _ _ _ q _ hcg0 (by omega) HC.out).mono ?_
        rintro e x6 ⟨rfl, hcgx6, hq⟩
        have hBx6 := hB0.trans (hq.on hB0.size (by omega))
        clear hq hB0 hcg0
        rw [erC_is (noF_ne q)]
        go_wp2_with fail
        go_round
        case rel => exact ⟨r + 1, x, y + 1, L, z, by omega, rfl, rfl, by go_num, by omega, (fun i hi => by by_cases e : i = r; (rw [e, HQ.out]; exact HC.out); exact HNO.out i (by omega)), hcgx6, hBx6⟩
        case measure => simp [intOf]; omega
    · have i2 : ¬ (r : Int) < (n : Int) := by omega
      obtain rfl : r = n := by omega
      go_wp2_with fail
      go_loopw [7] (fun j2 wq => ∃ (t : Nat), t ≤ r ∧ j2 = .int .i64 (t : Int) ∧ Fi wq g x (y + t) L z ∧ Below w.heap.size w wq) (fun j2 _ => r - (intOf j2).toNat)
      case atStart => exact ⟨0, Nat.zero_le _, rfl, hcg0, hB0⟩
      case round =>
        clear hcg0 hB0
        obtain ⟨t, ht, rfl, hcg0, hB0⟩ := hrel
        by_cases htr : t < r
        · have j2 : (t : Int) < (r : Int) := by omega
          obtain ⟨b, off, rfl, hb, hcell⟩ := h t htr
          obtain ⟨q, hq⟩ : ∃ q, F t = q := ⟨_, rfl⟩
          rw [hq] at hcell
          have HC := Lib.hid ((congrArg (frF L z) hq).symm.trans (HNO.out t htr))
          clear hq
          have hN := erEqC 42 (.int .i64 (noF q : Nat))
          have ce := (hB0.cell (p := ⟨b, off + t, none⟩) hb).trans hcell
          go_wp2_with fail
          refine (ffresh g _ _ _ _ q _ hcg0).mono ?_
          rintro e w9 ⟨rfl, hv9⟩
          rw [hv9]
          clear hv9 w9
          rw [show frF L z q = false from HC.out]
          go_wp2_with fail
          refine (facceptN g _ _ _ _ q _ hcg0 (by omega) HC.out).mono ?_
          rintro e x7 ⟨rfl, hcgx7, hq⟩
          have hBx7 := hB0.trans (hq.on hB0.size (by omega))
          clear hq hB0 hcg0
          rw [erC_is (noF_ne q)]
          go_wp2_with fail
          go_round
          case rel => exact ⟨t + 1, by omega, by go_num, hcgx7, hBx7⟩
          case measure => simp [intOf]; omega
        · have j2 : ¬ (t : Int) < (r : Int) := by omega
          go_wp2_with fail
          go_ret
          exact ⟨rfl, hB0⟩
end Go.Proofs.Ytoeifogkfookiaa
