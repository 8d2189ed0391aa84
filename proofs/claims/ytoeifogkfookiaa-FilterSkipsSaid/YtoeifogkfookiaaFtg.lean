/-
  The walk of the law FilterSkips of layer 19: for any numbers it returns true, and writes nothing that was there.
-/
import Derived.Test.YtoeifogkfookiaaFtc
namespace Go.Proofs.Ytoeifogkfookiaa
open Go.RowKit
set_option linter.unusedVariables false
set_option linter.unusedSimpArgs false
set_option maxRecDepth 100000

set_option maxHeartbeats 4000000 in
theorem fskips (A : Option Addr) (n c : Nat) (F : Nat → Nat) (w : World) (h : Us w w.heap.size A n F) (hnc : n ≤ c) (hcm : c ≤ maxLen) :
    Calls Try.prog 7 #[.slice A n c] w fun e w' => e = .returned (.bool true) ∧ Below w.heap.size w w' := by
  by_cases h2 : n > 100
  · have i1 : (n : Int) > 100 := by omega
    clear h2 h hnc hcm
    have hBw : Below w.heap.size w w := Below.refl _ _
    go_enter Try.func7, Try.ntmps7
    go_wp2_with fail
    refine (fawake _).mono ?_
    rintro e x1 ⟨rfl, hq⟩
    have hBx1 := hBw.trans (hq.mono hBw.size)
    clear hq hBw 
    go_wp2_with fail
    refine (fawake _).mono ?_
    rintro e x2 ⟨rfl, hq⟩
    have hBx2 := hBx1.trans (hq.mono hBx1.size)
    clear hq hBx1 
    go_wp2_with fail
    go_ret
    exact ⟨rfl, hBx2⟩
  have i1 : ¬ (n : Int) > 100 := by omega
  have i3 : decide ((n : Int) > 100) = false := decide_eq_false i1
  have h100 : n ≤ 100 := by omega
  clear h2
  have hBw : Below w.heap.size w w := Below.refl _ _
  go_enter Try.func7, Try.ntmps7
  go_wp2_with fail
  refine (fawake _).mono ?_
  rintro e x3 ⟨rfl, hq⟩
  have hBx3 := hBw.trans (hq.mono hBw.size)
  clear hq hBw 
  go_wp2_with fail
  refine (fnew _).mono ?_
  rintro e x4 ⟨g, rfl, hl, hcgx4, hq⟩
  have hBx4 := hBx3.trans (hq.mono hBx3.size)
  have hlg : w.heap.size ≤ g := Nat.le_trans hBx3.size hl
  clear hl
  clear hq hBx3 
  go_wp2_with fail
  refine (fnew _).mono ?_
  rintro e x5 ⟨g2, rfl, hl, hcg2x5, hq⟩
  have hcgx5 := (hcgx4).to hq
  have hBx5 := hBx4.trans (hq.mono hBx4.size)
  have hltg : g < g2 := Nat.lt_of_lt_of_le hcgx4.lt hl
  have hlg2 : w.heap.size ≤ g2 := Nat.le_trans hBx4.size hl
  clear hl
  clear hq hBx4 hcgx4
  go_wp2_with fail
  go_loopw [5] (fun j wr => ∃ (r x y x2 L : Nat) (z : Bool), r ≤ n ∧ j = .int .i64 (r : Int) ∧ x + y = r ∧ x2 ≤ r ∧ Fi wr g x y L z ∧ Fi wr g2 x2 0 L z ∧ Below w.heap.size w wr) (fun j _ => n - (intOf j).toNat)
  case atStart => exact ⟨0, 0, 0, 0, 0, false, Nat.zero_le _, rfl, rfl, Nat.le_refl _, hcgx5, hcg2x5, hBx5⟩
  case round =>
    clear hcgx5 hcg2x5 hBx5
    obtain ⟨r, x, y, x2, L, z, hr, rfl, hxy, hx2, hcg0, hcg20, hB0⟩ := hrel
    by_cases hlt : r < n
    · have i2 : (r : Int) < (n : Int) := by omega
      obtain ⟨b, off, rfl, hb, hcell⟩ := h r hlt
      obtain ⟨q, hq⟩ : ∃ q, F r = q := ⟨_, rfl⟩
      rw [hq] at hcell
      have HQ := Lib.hid hq
      clear hq
      have ce := (hB0.cell (p := ⟨b, off + r, none⟩) hb).trans hcell
      by_cases hC : frF L z q = true
      · have HC := Lib.hid hC
        clear hC
        go_wp2_with fail
        refine (ffresh g _ _ _ _ q _ hcg0).mono ?_
        rintro e w9 ⟨rfl, hv9⟩
        rw [hv9]
        clear hv9 w9
        rw [show frF L z q = true from HC.out]
        go_wp2_with fail
        refine (facceptY g _ _ _ _ q _ hcg0 (by omega) HC.out).mono ?_
        rintro e x6 ⟨rfl, hcgx6, hq⟩
        have hcg2x6 := (hcg20).but hq (On.ne (by omega))
        have hBx6 := hB0.trans (hq.on hB0.size (by omega))
        clear hq hB0 hcg0 hcg20
        rw [erC_no rfl]
        clear ce
        have ce := (hBx6.cell (p := ⟨b, off + r, none⟩) hb).trans hcell
        go_wp2_with fail
        refine (facceptY g2 _ _ _ _ q _ hcg2x6 (by omega) HC.out).mono ?_
        rintro e x7 ⟨rfl, hcg2x7, hq⟩
        have hcgx7 := (hcgx6).but hq (On.ne (by omega))
        have hBx7 := hBx6.trans (hq.on hBx6.size (by omega))
        clear hq hBx6 hcgx6 hcg2x6
        rw [erC_no rfl]
        go_wp2_with fail
        go_round
        case rel => exact ⟨r + 1, x + 1, y, x2 + 1, q, true, by omega, by go_num, by omega, by omega, hcgx7, hcg2x7, hBx7⟩
        case measure => simp [intOf]; omega
      · have hC0 : frF L z q = false := by simpa using hC
        have HC := Lib.hid hC0
        clear hC hC0
        have hN := erEqC 42 (.int .i64 (noF q : Nat))
        go_wp2_with fail
        refine (ffresh g _ _ _ _ q _ hcg0).mono ?_
        rintro e w9 ⟨rfl, hv9⟩
        rw [hv9]
        clear hv9 w9
        rw [show frF L z q = false from HC.out]
        go_wp2_with fail
        refine (facceptN g _ _ _ _ q _ hcg0 (by omega) HC.out).mono ?_
        rintro e x8 ⟨rfl, hcgx8, hq⟩
        have hcg2x8 := (hcg20).but hq (On.ne (by omega))
        have hBx8 := hB0.trans (hq.on hB0.size (by omega))
        clear hq hB0 hcg0 hcg20
        rw [erC_is (noF_ne q)]
        go_wp2_with fail
        go_round
        case rel => exact ⟨r + 1, x, y + 1, x2, L, z, by omega, by go_num, by omega, by omega, hcgx8, hcg2x8, hBx8⟩
        case measure => simp [intOf]; omega
    · have i2 : ¬ (r : Int) < (n : Int) := by omega
      go_wp2_with fail
      refine (flast g _ _ _ _ _ hcg0).mono ?_
      rintro e x9 ⟨rfl, hq⟩
      have hcgx9 := (hcg0).to hq
      have hcg2x9 := (hcg20).to hq
      have hBx9 := hB0.trans (hq.mono hB0.size)
      clear hq hB0 hcg0 hcg20
      go_wp2_with fail
      refine (flast g2 _ _ _ _ _ hcg2x9).mono ?_
      rintro e x10 ⟨rfl, hq⟩
      have hcgx10 := (hcgx9).to hq
      have hcg2x10 := (hcg2x9).to hq
      have hBx10 := hBx9.trans (hq.mono hBx9.size)
      clear hq hBx9 hcgx9 hcg2x9
      go_wp2_with fail
      refine (fcounts g2 _ _ _ _ _ hcg2x10).mono ?_
      rintro e x11 ⟨rfl, hq⟩
      have hcgx11 := (hcgx10).to hq
      have hcg2x11 := (hcg2x10).to hq
      have hBx11 := hBx10.trans (hq.mono hBx10.size)
      clear hq hBx10 hcgx10 hcg2x10
      go_wp2_with fail
      go_ret
      exact ⟨rfl, hBx11⟩
end Go.Proofs.Ytoeifogkfookiaa
