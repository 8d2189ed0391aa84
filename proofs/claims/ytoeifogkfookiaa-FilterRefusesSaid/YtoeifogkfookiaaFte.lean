/-
  The walk of the law FilterRefuses of layer 19: for any numbers it returns true, and writes nothing that was there.
-/
import Derived.Test.YtoeifogkfookiaaFtc
namespace Go.Proofs.Ytoeifogkfookiaa
open Go.RowKit
set_option linter.unusedVariables false
set_option linter.unusedSimpArgs false
set_option maxRecDepth 100000

set_option maxHeartbeats 1600000 in
theorem frefuses (x n q : Nat) (w : World) (hx : x < 18446744073709551616) (hn : n < 256) (hq : q < 18446744073709551616) :
    Calls Try.prog 6 #[.int .u64 (x : Int), .int .u8 (n : Int), .int .u64 (q : Int)] w fun e w' => e = .returned (.bool true) ∧ Below w.heap.size w w' := by
  by_cases h : x ≥ 9223372036854775808
  · have i1 : (x : Int) ≥ 9223372036854775808 := by omega
    clear h hx
    have hBw : Below w.heap.size w w := Below.refl _ _
    go_enter Try.func6, Try.ntmps6
    go_wp2_with fail
    refine (fawake _).mono ?_
    rintro e x1 ⟨rfl, hq⟩
    have hBx1 := hBw.trans (hq.mono hBw.size)
    clear hq hBw 
    go_wp2_with fail
    refine (fawake _).mono ?_
    rintro e x2 ⟨rfl, hq⟩
    have hBx2 := hBx1.trans (hq.mono hBx1.size)
    clear hq hBx1 
    go_wp2_with fail
    go_ret
    exact ⟨rfl, hBx2⟩
  have i1 : (x : Int) < 9223372036854775808 := by omega
  have i2 : ¬ (9223372036854775808 : Int) ≤ (x : Int) := by omega
  have i3 : decide ((x : Int) ≥ 9223372036854775808) = false := decide_eq_false i2
  obtain ⟨V, hV⟩ : ∃ V, frF x true q = V := ⟨_, rfl⟩
  have HV := Lib.hid hV
  have HR := Lib.hid (((Up.one x).fresh q).trans hV)
  have HF := Lib.hid (frF_iff.2 ⟨by omega, .inl rfl⟩ : frF 0 false x = true)
  clear hV h hx
  have hBw : Below w.heap.size w w := Below.refl _ _
  go_enter Try.func6, Try.ntmps6
  go_wp2_with fail
  refine (fawake _).mono ?_
  rintro e x3 ⟨rfl, hq⟩
  have hBx3 := hBw.trans (hq.mono hBw.size)
  clear hq hBw 
  go_wp2_with fail
  refine (fnew _).mono ?_
  rintro e x4 ⟨g, rfl, hl, hcgx4, hq⟩
  have hBx4 := hBx3.trans (hq.mono hBx3.size)
  have hlg : w.heap.size ≤ g := Nat.le_trans hBx3.size hl
  clear hl
  clear hq hBx3 
  go_wp2_with fail
  refine (facceptY g _ _ _ _ x _ hcgx4 (by omega) HF.out).mono ?_
  rintro e x5 ⟨rfl, hcgx5, hq⟩
  have hBx5 := hBx4.trans (hq.on hBx4.size (by omega))
  clear hq hBx4 hcgx4
  rw [erC_no rfl]
  go_wp2_with fail
  go_loopw [8] (fun j wr => ∃ (r : Nat), r ≤ n ∧ j = .int .i64 (r : Int) ∧ Fi wr g 1 r x true ∧ Below w.heap.size w wr) (fun j _ => n - (intOf j).toNat)
  case atStart => exact ⟨0, Nat.zero_le _, rfl, hcgx5, hBx5⟩
  case round =>
    clear hcgx5 hBx5
    obtain ⟨r, hr, rfl, hcg0, hB0⟩ := hrel
    by_cases hlt : r < n
    · have j1 : (r : Int) < (n : Int) := by omega
      go_wp2_with fail
      refine (frefuse g _ _ _ _ _ hcg0 (by omega)).mono ?_
      rintro e x6 ⟨rfl, hcgx6, hq⟩
      have hBx6 := hB0.trans (hq.on hB0.size (by omega))
      clear hq hB0 hcg0
      go_wp2_with fail
      go_round
      case rel => exact ⟨r + 1, by omega, by go_num, hcgx6, hBx6⟩
      case measure => simp [intOf]; omega
    · have j1 : ¬ (r : Int) < (n : Int) := by omega
      obtain rfl : r = n := by omega
      go_wp2_with fail
      refine (flast g _ _ _ _ _ hcg0).mono ?_
      rintro e x7 ⟨rfl, hq⟩
      have hcgx7 := (hcg0).to hq
      have hBx7 := hB0.trans (hq.mono hB0.size)
      clear hq hB0 hcg0
      go_wp2_with fail
      refine (fcounts g _ _ _ _ _ hcgx7).mono ?_
      rintro e x8 ⟨rfl, hq⟩
      have hcgx8 := (hcgx7).to hq
      have hBx8 := hBx7.trans (hq.mono hBx7.size)
      clear hq hBx7 hcgx7
      go_wp2_with fail
      refine (frefuse_nil _).mono ?_
      rintro e w9 ⟨rfl, hv9⟩
      rw [hv9]
      clear hv9 w9
      go_wp2_with fail
      refine (fcounts_nil _).mono ?_
      rintro e w9 ⟨rfl, hv9⟩
      rw [hv9]
      clear hv9 w9
      go_wp2_with fail
      refine (ffresh g _ _ _ _ q _ hcgx8).mono ?_
      rintro e w9 ⟨rfl, hv9⟩
      rw [hv9]
      clear hv9 w9
      rw [show frF x true q = V from HV.out]
      go_wp2_with fail
      obtain ⟨x9, hy⟩ : ∃ V : World, V = x8.alloc (.cells #[.int .u64 (x : Int)] 23) := ⟨_, rfl⟩
      have hq : Below x8.heap.size x8 x9 := by rw [hy]; exact (Below.refl _ _).alloc (Nat.le_refl _) _
      have husx9 : Us x9 (x8.heap.size + 1) (some ⟨x8.heap.size, 0, none⟩) 1 (fun _ => x) := by rw [hy]; exact Us.one x8 x _
      have hcgx9 := (hcgx8).to hq
      have hBx9 := hBx8.trans (hq.mono hBx8.size)
      rw [← hy]
      obtain ⟨gs, hgs⟩ : ∃ gs, x8.heap.size = gs := ⟨_, rfl⟩
      rw [hgs] at husx9
      try rw [hgs]
      clear hy hq hgs hBx8 hcgx8
      go_wp2_with fail
      refine (rfresh _ _ _ _ (fun _ => x) q _ husx9 (by omega)).mono ?_
      rintro e w9 ⟨rfl, hv9⟩
      rw [hv9]
      clear hv9 w9
      rw [show rfF (fun _ => x) 1 q = V from HR.out]
      go_wp2_with fail
      go_ret
      exact ⟨rfl, hBx9⟩
end Go.Proofs.Ytoeifogkfookiaa
