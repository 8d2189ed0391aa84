/-
  The walk of the law CounterLarge of layer 18: for every number it returns true, and writes nothing that was there.
-/
import Derived.Test.YtikefjlbjbjajaaCtb
namespace Go.Proofs.Ytikefjlbjbjajaa
open Go.RowKit
set_option linter.unusedVariables false
set_option linter.unusedSimpArgs false
set_option maxRecDepth 100000

set_option maxHeartbeats 1600000 in
theorem clarge (x : Nat) (w : World) (hx : x < 18446744073709551616) :
    Calls Try.prog 5 #[.int .u64 (x : Int)] w fun e w' => e = .returned (.bool true) ∧ Below w.heap.size w w' := by
  by_cases h : x < 9223372036854775807
  · have i1 : (x : Int) < 9223372036854775807 := by omega
    clear h hx
    have hBw : Below w.heap.size w w := Below.refl _ _
    go_enter Try.func5, Try.ntmps5
    go_wp2_with fail
    refine (cawake _).mono ?_
    rintro e x1 ⟨rfl, hq⟩
    have hBx1 := hBw.trans (hq.mono hBw.size)
    clear hq hBw 
    go_wp2_with fail
    refine (cawake _).mono ?_
    rintro e x2 ⟨rfl, hq⟩
    have hBx2 := hBx1.trans (hq.mono hBx1.size)
    clear hq hBx1 
    go_wp2_with fail
    go_ret
    exact ⟨rfl, hBx2⟩
  · have i1 : ¬ (x : Int) < 9223372036854775807 := by omega
    have i2 : decide ((x : Int) < 9223372036854775807) = false := decide_eq_false i1
    have HX := Lib.hid hx
    have H := Lib.hid h
    clear h hx
    have hBw : Below w.heap.size w w := Below.refl _ _
    go_enter Try.func5, Try.ntmps5
    go_wp2_with fail
    refine (cawake _).mono ?_
    rintro e x3 ⟨rfl, hq⟩
    have hBx3 := hBw.trans (hq.mono hBw.size)
    clear hq hBw 
    go_wp2_with fail
    refine (cnew x _ HX.out).mono ?_
    rintro e x4 ⟨g, rfl, hl, hcgx4, hq⟩
    have hBx4 := hBx3.trans (hq.mono hBx3.size)
    have hlg : w.heap.size ≤ g := Nat.le_trans hBx3.size hl
    rw [show min x 9223372036854775807 = 9223372036854775807 from (by have := H.out; omega)] at hcgx4
    clear hl
    clear hq hBx3 
    go_wp2_with fail
    refine (cnext g _ _ _ _ hcgx4).mono ?_
    rintro e x5 ⟨rfl, hcgx5, hq⟩
    have hBx5 := hBx4.trans (hq.on hBx4.size (by omega))
    rw [show upC 9223372036854775807 false 9223372036854775807 = 9223372036854775807 from rfl] at hcgx5
    rw [show upC 9223372036854775807 false 0 = 0 from rfl] at hcgx5
    clear hq hBx4 hcgx4
    rw [show cdC 9223372036854775807 false = 6 from rfl]
    rw [show vlC 9223372036854775807 false = 0 from rfl]
    go_wp2_with fail
    refine (cpeek g _ _ _ _ hcgx5).mono ?_
    rintro e x6 ⟨rfl, hq⟩
    have hcgx6 := (hcgx5).to hq
    have hBx6 := hBx5.trans (hq.mono hBx5.size)
    clear hq hBx5 hcgx5
    rw [show cdC 9223372036854775807 false = 6 from rfl]
    rw [show vlC 9223372036854775807 false = 0 from rfl]
    go_wp2_with fail
    refine (cclose g _ _ _ _ hcgx6).mono ?_
    rintro e x7 ⟨rfl, hcgx7, hq⟩
    have hBx7 := hBx6.trans (hq.on hBx6.size (by omega))
    clear hq hBx6 hcgx6
    go_wp2_with fail
    refine (cnext g _ _ _ _ hcgx7).mono ?_
    rintro e x8 ⟨rfl, hcgx8, hq⟩
    have hBx8 := hBx7.trans (hq.on hBx7.size (by omega))
    rw [show upC 9223372036854775807 true 9223372036854775807 = 9223372036854775807 from rfl] at hcgx8
    rw [show upC 9223372036854775807 true 0 = 0 from rfl] at hcgx8
    clear hq hBx7 hcgx7
    rw [show cdC 9223372036854775807 true = 7 from rfl]
    rw [show vlC 9223372036854775807 true = 0 from rfl]
    go_wp2_with fail
    refine (told18 6 6 _).mono ?_
    rintro e w9 ⟨rfl, hv9⟩
    rw [hv9]
    clear hv9 w9
    rw [decide_eq_true rfl]
    go_wp2_with fail
    refine (told18 6 6 _).mono ?_
    rintro e w9 ⟨rfl, hv9⟩
    rw [hv9]
    clear hv9 w9
    rw [decide_eq_true rfl]
    go_wp2_with fail
    refine (told18 7 7 _).mono ?_
    rintro e w9 ⟨rfl, hv9⟩
    rw [hv9]
    clear hv9 w9
    rw [decide_eq_true rfl]
    go_wp2_with fail
    refine (cleft g _ _ _ _ hcgx8).mono ?_
    rintro e x9 ⟨rfl, hq⟩
    have hcgx9 := (hcgx8).to hq
    have hBx9 := hBx8.trans (hq.mono hBx8.size)
    clear hq hBx8 hcgx8
    rw [show lfC 9223372036854775807 true = 0 from rfl]
    go_wp2_with fail
    refine (cgiven g _ _ _ _ hcgx9).mono ?_
    rintro e w9 ⟨rfl, hv9⟩
    rw [hv9]
    clear hv9 w9
    go_wp2_with fail
    go_ret
    exact ⟨rfl, hBx9⟩
end Go.Proofs.Ytikefjlbjbjajaa
