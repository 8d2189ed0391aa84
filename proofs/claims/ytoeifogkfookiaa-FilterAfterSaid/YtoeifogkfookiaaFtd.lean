/-
  The walk of the law FilterAfter of layer 19: for any two numbers it returns true, and writes nothing that was there.
-/
import Derived.Test.YtoeifogkfookiaaFtc
namespace Go.Proofs.Ytoeifogkfookiaa
open Go.RowKit
set_option linter.unusedVariables false
set_option linter.unusedSimpArgs false
set_option maxRecDepth 100000

set_option maxHeartbeats 1600000 in
theorem fafters (x q : Nat) (w : World) (hx : x < 18446744073709551616) (hq : q < 18446744073709551616) :
    Calls Try.prog 5 #[.int .u64 (x : Int), .int .u64 (q : Int)] w fun e w' => e = .returned (.bool true) ∧ Below w.heap.size w w' := by
  obtain ⟨m, hm⟩ : ∃ m, min x 9223372036854775807 = m := ⟨_, rfl⟩
  have h1 : min (x : Int) 9223372036854775807 = (m : Int) := by omega
  have HM := Lib.hid hm
  have HX := Lib.hid hx
  clear hm hx
  obtain ⟨V, hV⟩ : ∃ V, frF m true q = V := ⟨_, rfl⟩
  have HV := Lib.hid hV
  have HR := Lib.hid (((Up.one m).fresh q).trans hV)
  have HK := Lib.hid ((Up.one m).code q)
  clear hV
  cases V with
  | true =>
    have hBw : Below w.heap.size w w := Below.refl _ _
    go_enter Try.func5, Try.ntmps5
    go_wp2_with fail
    refine (fawake _).mono ?_
    rintro e x1 ⟨rfl, hq⟩
    have hBx1 := hBw.trans (hq.mono hBw.size)
    clear hq hBw 
    go_wp2_with fail
    refine (fafter x _ HX.out).mono ?_
    rintro e x2 ⟨g, rfl, hl, hcgx2, hq⟩
    have hBx2 := hBx1.trans (hq.mono hBx1.size)
    have hlg : w.heap.size ≤ g := Nat.le_trans hBx1.size hl
    rw [show min x 9223372036854775807 = m from HM.out] at hcgx2
    clear hl
    clear hq hBx1 
    go_wp2_with fail
    refine (flast g _ _ _ _ _ hcgx2).mono ?_
    rintro e x3 ⟨rfl, hq⟩
    have hcgx3 := (hcgx2).to hq
    have hBx3 := hBx2.trans (hq.mono hBx2.size)
    clear hq hBx2 hcgx2
    go_wp2_with fail
    refine (fcounts g _ _ _ _ _ hcgx3).mono ?_
    rintro e x4 ⟨rfl, hq⟩
    have hcgx4 := (hcgx3).to hq
    have hBx4 := hBx3.trans (hq.mono hBx3.size)
    clear hq hBx3 hcgx3
    go_wp2_with fail
    refine (ffresh g _ _ _ _ q _ hcgx4).mono ?_
    rintro e w9 ⟨rfl, hv9⟩
    rw [hv9]
    clear hv9 w9
    rw [show frF m true q = true from HV.out]
    go_wp2_with fail
    obtain ⟨x5, hy⟩ : ∃ V : World, V = x4.alloc (.cells #[.int .u64 (m : Int)] 23) := ⟨_, rfl⟩
    have hq : Below x4.heap.size x4 x5 := by rw [hy]; exact (Below.refl _ _).alloc (Nat.le_refl _) _
    have husx5 : Us x5 (x4.heap.size + 1) (some ⟨x4.heap.size, 0, none⟩) 1 (fun _ => m) := by rw [hy]; exact Us.one x4 m _
    have hcgx5 := (hcgx4).to hq
    have hBx5 := hBx4.trans (hq.mono hBx4.size)
    rw [← hy]
    obtain ⟨gs, hgs⟩ : ∃ gs, x4.heap.size = gs := ⟨_, rfl⟩
    rw [hgs] at husx5
    try rw [hgs]
    clear hy hq hgs hBx4 hcgx4
    go_wp2_with fail
    refine (rfresh _ _ _ _ (fun _ => m) q _ husx5 (by omega)).mono ?_
    rintro e w9 ⟨rfl, hv9⟩
    rw [hv9]
    clear hv9 w9
    rw [show rfF (fun _ => m) 1 q = true from HR.out]
    go_wp2_with fail
    refine (facceptY g _ _ _ _ q _ hcgx5 (by omega) HV.out).mono ?_
    rintro e x6 ⟨rfl, hcgx6, hq⟩
    have hBx6 := hBx5.trans (hq.on hBx5.size (by omega))
    clear hq hBx5 hcgx5
    go_wp2_with fail
    obtain ⟨x7, hy⟩ : ∃ V : World, V = x6.alloc (.cells #[.int .u64 (m : Int)] 23) := ⟨_, rfl⟩
    have hq : Below x6.heap.size x6 x7 := by rw [hy]; exact (Below.refl _ _).alloc (Nat.le_refl _) _
    have husx7 : Us x7 (x6.heap.size + 1) (some ⟨x6.heap.size, 0, none⟩) 1 (fun _ => m) := by rw [hy]; exact Us.one x6 m _
    have hcgx7 := (hcgx6).to hq
    have hBx7 := hBx6.trans (hq.mono hBx6.size)
    rw [← hy]
    obtain ⟨gs, hgs⟩ : ∃ gs, x6.heap.size = gs := ⟨_, rfl⟩
    rw [hgs] at husx7
    try rw [hgs]
    clear hy hq hgs hBx6 hcgx6
    go_wp2_with fail
    refine (rcode _ _ _ _ (fun _ => m) q _ husx7 (by omega)).mono ?_
    rintro e w9 ⟨rfl, hv9⟩
    rw [hv9]
    clear hv9 w9
    rw [HK.out, HV.out, if_pos rfl]
    go_wp2_with fail
    refine (told19 0 0 _).mono ?_
    rintro e w9 ⟨rfl, hv9⟩
    rw [hv9]
    clear hv9 w9
    rw [decide_eq_true rfl]
    go_wp2_with fail
    go_ret
    exact ⟨rfl, hBx7⟩
  | false =>
    have hBw : Below w.heap.size w w := Below.refl _ _
    go_enter Try.func5, Try.ntmps5
    go_wp2_with fail
    refine (fawake _).mono ?_
    rintro e x1 ⟨rfl, hq⟩
    have hBx1 := hBw.trans (hq.mono hBw.size)
    clear hq hBw 
    go_wp2_with fail
    refine (fafter x _ HX.out).mono ?_
    rintro e x2 ⟨g, rfl, hl, hcgx2, hq⟩
    have hBx2 := hBx1.trans (hq.mono hBx1.size)
    have hlg : w.heap.size ≤ g := Nat.le_trans hBx1.size hl
    rw [show min x 9223372036854775807 = m from HM.out] at hcgx2
    clear hl
    clear hq hBx1 
    go_wp2_with fail
    refine (flast g _ _ _ _ _ hcgx2).mono ?_
    rintro e x3 ⟨rfl, hq⟩
    have hcgx3 := (hcgx2).to hq
    have hBx3 := hBx2.trans (hq.mono hBx2.size)
    clear hq hBx2 hcgx2
    go_wp2_with fail
    refine (fcounts g _ _ _ _ _ hcgx3).mono ?_
    rintro e x4 ⟨rfl, hq⟩
    have hcgx4 := (hcgx3).to hq
    have hBx4 := hBx3.trans (hq.mono hBx3.size)
    clear hq hBx3 hcgx3
    go_wp2_with fail
    refine (ffresh g _ _ _ _ q _ hcgx4).mono ?_
    rintro e w9 ⟨rfl, hv9⟩
    rw [hv9]
    clear hv9 w9
    rw [show frF m true q = false from HV.out]
    go_wp2_with fail
    obtain ⟨x5, hy⟩ : ∃ V : World, V = x4.alloc (.cells #[.int .u64 (m : Int)] 23) := ⟨_, rfl⟩
    have hq : Below x4.heap.size x4 x5 := by rw [hy]; exact (Below.refl _ _).alloc (Nat.le_refl _) _
    have husx5 : Us x5 (x4.heap.size + 1) (some ⟨x4.heap.size, 0, none⟩) 1 (fun _ => m) := by rw [hy]; exact Us.one x4 m _
    have hcgx5 := (hcgx4).to hq
    have hBx5 := hBx4.trans (hq.mono hBx4.size)
    rw [← hy]
    obtain ⟨gs, hgs⟩ : ∃ gs, x4.heap.size = gs := ⟨_, rfl⟩
    rw [hgs] at husx5
    try rw [hgs]
    clear hy hq hgs hBx4 hcgx4
    go_wp2_with fail
    refine (rfresh _ _ _ _ (fun _ => m) q _ husx5 (by omega)).mono ?_
    rintro e w9 ⟨rfl, hv9⟩
    rw [hv9]
    clear hv9 w9
    rw [show rfF (fun _ => m) 1 q = false from HR.out]
    go_wp2_with fail
    refine (facceptN g _ _ _ _ q _ hcgx5 (by omega) HV.out).mono ?_
    rintro e x6 ⟨rfl, hcgx6, hq⟩
    have hBx6 := hBx5.trans (hq.on hBx5.size (by omega))
    clear hq hBx5 hcgx5
    go_wp2_with fail
    obtain ⟨x7, hy⟩ : ∃ V : World, V = x6.alloc (.cells #[.int .u64 (m : Int)] 23) := ⟨_, rfl⟩
    have hq : Below x6.heap.size x6 x7 := by rw [hy]; exact (Below.refl _ _).alloc (Nat.le_refl _) _
    have husx7 : Us x7 (x6.heap.size + 1) (some ⟨x6.heap.size, 0, none⟩) 1 (fun _ => m) := by rw [hy]; exact Us.one x6 m _
    have hcgx7 := (hcgx6).to hq
    have hBx7 := hBx6.trans (hq.mono hBx6.size)
    rw [← hy]
    obtain ⟨gs, hgs⟩ : ∃ gs, x6.heap.size = gs := ⟨_, rfl⟩
    rw [hgs] at husx7
    try rw [hgs]
    clear hy hq hgs hBx6 hcgx6
    go_wp2_with fail
    refine (rcode _ _ _ _ (fun _ => m) q _ husx7 (by omega)).mono ?_
    rintro e w9 ⟨rfl, hv9⟩
    rw [hv9]
    clear hv9 w9
    rw [HK.out, HV.out, if_neg (by decide)]
    go_wp2_with fail
    refine (told19 (noF q) (noF q) _).mono ?_
    rintro e w9 ⟨rfl, hv9⟩
    rw [hv9]
    clear hv9 w9
    rw [decide_eq_true rfl]
    go_wp2_with fail
    go_ret
    exact ⟨rfl, hBx7⟩
end Go.Proofs.Ytoeifogkfookiaa
