/-
  The check of the examples of layer 19 returns true. No condition; what was there stays as it was.
-/
import Derived.Test.YtoeifogkfookiaaFtb
namespace Go.Proofs.Ytoeifogkfookiaa
open Go.RowKit
set_option linter.unusedVariables false
set_option linter.unusedSimpArgs false
set_option maxRecDepth 100000

set_option maxHeartbeats 1600000 in
theorem fawake (w : World) :
    Calls Try.prog 8 #[] w fun e w' => e = .returned (.bool true) ∧ Below w.heap.size w w' := by
  have hBw : Below w.heap.size w w := Below.refl _ _
  have hT : ∀ V, _ := fun V => eqCdTC 9 (w := V)
  have hT7 : ∀ V, _ := fun V => eqCdTC 7 (w := V)
  go_enter Try.func8, Try.ntmps8
  go_wp2_with fail
  refine (fnew _).mono ?_
  rintro e x1 ⟨g, rfl, hl, hcgx1, hq⟩
  have hBx1 := hBw.trans (hq.mono hBw.size)
  have hlg : w.heap.size ≤ g := Nat.le_trans hBw.size hl
  clear hl
  clear hq hBw 
  go_wp2_with fail
  refine (flast g _ _ _ _ _ hcgx1).mono ?_
  rintro e x2 ⟨rfl, hq⟩
  have hcgx2 := (hcgx1).to hq
  have hBx2 := hBx1.trans (hq.mono hBx1.size)
  clear hq hBx1 hcgx1
  go_wp2_with fail
  refine (facceptY g _ _ _ _ 5 _ hcgx2 (by omega) (by decide)).mono ?_
  rintro e x3 ⟨rfl, hcgx3, hq⟩
  have hBx3 := hBx2.trans (hq.on hBx2.size (by omega))
  clear hq hBx2 hcgx2
  rw [erC_no rfl]
  go_wp2_with fail
  refine (facceptN g _ _ _ _ 5 _ hcgx3 (by omega) (by decide)).mono ?_
  rintro e x4 ⟨rfl, hcgx4, hq⟩
  have hBx4 := hBx3.trans (hq.on hBx3.size (by omega))
  clear hq hBx3 hcgx3
  rw [show noF 5 = 9 from rfl, erC_is (by decide)]
  go_wp2_with fail
  refine (facceptN g _ _ _ _ 4 _ hcgx4 (by omega) (by decide)).mono ?_
  rintro e x5 ⟨rfl, hcgx5, hq⟩
  have hBx5 := hBx4.trans (hq.on hBx4.size (by omega))
  clear hq hBx4 hcgx4
  rw [show noF 4 = 9 from rfl, erC_is (by decide)]
  go_wp2_with fail
  refine (flast g _ _ _ _ _ hcgx5).mono ?_
  rintro e x6 ⟨rfl, hq⟩
  have hcgx6 := (hcgx5).to hq
  have hBx6 := hBx5.trans (hq.mono hBx5.size)
  clear hq hBx5 hcgx5
  go_wp2_with fail
  refine (fcounts g _ _ _ _ _ hcgx6).mono ?_
  rintro e x7 ⟨rfl, hq⟩
  have hcgx7 := (hcgx6).to hq
  have hBx7 := hBx6.trans (hq.mono hBx6.size)
  clear hq hBx6 hcgx6
  go_wp2_with fail
  refine (ffresh g _ _ _ _ 6 _ hcgx7).mono ?_
  rintro e w9 ⟨rfl, hv9⟩
  rw [hv9]
  clear hv9 w9
  rw [show frF 5 true 6 = true from rfl]
  go_wp2_with fail
  refine (ffresh_nil 6 _).mono ?_
  rintro e w9 ⟨rfl, hv9⟩
  rw [hv9]
  clear hv9 w9
  go_wp2_with fail
  refine (faccept_nil 6 _).mono ?_
  rintro e w9 ⟨rfl, hv9⟩
  rw [hv9]
  clear hv9 w9
  rw [erC_is (by decide)]
  go_wp2_with fail
  refine (fafter 3 _ (by omega)).mono ?_
  rintro e x8 ⟨g2, rfl, hl, hcg2x8, hq⟩
  have hcgx8 := (hcgx7).to hq
  have hBx8 := hBx7.trans (hq.mono hBx7.size)
  have hlg2 : w.heap.size ≤ g2 := Nat.le_trans hBx7.size hl
  rw [show min 3 9223372036854775807 = 3 from rfl] at hcg2x8
  clear hl
  clear hq hBx7 hcgx7
  go_wp2_with fail
  go_ret
  exact ⟨rfl, hBx8⟩
end Go.Proofs.Ytoeifogkfookiaa
