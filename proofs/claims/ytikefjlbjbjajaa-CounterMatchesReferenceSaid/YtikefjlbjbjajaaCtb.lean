/-
  The check of the examples of layer 18 returns true. No condition; what was there stays as it was.
-/
import Derived.Test.YtikefjlbjbjajaaCta
namespace Go.Proofs.Ytikefjlbjbjajaa
open Go.RowKit
set_option linter.unusedVariables false
set_option linter.unusedSimpArgs false
set_option maxRecDepth 100000

set_option maxHeartbeats 1600000 in
theorem cawake (w : World) :
    Calls Try.prog 8 #[] w fun e w' => e = .returned (.bool true) ∧ Below w.heap.size w w' := by
  have hBw : Below w.heap.size w w := Below.refl _ _
  have hT : ∀ V, _ := fun V => eqCdT 6 (w := V)
  have hT7 : ∀ V, _ := fun V => eqCdT 7 (w := V)
  go_enter Try.func8, Try.ntmps8
  go_wp2_with fail
  refine (cnew 9223372036854775806 _ (by omega)).mono ?_
  rintro e x1 ⟨g, rfl, hl, hcgx1, hq⟩
  have hBx1 := hBw.trans (hq.mono hBw.size)
  have hlg : w.heap.size ≤ g := Nat.le_trans hBw.size hl
  rw [show min 9223372036854775806 9223372036854775807 = 9223372036854775806 from rfl] at hcgx1
  clear hl
  clear hq hBw 
  go_wp2_with fail
  refine (cnext g _ _ _ _ hcgx1).mono ?_
  rintro e x2 ⟨rfl, hcgx2, hq⟩
  have hBx2 := hBx1.trans (hq.on hBx1.size (by omega))
  rw [show upC 9223372036854775806 false 9223372036854775806 = 9223372036854775807 from rfl] at hcgx2
  rw [show upC 9223372036854775806 false 0 = 1 from rfl] at hcgx2
  clear hq hBx1 hcgx1
  rw [show cdC 9223372036854775806 false = 0 from rfl]
  rw [show vlC 9223372036854775806 false = 9223372036854775806 from rfl]
  rw [erW_no rfl]
  go_wp2_with fail
  refine (cnext g _ _ _ _ hcgx2).mono ?_
  rintro e x3 ⟨rfl, hcgx3, hq⟩
  have hBx3 := hBx2.trans (hq.on hBx2.size (by omega))
  rw [show upC 9223372036854775807 false 9223372036854775807 = 9223372036854775807 from rfl] at hcgx3
  rw [show upC 9223372036854775807 false 1 = 1 from rfl] at hcgx3
  clear hq hBx2 hcgx2
  rw [show cdC 9223372036854775807 false = 6 from rfl]
  rw [show vlC 9223372036854775807 false = 0 from rfl]
  rw [erW_is (by decide)]
  go_wp2_with fail
  refine (cnext_nil _).mono ?_
  rintro e x4 ⟨rfl, hq⟩
  have hcgx4 := (hcgx3).to hq
  have hBx4 := hBx3.trans (hq.mono hBx3.size)
  clear hq hBx3 hcgx3
  rw [erW_is (by decide)]
  go_wp2_with fail
  refine (cgiven g _ _ _ _ hcgx4).mono ?_
  rintro e w9 ⟨rfl, hv9⟩
  rw [hv9]
  clear hv9 w9
  go_wp2_with fail
  refine (cleft g _ _ _ _ hcgx4).mono ?_
  rintro e x5 ⟨rfl, hq⟩
  have hcgx5 := (hcgx4).to hq
  have hBx5 := hBx4.trans (hq.mono hBx4.size)
  clear hq hBx4 hcgx4
  rw [show lfC 9223372036854775807 false = 0 from rfl]
  go_wp2_with fail
  refine (cnew 5 _ (by omega)).mono ?_
  rintro e x6 ⟨g2, rfl, hl, hcg2x6, hq⟩
  have hcgx6 := (hcgx5).to hq
  have hBx6 := hBx5.trans (hq.mono hBx5.size)
  have hlg2 : w.heap.size ≤ g2 := Nat.le_trans hBx5.size hl
  rw [show min 5 9223372036854775807 = 5 from rfl] at hcg2x6
  clear hl
  clear hq hBx5 hcgx5
  go_wp2_with fail
  refine (cleft g2 _ _ _ _ hcg2x6).mono ?_
  rintro e x7 ⟨rfl, hq⟩
  have hcgx7 := (hcgx6).to hq
  have hcg2x7 := (hcg2x6).to hq
  have hBx7 := hBx6.trans (hq.mono hBx6.size)
  clear hq hBx6 hcgx6 hcg2x6
  rw [show lfC 5 false = 9223372036854775802 from rfl]
  go_wp2_with fail
  go_ret
  exact ⟨rfl, hBx7⟩
end Go.Proofs.Ytikefjlbjbjajaa
