/-
  The check of the examples of layer 20 returns true. No condition; what was there stays as it was.
-/
import Derived.Test.YtmfmcbghofcafaaEcb
namespace Go.Proofs.Ytmfmcbghofcafaa
open Go.RowKit
set_option linter.unusedVariables false
set_option linter.unusedSimpArgs false
set_option maxRecDepth 100000

set_option maxHeartbeats 1600000 in
theorem kawake (w : World) :
    Calls Try.prog 8 #[] w fun e w' => e = .returned (.bool true) ∧ Below w.heap.size w w' := by
  have hBw : Below w.heap.size w w := Below.refl _ _
  go_enter Try.func8, Try.ntmps8
  go_wp2_with fail
  refine (enew _).mono ?_
  rintro e x1 ⟨g, rfl, hl, hegx1, hq⟩
  have hBx1 := hBw.trans (hq.mono hBw.size)
  have hlg : w.heap.size ≤ g := Nat.le_trans hBw.size hl
  clear hl
  clear hq hBw 
  go_wp2_with fail
  refine (ereply g _ _ _ _ 3 _ hegx1 (by decide)).mono ?_
  rintro e x2 ⟨rfl, hegx2, hq⟩
  have hBx2 := hBx1.trans (hq.on hBx1.size (by omega))
  clear hq hBx1 hegx1
  rw [show rpE 0 0 false 3 = 65535 from rfl]
  go_wp2_with fail
  refine (etake g _ _ _ _ 5 100 _ hegx2 (by decide) (by decide)).mono ?_
  rintro e x3 ⟨q, rfl, hl, hegx3, hq⟩
  have hBx3 := hBx2.trans (hq.on hBx2.size (by omega))
  have hlq : w.heap.size ≤ q := Nat.le_trans hBx2.size hl
  clear hl
  clear hq hBx2 hegx2
  go_wp2_with fail
  refine (eheld g _ _ _ _ 103 _ hegx3 (by decide)).mono ?_
  rintro e w9 ⟨rfl, hv9⟩
  rw [hv9]
  clear hv9 w9
  rw [show hdE 100 true 103 = 3 from rfl]
  go_wp2_with fail
  refine (ereply g _ _ _ _ 103 _ hegx3 (by decide)).mono ?_
  rintro e x4 ⟨rfl, hegx4, hq⟩
  have hBx4 := hBx3.trans (hq.on hBx3.size (by omega))
  clear hq hBx3 hegx3
  rw [show rpE 5 100 true 103 = 8 from rfl]
  go_wp2_with fail
  refine (ereply g _ _ _ _ 104 _ hegx4 (by decide)).mono ?_
  rintro e x5 ⟨rfl, hegx5, hq⟩
  have hBx5 := hBx4.trans (hq.on hBx4.size (by omega))
  clear hq hBx4 hegx4
  rw [show rpE 5 100 false 104 = 65535 from rfl]
  obtain ⟨x6, hy⟩ : ∃ V : World, V = x5.alloc (.cells #[.int .u16 0, .int .i64 0, .int .u32 0] 46) := ⟨_, rfl⟩
  have hq : Below x5.heap.size x5 x6 := by rw [hy]; exact (Below.refl _ _).alloc (Nat.le_refl _) _
  have hrgrx6 : Rt x6 x5.heap.size 0 0 0 := by rw [hy]; exact ⟨Cx.new x5 3 (rtF 0 0 0) _, by decide⟩
  have hBx6 := hBx5.trans (hq.mono hBx5.size)
  have hlgr : w.heap.size ≤ x5.heap.size := hBx5.size
  clear hq hBx5 hegx5
  go_wp2_with fail
  rw [← hy]
  clear hy
  obtain ⟨gr, hgr⟩ : ∃ gr : Nat, x5.heap.size = gr := ⟨_, rfl⟩
  rw [hgr] at hrgrx6 hlgr 
  try simp only [hgr]
  clear hgr
  go_wp2_with fail
  refine (radd gr _ 0 _ 10 _ hrgrx6 (by decide) (by decide)).mono ?_
  rintro e x7 ⟨rfl, hrgrx7, hq⟩
  have hBx7 := hBx6.trans (hq.on hBx6.size (by omega))
  rw [show esN 0 0 10 = 80 from rfl] at hrgrx7
  clear hq hBx6 hrgrx6
  go_wp2_with fail
  refine (radd gr _ 1 _ 18 _ hrgrx7 (by decide) (by decide)).mono ?_
  rintro e x8 ⟨rfl, hrgrx8, hq⟩
  have hBx8 := hBx7.trans (hq.on hBx7.size (by omega))
  rw [show esN 1 80 18 = 88 from rfl] at hrgrx8
  clear hq hBx7 hrgrx7
  go_wp2_with fail
  refine (rlast gr _ _ _ _ hrgrx8).mono ?_
  rintro e x9 ⟨rfl, hq⟩
  have hrgrx9 := (hrgrx8).to hq
  have hBx9 := hBx8.trans (hq.mono hBx8.size)
  clear hq hBx8 hrgrx8
  go_wp2_with fail
  refine (rcount gr _ _ _ _ hrgrx9).mono ?_
  rintro e w9 ⟨rfl, hv9⟩
  rw [hv9]
  clear hv9 w9
  go_wp2_with fail
  refine (rest gr _ _ _ _ hrgrx9).mono ?_
  rintro e w9 ⟨rfl, hv9⟩
  rw [hv9]
  clear hv9 w9
  go_wp2_with fail
  go_ret
  exact ⟨rfl, hBx9⟩
end Go.Proofs.Ytmfmcbghofcafaa
