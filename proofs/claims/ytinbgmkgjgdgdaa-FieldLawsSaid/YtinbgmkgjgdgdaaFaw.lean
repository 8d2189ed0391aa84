/-
  The check of the documentation's examples of layer 3 returns true, and writes nothing that was there. No condition.
-/
import Derived.Test.YtinbgmkgjgdgdaaFid
namespace Go.Proofs.Ytinbgmkgjgdgdaa
open Go.RowKit
set_option linter.unusedVariables false
set_option maxRecDepth 10000

theorem sl_lit3 {w : World} {g : Nat} (hg : g = w.heap.size) :
    Sl (w.alloc (.cells #[.int .u8 1, .int .u8 2, .int .u8 4] 5)) (w.alloc (.cells #[.int .u8 1, .int .u8 2, .int .u8 4] 5)).heap.size (some ⟨g, 0, none⟩) 3 [1, 2, 4] := by
  subst hg
  refine ⟨rfl, fun _ => ⟨w.heap.size, 0, rfl, by simp, fun j v hv => ?_⟩⟩
  rw [World.cell?_alloc_at _ _ _ _ rfl]
  rcases j with _ | _ | _ | j
  · simp at hv; subst hv; rfl
  · simp at hv; subst hv; rfl
  · simp at hv; subst hv; rfl
  · simp at hv

set_option maxHeartbeats 1600000 in
theorem fawake (w : World) : Calls Try.prog 8 #[] w fun e w' => e = .returned (.bool true) ∧ Below w.heap.size w w' := by
  go_enter Try.func8, Try.ntmps8
  go_wp2_with fail
  refine (fmul 87 131 _ (by omega) (by omega)).mono ?_
  rintro e w1 ⟨rfl, hb1⟩
  rw [show mul 87 131 = 193 from by decide +kernel]
  go_wp2_with fail
  refine (finv 83 _ (by omega)).mono ?_
  rintro e w2 ⟨rfl, hb2⟩
  have hb2 := hb1.trans (hb2.mono hb1.size)
  clear hb1
  rw [show inv 83 = 202 from by rw [inv_chain _ (by omega)]; decide +kernel]
  go_wp2_with fail
  refine (finv 0 _ (by omega)).mono ?_
  rintro e w3 ⟨rfl, hb3⟩
  have hb3 := hb2.trans (hb3.mono hb2.size)
  clear hb2
  rw [inv_zero]
  go_wp2_with fail
  refine (fdouble 128 _ (by omega)).mono ?_
  rintro e w' ⟨rfl, rfl⟩
  rw [show dbl 128 = 27 from by decide +kernel]
  go_wp2_with fail
  refine (fpow 0 0 _ (by omega) (by omega)).mono ?_
  rintro e w4 ⟨rfl, hb4⟩
  have hb4 := hb3.trans (hb4.mono hb3.size)
  clear hb3
  rw [show pwr 0 0 = 1 from rfl]
  go_wp2_with fail
  refine (fsum _ 3 3 _ _ (sl_lit3 rfl) (by omega)).mono ?_
  rintro e w' ⟨rfl, rfl⟩
  rw [show sumN [1, 2, 4] = 7 from by decide +kernel]
  have hb5 := hb4.alloc hb4.size (.cells #[.int .u8 1, .int .u8 2, .int .u8 4] 5)
  clear hb4
  go_wp2_with fail
  refine (fdot 1 2 0 0 3 1 0 0 _ (by omega) (by omega) (by omega) (by omega) (by omega) (by omega) (by omega) (by omega)).mono ?_
  rintro e w6 ⟨rfl, hb6⟩
  have hb6 := hb5.trans (hb6.mono hb5.size)
  rw [show ((mul 1 3 ^^^ mul 2 1) ^^^ mul 0 0) ^^^ mul 0 0 = 1 from by decide +kernel]
  go_wp2_with fail
  go_ret
  exact ⟨rfl, hb6⟩
end Go.Proofs.Ytinbgmkgjgdgdaa
