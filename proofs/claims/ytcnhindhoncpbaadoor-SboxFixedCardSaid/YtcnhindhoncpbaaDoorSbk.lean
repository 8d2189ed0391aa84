/-
  The check of the documentation's examples of layer 4 returns true. No condition but what the table holds; nothing is written.
-/
import Derived.Test.YtcnhindhoncpbaaDoorSba
import Derived.Test.YtcnhindhoncpbaaDoorSbw
import Derived.Test.YtcnhindhoncpbaaDoorSbb
namespace Go.Proofs.YtcnhindhoncpbaaDoor
open Go.RowKit
set_option linter.unusedVariables false
set_option maxRecDepth 10000

set_option maxHeartbeats 1600000 in
theorem sawake (w : World) (h : Boxes w) : Calls Tryd.prog 7 #[] w fun e w' => e = .returned (.bool true) ∧ w' = w := by
  go_enter Tryd.func7, Tryd.ntmps7
  go_wp2_with fail
  refine (sboxS 0 _ (by omega) h).mono ?_
  rintro e w1 ⟨rfl, rfl⟩
  rw [show sb 0 = 99 from sb_zero]
  go_wp2_with fail
  refine (sboxS 83 _ (by omega) h).mono ?_
  rintro e w2 ⟨rfl, rfl⟩
  rw [show sb 83 = 237 from by decide +kernel]
  go_wp2_with fail
  refine (sback 99 _ (by omega) h).mono ?_
  rintro e w3 ⟨rfl, rfl⟩
  rw [show bk 99 = 0 from by decide +kernel]
  go_wp2_with fail
  refine (saff 0 _ (by omega)).mono ?_
  rintro e w4 ⟨rfl, rfl⟩
  rw [aff_zero]
  go_wp2_with fail
  refine (sboxWord 5439488 _ (by omega) h).mono ?_
  rintro e w5 ⟨rfl, rfl⟩
  rw [show sbw 5439488 = 1676501859 from by decide +kernel]
  go_wp2_with fail
  go_ret
  exact ⟨rfl, rfl⟩
end Go.Proofs.YtcnhindhoncpbaaDoor
