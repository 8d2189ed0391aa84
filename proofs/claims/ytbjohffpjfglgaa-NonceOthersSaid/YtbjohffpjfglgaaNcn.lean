/-
  The walk of the law NonceOthers of layer 15: for every number it returns true, and writes nothing that was there.
-/
import Derived.Test.YtbjohffpjfglgaaNce
import Derived.Test.YtbjohffpjfglgaaArg
import Derived.Deep.RegionHeld3
namespace Go.Proofs.Ytbjohffpjfglgaa
open Go.RowKit
set_option linter.unusedVariables false
set_option maxRecDepth 100000
set_option linter.unusedSimpArgs false

set_option maxHeartbeats 4000000 in
theorem nothers (d : Int) (w : World) (hd : -9223372036854775808 ≤ d ∧ d ≤ 9223372036854775807) :
    Calls Try.prog 7 #[.int .i64 d] w fun e w' => e = .returned (.bool true) ∧ Below w.heap.size w w' := by
  have hz := zero12n
  have hz8 := zero8n
  have hBw : Below w.heap.size w w := Below.refl _ _
  go_enter Try.func7, Try.ntmps7
  go_wp2_with fail
  refine (nawake _).mono ?_
  rintro e x1 ⟨rfl, hq⟩
  have hBx1 := hBw.trans (hq.mono hBw.size)
  clear hq  hBw
  by_cases h0 : d = 0
  · subst h0
    go_wp2_with fail
    refine (awk4 _).mono ?_
    rintro e x2 ⟨rfl, hq⟩
    have hBx2 := hBx1.trans (hq.mono hBx1.size)
    clear hq  hBx1
    go_wp2_with fail
    go_ret
    exact ⟨rfl, hBx2⟩
  · have i0 : (d == 0) = false := by simp [h0]
    have hC := Lib.hid (fun V => nother d V hd)
    clear hd
    go_wp2_with fail
    refine (hC.out _).mono ?_
    rintro e x3 ⟨rfl, hq⟩
    rw [if_neg h0]
    have hBx3 := hBx1.trans (hq.mono hBx1.size)
    clear hq  hBx1
    go_wp2_with fail
    go_ret
    exact ⟨rfl, hBx3⟩
end Go.Proofs.Ytbjohffpjfglgaa
