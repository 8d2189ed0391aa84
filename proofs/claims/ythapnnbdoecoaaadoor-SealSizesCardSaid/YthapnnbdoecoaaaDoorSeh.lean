/-
  The walk of the law SealSizes of layer 12: for every number it returns true, and writes nothing that was there.
-/
import Derived.Test.YthapnnbdoecoaaaDoorSeg
import Derived.Deep.RegionHeld3
namespace Go.Proofs.YthapnnbdoecoaaaDoor
open Go.RowKit
set_option linter.unusedVariables false
set_option maxRecDepth 100000

set_option maxHeartbeats 8000000 in
theorem ssizes (n : Int) (w : World) (hn : -32768 ≤ n ∧ n ≤ 32767) (hs : Boxes w) :
    Calls Tryd.prog 7 #[.int .i16 n] w fun e w' => e = .returned (.bool true) ∧ Below w.heap.size w w' := by
  have HX := Lib.hid hs
  have hBw : Below w.heap.size w w := Below.refl _ _
  clear  hs 
  go_enter Tryd.func7, Tryd.ntmps7
  go_wp2_with fail
  refine (sawake _ (HX.out.keep hBw)).mono ?_
  rintro e x1 ⟨rfl, hq⟩
  have hBx1 := hBw.trans (hq.mono hBw.size)
  clear hq  hBw
  obtain ⟨hn0, hn1⟩ := hn
  have HSZ := Lib.hid (fun V => ssize n V (by omega) (by omega))
  have h16 : IntKind.i64.wrap n = n := by rw [IntKind.wrap_i64]; omega
  by_cases hneg : n < 0
  · rw [if_pos hneg] at HSZ
    go_upto_region 3 with fail
    go_wp2_with fail
    refine (HSZ.out _).mono ?_
    rintro e y ⟨rfl, rfl⟩
    go_wp2_with fail
    go_ret
    exact ⟨rfl, hBx1⟩
  · rw [if_neg hneg] at HSZ
    go_upto_region 3 with fail
    have h0n : 0 ≤ n := by omega
    go_wp2_with fail
    refine (HSZ.out _).mono ?_
    rintro e y ⟨rfl, rfl⟩
    go_wp2_with fail
    go_ret
    exact ⟨rfl, hBx1⟩
end Go.Proofs.YthapnnbdoecoaaaDoor
