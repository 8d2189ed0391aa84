/-
  The walk of the law TextValues of layer 14: for every byte and every number it returns true, and writes nothing that was there.
-/
import Derived.Test.YtfmlllckfpagkaaDoorTxf
import Derived.Test.YtfmlllckfpagkaaDoorArg
import Derived.Deep.RegionHeld3
namespace Go.Proofs.YtfmlllckfpagkaaDoor
open Go.RowKit
set_option linter.unusedVariables false
set_option maxRecDepth 100000
set_option linter.unusedSimpArgs false

set_option maxHeartbeats 4000000 in
theorem tvalues14 (c : Nat) (v : Int) (w : World) (hc : c < 256) (hv : -9223372036854775808 ≤ v ∧ v ≤ 9223372036854775807) (hs : TxG w) :
    Calls Tryd.prog 5 #[.int .u8 (c : Int), .int .i64 v] w fun e w' => e = .returned (.bool true) ∧ Below w.heap.size w w' := by
  have HX := Lib.hid hs
  have hz := zero16x
  have z0 := run_zero16t
  have HC := Lib.hid hc
  have HV := Lib.hid hv
  clear hc hv
  have hBw : Below w.heap.size w w := Below.refl _ _
  clear  hs 
  go_enter Tryd.func5, Tryd.ntmps5
  go_wp2_with fail
  refine (tawake _ (HX.out.keep hBw)).mono ?_
  rintro e x1 ⟨rfl, hq⟩
  have hBx1 := hBw.trans (hq.mono hBw.size)
  clear hq  hBw
  have HTC := Lib.hid (tc_tv c HC.out)
  have HRV := Lib.hid (tv_range c HC.out)
  go_wp2_with fail
  refine (tval c _ HC.out (HX.out.keep hBx1)).mono ?_
  rintro e x2 ⟨rfl, hq⟩
  have hBx2 := hBx1.trans (hq.mono hBx1.size)
  clear hq  hBx1
  have HRC := Lib.hid (fun V => rval c V HC.out)
  obtain ⟨z, hz9⟩ : ∃ z, tvI c = z := ⟨_, rfl⟩
  rw [hz9] at HTC HRV HRC
  rw [hz9]
  clear hz9
  go_wp2_with fail
  refine (tchar v _ HV.out (HX.out.keep hBx2)).mono ?_
  rintro e x3 ⟨rfl, hq⟩
  have hBx3 := hBx2.trans (hq.mono hBx2.size)
  clear hq  hBx2
  have hcase : (0 ≤ v ∧ v < 64) ∨ v < 0 ∨ 64 ≤ v := by omega
  rcases hcase with hA | hA | hA
  · have HDV := Lib.hid (show decide (0 ≤ v ∧ v < 64) = true from decide_eq_true hA)
    rw [HDV.out]
    have HXN := Lib.hid (show tchN v = tcF v.toNat by unfold tchN; rw [if_pos hA])
    have HXB := Lib.hid (show tchN v < 256 by rw [HXN.out]; have := tcF_lt v.toNat (by omega); omega)
    have HXV := Lib.hid (show tvI (tchN v) = v by rw [HXN.out, tv_tc v.toNat (by omega)]; omega)
    obtain ⟨x, hx9⟩ : ∃ x, tchN v = x := ⟨_, rfl⟩
    rw [hx9] at HXB HXV
    rw [hx9]
    clear hx9 HXN
    obtain ⟨i0, i1⟩ := hA
    by_cases h0 : 0 ≤ z
    · go_wp2_with fail
      refine (HRC.out _).mono ?_
      rintro e x4 ⟨rfl, hq⟩
      have hBx4 := hBx3.trans (hq.mono hBx3.size)
      clear hq  hBx3
      have HCH := Lib.hid (show tchN z = c by unfold tchN; rw [if_pos ⟨h0, HRV.out.2⟩]; exact HTC.out h0)
      have HZB := Lib.hid (show -9223372036854775808 ≤ z ∧ z ≤ 9223372036854775807 by have := HRV.out; omega)
      have HDZ := Lib.hid (show decide (0 ≤ z ∧ z < 64) = true from decide_eq_true ⟨h0, HRV.out.2⟩)
      go_wp2_with fail
      refine (tchar z _ HZB.out (HX.out.keep hBx4)).mono ?_
      rintro e x5 ⟨rfl, hq⟩
      rw [HCH.out, HDZ.out]
      have hBx5 := hBx4.trans (hq.mono hBx4.size)
      clear hq  hBx4
      go_wp2_with fail
      refine (tval x _ HXB.out (HX.out.keep hBx5)).mono ?_
      rintro e x6 ⟨rfl, hq⟩
      rw [HXV.out]
      have hBx6 := hBx5.trans (hq.mono hBx5.size)
      clear hq  hBx5
      go_wp2_with fail
      go_ret
      exact ⟨rfl, hBx6⟩
    · go_wp2_with fail
      refine (HRC.out _).mono ?_
      rintro e x7 ⟨rfl, hq⟩
      have hBx7 := hBx3.trans (hq.mono hBx3.size)
      clear hq  hBx3
      go_wp2_with fail
      refine (tval x _ HXB.out (HX.out.keep hBx7)).mono ?_
      rintro e x8 ⟨rfl, hq⟩
      rw [HXV.out]
      have hBx8 := hBx7.trans (hq.mono hBx7.size)
      clear hq  hBx7
      go_wp2_with fail
      go_ret
      exact ⟨rfl, hBx8⟩
  · have HDV := Lib.hid (show decide (0 ≤ v ∧ v < 64) = false from decide_eq_false (by omega))
    rw [HDV.out]
    have HXN := Lib.hid (show tchN v = 0 by unfold tchN; rw [if_neg (by omega)])
    rw [HXN.out]
    have i0 : ¬ 0 ≤ v := by omega
    clear hA
    by_cases h0 : 0 ≤ z
    · go_wp2_with fail
      refine (HRC.out _).mono ?_
      rintro e x9 ⟨rfl, hq⟩
      have hBx9 := hBx3.trans (hq.mono hBx3.size)
      clear hq  hBx3
      have HCH := Lib.hid (show tchN z = c by unfold tchN; rw [if_pos ⟨h0, HRV.out.2⟩]; exact HTC.out h0)
      have HZB := Lib.hid (show -9223372036854775808 ≤ z ∧ z ≤ 9223372036854775807 by have := HRV.out; omega)
      have HDZ := Lib.hid (show decide (0 ≤ z ∧ z < 64) = true from decide_eq_true ⟨h0, HRV.out.2⟩)
      go_wp2_with fail
      refine (tchar z _ HZB.out (HX.out.keep hBx9)).mono ?_
      rintro e x10 ⟨rfl, hq⟩
      rw [HCH.out, HDZ.out]
      have hBx10 := hBx9.trans (hq.mono hBx9.size)
      clear hq  hBx9
      go_wp2_with fail
      go_ret
      exact ⟨rfl, hBx10⟩
    · go_wp2_with fail
      refine (HRC.out _).mono ?_
      rintro e x11 ⟨rfl, hq⟩
      have hBx11 := hBx3.trans (hq.mono hBx3.size)
      clear hq  hBx3
      go_wp2_with fail
      go_ret
      exact ⟨rfl, hBx11⟩
  · have HDV := Lib.hid (show decide (0 ≤ v ∧ v < 64) = false from decide_eq_false (by omega))
    rw [HDV.out]
    have HXN := Lib.hid (show tchN v = 0 by unfold tchN; rw [if_neg (by omega)])
    rw [HXN.out]
    have i0 : 0 ≤ v := by omega
    have i1 : ¬ v < 64 := by omega
    clear hA
    by_cases h0 : 0 ≤ z
    · go_wp2_with fail
      refine (HRC.out _).mono ?_
      rintro e x12 ⟨rfl, hq⟩
      have hBx12 := hBx3.trans (hq.mono hBx3.size)
      clear hq  hBx3
      have HCH := Lib.hid (show tchN z = c by unfold tchN; rw [if_pos ⟨h0, HRV.out.2⟩]; exact HTC.out h0)
      have HZB := Lib.hid (show -9223372036854775808 ≤ z ∧ z ≤ 9223372036854775807 by have := HRV.out; omega)
      have HDZ := Lib.hid (show decide (0 ≤ z ∧ z < 64) = true from decide_eq_true ⟨h0, HRV.out.2⟩)
      go_wp2_with fail
      refine (tchar z _ HZB.out (HX.out.keep hBx12)).mono ?_
      rintro e x13 ⟨rfl, hq⟩
      rw [HCH.out, HDZ.out]
      have hBx13 := hBx12.trans (hq.mono hBx12.size)
      clear hq  hBx12
      go_wp2_with fail
      go_ret
      exact ⟨rfl, hBx13⟩
    · go_wp2_with fail
      refine (HRC.out _).mono ?_
      rintro e x14 ⟨rfl, hq⟩
      have hBx14 := hBx3.trans (hq.mono hBx3.size)
      clear hq  hBx3
      go_wp2_with fail
      go_ret
      exact ⟨rfl, hBx14⟩
end Go.Proofs.YtfmlllckfpagkaaDoor
