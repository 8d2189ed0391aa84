/-
  The check of the documentation's examples of layer 6 returns true. No condition but what the table holds; what was there stays as it was.
-/
import Derived.Test.YtghcpfcomhfppaaDoorCgb
import Derived.Test.YtghcpfcomhfppaaDoorCga
import Derived.Test.YtghcpfcomhfppaaDoorFre
import Derived.Test.YtghcpfcomhfppaaDoorEqs
import Derived.Test.YtghcpfcomhfppaaDoorArg
namespace Go.Proofs.YtghcpfcomhfppaaDoor
open Go.RowKit
set_option linter.unusedVariables false
set_option maxRecDepth 100000

theorem run_mix1 (w : World) : (Instr.build 22 #[(0, .int .u8 2), (1, .int .u8 1), (2, .int .u8 1), (3, .int .u8 3)]).run Tryd.prog w = .ok (.agg (arL 16 (lst [2, 1, 1, 3])).toArray) w := run_build w _ _ _ (by kernel_rfl)
theorem run_sh5 (w : World) : (Instr.build 22 #[(5, .int .u8 7)]).run Tryd.prog w = .ok (.agg (arL 16 (lst [0, 0, 0, 0, 0, 7])).toArray) w := run_build w _ _ _ (by kernel_rfl)
theorem run_sh1 (w : World) : (Instr.build 22 #[(1, .int .u8 7)]).run Tryd.prog w = .ok (.agg (arL 16 (lst [0, 7])).toArray) w := run_build w _ _ _ (by kernel_rfl)
theorem run_one (w : World) : (Instr.build 22 #[(0, .int .u8 1)]).run Tryd.prog w = .ok (.agg (arL 16 (lst [1])).toArray) w := run_build w _ _ _ (by kernel_rfl)
theorem mix_one : arL 16 (miF (lst [1])) = arL 16 (lst [2, 1, 1, 3]) := arL_ext (by decide +kernel)
theorem shift_five : arL 16 (shF (lst [0, 0, 0, 0, 0, 7])) = arL 16 (lst [0, 7]) := arL_ext (by decide +kernel)
theorem lst_one_lt : B16 (lst [1]) := by unfold B16; decide +kernel
theorem zF_lt : B16 zF := fun _ _ => by unfold zF; omega

set_option maxHeartbeats 4000000 in
theorem cawake (w : World) (h : Boxes w) : Calls Tryd.prog 8 #[] w fun e w' => e = .returned (.bool true) ∧ Below w.heap.size w w' := by
  have z0 := Lib.hid run_zero16
  have hz16 := zero16b
  have HX := Lib.hid h
  have hen := Lib.hid (cencrypt zF zF w zF_lt zF_lt h)
  have hel := Lib.hid (enR_lt zF_lt zF_lt 10)
  have hfst := enz_first
  have hde := Lib.hid (show arL 16 (deF zF (enF zF zF)) = arL 16 (fun _ => 0) from arL_ext (de_en zF_lt zF_lt 10))
  clear h
  go_enter Tryd.func8, Tryd.ntmps8
  go_wp2_with (refine wpList_build_by rfl _ _ rfl [] rfl _ (z0.out _) ?_)
  refine hen.out.mono ?_
  rintro e w1 ⟨rfl, k1⟩
  clear hen
  obtain ⟨F, hF⟩ : ∃ F : Nat → Nat, enF zF zF = F := ⟨_, rfl⟩
  have hFl := Lib.hid (show B16 F by rw [← hF]; exact hel.out)
  rw [hF] at hde hfst
  rw [hF]
  obtain ⟨f0, f1, f2⟩ := hfst
  clear hF hel
  obtain ⟨g1, hg1⟩ : ∃ g1 : Nat, w1.heap.size = g1 := ⟨_, rfl⟩
  have hL1 : Ar (w1.alloc (.cells (arL 16 fun _ => 0).toArray 22)) g1 16 (fun _ => 0) := by rw [← hg1]; exact Ar.new w1 16 _ _
  have hb1 : Below w.heap.size w (w1.alloc (.cells (arL 16 fun _ => 0).toArray 22)) := k1.alloc k1.size _
  have hl1 : w.heap.size ≤ g1 := by have := k1.size; omega
  go_upto_region 2 with (refine wpList_store_ar rfl _ _ _ rfl _ _ _ F rfl rfl hL1 (size16b _) ?_; intro w2 hL2 hb2 hs2 _)
  have hB2 := hb1.trans (hb2.mono (by omega))
  clear hL1 hb1 hb2 hs2 k1 hg1
  try dsimp only [Act.put]
  have c0 := (hL2 0 (by omega)).1
  have c1 := (hL2 1 (by omega)).1
  have c2 := (hL2 2 (by omega)).1
  rw [f0] at c0
  rw [f1] at c1
  rw [f2] at c2
  clear f0 f1 f2
  have heq := eq16_true (f := fun _ => 0) (g := fun _ => 0) (fun _ _ => rfl)
  have hem := eq16_true (f := lst [2, 1, 1, 3]) (g := lst [2, 1, 1, 3]) (fun _ _ => rfl)
  have hes := eq16_true (f := lst [0, 7]) (g := lst [0, 7]) (fun _ _ => rfl)
  have hgd := Tryd.eqg16
  have m1 := Lib.hid run_one
  have m2 := Lib.hid run_mix1
  have m3 := Lib.hid run_sh5
  have m4 := Lib.hid run_sh1
  go_wp2_with (first
    | (refine wpList_load_ar0W rfl _ _ rfl _ _ _ rfl hL2 Tryd.arr16b (size16b _) ?_)
    | (refine wpList_build_byW rfl _ _ rfl [] rfl _ (z0.out _) ?_))
  refine (cdecrypt zF F _ zF_lt hFl.out (HX.out.keep hB2)).mono ?_
  rintro e w3 ⟨rfl, k3⟩
  rw [hde.out]
  have hB3 := hB2.trans (k3.mono hB2.size)
  clear hL2 hB2 k3 c0 c1 c2
  go_wp2_with (first
    | (refine wpList_build_byW rfl _ _ rfl [] rfl _ (z0.out _) ?_)
    | (refine wpList_build_byW rfl _ _ rfl [(0, .int .u8 1)] rfl _ (m1.out _) ?_))
  refine (cmix (lst [1]) _ lst_one_lt).mono ?_
  rintro e w4 ⟨rfl, k4⟩
  rw [mix_one]
  have hB4 := hB3.trans (k4.mono hB3.size)
  clear hB3 k4
  go_wp2_with (first
    | (refine wpList_build_byW rfl _ _ rfl [(0, .int .u8 2), (1, .int .u8 1), (2, .int .u8 1), (3, .int .u8 3)] rfl _ (m2.out _) ?_)
    | (refine wpList_build_byW rfl _ _ rfl [(5, .int .u8 7)] rfl _ (m3.out _) ?_))
  refine (cshift (lst [0, 0, 0, 0, 0, 7]) _).mono ?_
  rintro e w5 ⟨rfl, k5⟩
  rw [shift_five]
  have hB5 := hB4.trans (k5.mono hB4.size)
  clear hB4 k5
  go_wp2_with (refine wpList_build_byW rfl _ _ rfl [(1, .int .u8 7)] rfl _ (m4.out _) ?_)
  go_ret
  exact ⟨rfl, hB5⟩
end Go.Proofs.YtghcpfcomhfppaaDoor
