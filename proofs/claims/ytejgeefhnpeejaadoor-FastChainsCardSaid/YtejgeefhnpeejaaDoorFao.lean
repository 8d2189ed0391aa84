/-
  The check of the documentation's examples of layer 7 returns true. No condition but what the table holds; what was there stays as it was.
-/
import Derived.Test.YtejgeefhnpeejaaDoorFal
import Derived.Test.YtejgeefhnpeejaaDoorFam
import Derived.Test.YtejgeefhnpeejaaDoorFan
import Derived.Test.YtejgeefhnpeejaaDoorFre
import Derived.Test.YtejgeefhnpeejaaDoorEqs
import Derived.Test.YtejgeefhnpeejaaDoorArg
import Derived.Test.YtejgeefhnpeejaaDoorCaw
import Derived.Deep.RegionHeld3
namespace Go.Proofs.YtejgeefhnpeejaaDoor
open Go.RowKit
set_option linter.unusedVariables false
set_option maxRecDepth 100000

set_option maxHeartbeats 4000000 in
theorem fawake  (w : World)  (hs : Boxes w) :
    Calls Tryd.prog 8 #[] w fun e w' => e = .returned (.bool true) ∧ Below w.heap.size w w' := by
  have HX := Lib.hid hs
  have hz := zero16b
  have z0 := Lib.hid run_zero16
  have m1 := Lib.hid run_one
  have hel := Lib.hid (enR_lt zF_lt zF_lt 10)
  have hde := Lib.hid (show arL 16 (deF zF (enF zF zF)) = arL 16 (fun _ => 0) from arL_ext (de_en zF_lt zF_lt 10))
  have hfst := Lib.hid enz_first
  have hBw : Below w.heap.size w w := Below.refl _ _
  clear  hs 
  go_enter Tryd.func8, Tryd.ntmps8
  go_wp2_with (refine wpList_build_by rfl _ _ rfl [] rfl _ (z0.out _) ?_)
  refine (fnew zF _ zF_lt (HX.out.keep hBw)).mono ?_
  rintro e x1 ⟨gC, rfl, hgC, hCx1, hq⟩
  have hBx1 := hBw.trans (hq.mono hBw.size)
  clear hq  hBw
  obtain ⟨F, hF⟩ : ∃ F : Nat → Nat, enF zF zF = F := ⟨_, rfl⟩
  have hFl := Lib.hid (show B16 F by rw [← hF]; exact hel.out)
  go_wp2_with (refine wpList_build_by rfl _ _ rfl [] rfl _ (z0.out _) ?_)
  refine (fencrypt _ zF zF _ zF_lt zF_lt (exp_made gC zF _ hCx1) (HX.out.keep hBx1)).mono ?_
  rintro e x2 ⟨rfl, hq⟩
  have hCx2 := (hCx1).to hq
  have hBx2 := hBx1.trans (hq.mono hBx1.size)
  clear hq hCx1 hBx1
  rw [hF] at hde hfst
  rw [hF]
  obtain ⟨f0, f1, f2⟩ := hfst.out
  clear hF hel hfst
  obtain ⟨gb, hgb⟩ : ∃ g : Nat, x2.heap.size = g := ⟨_, rfl⟩
  have hlgCgb : gC < gb := by rw [← hgb]; exact hCx2.lt
  have hlwgb : w.heap.size ≤ gb := by rw [← hgb]; exact hBx2.size
  have hq : Below x2.heap.size x2 (x2.alloc (.cells (arL 16 fun _ => 0).toArray 22)) := (Below.refl _ _).alloc (Nat.le_refl _) _
  have hCx3a := (hCx2).to hq
  have hbx3a := Ar.new x2 16 (fun _ => 0) 22
  have hBx3a := hBx2.alloc hBx2.size (.cells (arL 16 fun _ => 0).toArray 22)
  rw [hgb] at hbx3a
  clear hq hCx2 hBx2
  go_upto_region 5 with (first | (refine wpList_store_ar rfl _ _ _ rfl _ _ _ (F) rfl rfl hbx3a (size16b _) ?_; intro x3 hbx3 belx3 sizx3 keex3) | fail)
  have hCx3 := (hCx3a).keep hlgCgb belx3
  have hBx3 := hBx3a.trans (belx3.mono hlwgb)
  clear hCx3a hbx3a hBx3a belx3 sizx3 keex3 hgb
  try dsimp only [Act.put]
  have c0 := (hbx3 0 (by omega)).1
  have c1 := (hbx3 1 (by omega)).1
  have c2 := (hbx3 2 (by omega)).1
  rw [f0] at c0
  rw [f1] at c1
  rw [f2] at c2
  clear f0 f1 f2
  have heq := eq16_true (f := fun _ => 0) (g := fun _ => 0) (fun _ _ => rfl)
  have heq2 := eq16_true (f := lst [1]) (g := lst [1]) (fun _ _ => rfl)
  have hgd := Tryd.eqg16
  go_wp2_with (first | (refine wpList_load_ar0W rfl _ _ rfl _ _ _ rfl hbx3 Tryd.arr16b (size16b _) ?_) | (refine wpList_build_byW rfl _ _ rfl [] rfl _ (z0.out _) ?_))
  refine (fdecrypt _ zF F _ zF_lt hFl.out (exp_made gC zF _ hCx3) (HX.out.keep hBx3)).mono ?_
  rintro e x4 ⟨rfl, hq⟩
  have hCx4 := (hCx3).to hq
  have hbx4 := (hbx3).to (by omega) hq
  have hBx4 := hBx3.trans (hq.mono hBx3.size)
  clear hq hCx3 hbx3 hBx3
  rw [hde.out]
  clear c0 c1 c2
  go_wp2_with (first | (refine wpList_build_byW rfl _ _ rfl [] rfl _ (z0.out _) ?_) | (refine wpList_build_byW rfl _ _ rfl [(0, .int .u8 1)] rfl _ (m1.out _) ?_))
  refine (fnew (lst [1]) _ lst_one_lt (HX.out.keep hBx4)).mono ?_
  rintro e x5 ⟨gD, rfl, hgD, hDx5, hq⟩
  have hCx5 := (hCx4).to hq
  have hbx5 := (hbx4).to (by omega) hq
  have hBx5 := hBx4.trans (hq.mono hBx4.size)
  clear hq hCx4 hbx4 hBx4
  go_wp2_with (first | (refine wpList_build_byW rfl _ _ rfl [] rfl _ (z0.out _) ?_) | (refine wpList_build_byW rfl _ _ rfl [(0, .int .u8 1)] rfl _ (m1.out _) ?_))
  refine (fkey gD (lst [1]) _ true _ hDx5).mono ?_
  rintro e x6 ⟨rfl, hq⟩
  have hCx6 := (hCx5).to hq
  have hbx6 := (hbx5).to (by omega) hq
  have hDx6 := (hDx5).to hq
  have hBx6 := hBx5.trans (hq.mono hBx5.size)
  clear hq hCx5 hbx5 hDx5 hBx5
  go_wp2_with (first | (refine wpList_build_byW rfl _ _ rfl [] rfl _ (z0.out _) ?_) | (refine wpList_build_byW rfl _ _ rfl [(0, .int .u8 1)] rfl _ (m1.out _) ?_))
  go_ret
  exact ⟨rfl, hBx6⟩
end Go.Proofs.YtejgeefhnpeejaaDoor
