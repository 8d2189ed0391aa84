/-
  The check of the documentation's examples of layer 14 returns true. No condition but what the variables hold; what was there stays as it was.
-/
import Derived.Test.YtfmlllckfpagkaaDoorTxk
import Derived.Test.YtfmlllckfpagkaaDoorArg
import Derived.Deep.RegionHeld3
namespace Go.Proofs.YtfmlllckfpagkaaDoor
open Go.RowKit
set_option linter.unusedVariables false
set_option maxRecDepth 100000
set_option linter.unusedSimpArgs false

set_option maxHeartbeats 4000000 in
theorem tawake  (w : World)  (hs : TxG w) :
    Calls Tryd.prog 7 #[] w fun e w' => e = .returned (.bool true) ∧ Below w.heap.size w w' := by
  have HX := Lib.hid hs
  have hz := zero16x
  have z0 := run_zero16t
  have hBw : Below w.heap.size w w := Below.refl _ _
  clear  hs 
  go_enter Tryd.func7, Tryd.ntmps7
  go_wp2_with (refine wpList_build_by rfl _ _ rfl [] rfl _ (z0 _) ?_)
  refine (tprint (fun _ => 0) _ zF16t (HX.out.keep hBw)).mono ?_
  rintro e x1 ⟨rfl, hq⟩
  have hBx1 := hBw.trans (hq.mono hBw.size)
  clear hq  hBw
  rw [lit0]
  go_wp2_with fail
  refine (tparse_at _ li1 lit1 _ (by decide) (HX.out.keep hBx1)).mono ?_
  rintro e x2 ⟨rfl, hq⟩
  rw [pc1]
  rw [show fauV (0, 0) = .nilIface from rfl]
  have hBx2 := hBx1.trans (hq.mono hBx1.size)
  clear hq  hBx1
  obtain ⟨K, hK9⟩ : ∃ K, paK li1 = K := ⟨_, rfl⟩
  have heq := eq16t_true (show ∀ j, j < 16 → K j = e16t j by rw [← hK9]; exact pk1)
  have HEQ := Lib.hid heq
  rw [hK9]
  clear heq hK9
  obtain ⟨gk, hgk⟩ : ∃ g : Nat, x2.heap.size = g := ⟨_, rfl⟩
  have hlwgk : w.heap.size ≤ gk := by rw [← hgk]; exact hBx2.size
  have hq : Below x2.heap.size x2 (x2.alloc (.cells (arL 16 fun _ => 0).toArray 22)) := (Below.refl _ _).alloc (Nat.le_refl _) _
  have hkx3a := Ar.new x2 16 (fun _ => 0) 22
  have hBx3a := hBx2.alloc hBx2.size (.cells (arL 16 fun _ => 0).toArray 22)
  rw [hgk] at hkx3a
  clear hq  hBx2
  go_upto_region 3 with (first | (refine wpList_store_ar rfl _ _ _ rfl _ _ _ (K) rfl rfl hkx3a (size16x _) ?_; intro x3 hkx3 belx3 sizx3 keex3) | fail)
  have hBx3 := hBx3a.trans (belx3.mono hlwgk)
  clear  hkx3a hBx3a belx3 sizx3 keex3 hgk
  try dsimp only [Act.put]
  go_wp2_with fail
  refine (tparse_at _ [65] lit2 _ (by decide) (HX.out.keep hBx3)).mono ?_
  rintro e x4 ⟨rfl, hq⟩
  rw [pc2]
  rw [show fauV (4, 1) = .iface 56 (.agg #[.int .i64 4, .int .i64 1]) from rfl]
  have hkx4 := (hkx3).to (by omega) hq
  have hBx4 := hBx3.trans (hq.mono hBx3.size)
  clear hq hkx3 hBx3
  obtain ⟨K2, hK9⟩ : ∃ K, paK [65] = K := ⟨_, rfl⟩
  rw [hK9]
  clear hK9
  obtain ⟨gb, hgb⟩ : ∃ g : Nat, x4.heap.size = g := ⟨_, rfl⟩
  have hlgkgb : gk < gb := by rw [← hgb]; exact hkx4.lt (by omega)
  have hlwgb : w.heap.size ≤ gb := by rw [← hgb]; exact hBx4.size
  have hq : Below x4.heap.size x4 (x4.alloc (.cells (arL 16 fun _ => 0).toArray 22)) := (Below.refl _ _).alloc (Nat.le_refl _) _
  have hkx5a := (hkx4).to (by omega) hq
  have hbx5a := Ar.new x4 16 (fun _ => 0) 22
  have hBx5a := hBx4.alloc hBx4.size (.cells (arL 16 fun _ => 0).toArray 22)
  rw [hgb] at hbx5a
  clear hq hkx4 hBx4
  go_upto_region 4 with (first | (refine wpList_store_ar rfl _ _ _ rfl _ _ _ (K2) rfl rfl hbx5a (size16x _) ?_; intro x5 hbx5 belx5 sizx5 keex5) | fail)
  have hkx5 := (hkx5a).keep hlgkgb belx5
  have hBx5 := hBx5a.trans (belx5.mono hlwgb)
  clear hkx5a hbx5a hBx5a belx5 sizx5 keex5 hgb
  try dsimp only [Act.put]
  go_wp2_with fail
  refine (tchar 63 _ (by omega) (HX.out.keep hBx5)).mono ?_
  rintro e x6 ⟨rfl, hq⟩
  rw [tch63, show decide ((0 : Int) ≤ 63 ∧ (63 : Int) < 64) = true from rfl]
  have hkx6 := (hkx5).to (by omega) hq
  have hbx6 := (hbx5).to (by omega) hq
  have hBx6 := hBx5.trans (hq.mono hBx5.size)
  clear hq hkx5 hbx5 hBx5
  have hst := fun w => eqs_true (a := ⟨#[65, 65, 65, 65, 65, 65, 65, 65, 65, 65, 65, 65, 65, 65, 65, 65, 65, 65, 65, 65, 65, 65]⟩) rfl w
  have heq := HEQ.out
  have hgd := Tryd.eqg16t
  have e9 := run_e16t
  go_wp2_with (first | (refine wpList_load_ar0W rfl _ _ rfl _ _ _ rfl hkx6 Tryd.arr16x (size16x _) ?_) | (refine wpList_build_byW rfl _ _ rfl [(0, .int .u8 1)] rfl _ (e9 _) ?_))
  refine (told_is 4 1 _ (by decide) (HX.out.keep hBx6).err).mono ?_
  rintro e x7 ⟨rfl, hq⟩
  have hkx7 := (hkx6).to (by omega) hq
  have hbx7 := (hbx6).to (by omega) hq
  have hBx7 := hBx6.trans (hq.mono hBx6.size)
  clear hq hkx6 hbx6 hBx6
  clear heq hst e9 hgd
  go_wp2_with fail
  refine (tval 43 _ (by omega) (HX.out.keep hBx7)).mono ?_
  rintro e x8 ⟨rfl, hq⟩
  rw [tv43]
  have hkx8 := (hkx7).to (by omega) hq
  have hbx8 := (hbx7).to (by omega) hq
  have hBx8 := hBx7.trans (hq.mono hBx7.size)
  clear hq hkx7 hbx7 hBx7
  go_wp2_with fail
  refine (tval 61 _ (by omega) (HX.out.keep hBx8)).mono ?_
  rintro e x9 ⟨rfl, hq⟩
  rw [tv61]
  have hkx9 := (hkx8).to (by omega) hq
  have hbx9 := (hbx8).to (by omega) hq
  have hBx9 := hBx8.trans (hq.mono hBx8.size)
  clear hq hkx8 hbx8 hBx8
  go_wp2_with fail
  go_ret
  exact ⟨rfl, hBx9⟩
end Go.Proofs.YtfmlllckfpagkaaDoor
