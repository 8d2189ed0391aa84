/-
  The check of the documentation's examples of layer 8 returns true; what was there stays as it was. No condition.
-/
import Derived.Test.YtejgeefhnpeejaaBkq
import Derived.Test.YtejgeefhnpeejaaBkh
import Derived.Test.YtejgeefhnpeejaaBka
import Derived.Test.YtejgeefhnpeejaaBkb
import Derived.Test.YtejgeefhnpeejaaBkc
import Derived.Test.YtejgeefhnpeejaaBitr
namespace Go.Proofs.Ytejgeefhnpeejaa
open Go.RowKit
set_option linter.unusedVariables false
set_option maxRecDepth 100000

set_option maxHeartbeats 4000000 in
theorem bawake  (w : World)  :
    Calls Try.prog 8 #[] w fun e w' => e = .returned (.bool true) ∧ Below w.heap.size w w' := by
  have hz := zero16x
  have m0 := Lib.hid run_bx0
  have m128 := Lib.hid run_bx128
  have m2 := Lib.hid run_bx2
  have m7 := Lib.hid run_bx7
  have m135 := Lib.hid run_bx135
  have n1 := Lib.hid run_by1
  have heq := fun X => eqx_true (f := X) (g := X) (fun _ _ => rfl)
  have hgd := Try.eqgx
  have hpd := Lib.hid aw_pad
  have hdb := Lib.hid aw_db
  have hhv := Lib.hid aw_hv
  have hsh := Lib.hid aw_sh
  obtain ⟨Z33, hZ33⟩ : ∃ Z : Array Value, (arL 33 fun _ => 0).toArray = Z := ⟨_, rfl⟩
  have hm33 : ∀ V : World, (Instr.makeSlice 30 (.int .i64 33) (.int .i64 33)).run Try.prog V = .ok (.slice (some ⟨V.heap.size, 0, none⟩) 33 33) (V.alloc (.cells Z33 5)) := by rw [← hZ33]; exact make8 33 (by omega)
  have hm16 : ∀ V : World, (Instr.makeSlice 30 (.int .i64 16) (.int .i64 16)).run Try.prog V = .ok (.slice (some ⟨V.heap.size, 0, none⟩) 16 16) (V.alloc (.cells (arL 16 fun _ => 0).toArray 5)) := make8 16 (by omega)
  obtain ⟨w1, hw1⟩ : ∃ V : World, V = w.alloc (.cells Z33 5) := ⟨_, rfl⟩
  have hb1 : Below w.heap.size w w1 := by rw [hw1]; exact (Below.refl _ _).alloc (Nat.le_refl _) _
  have hS1 : Sl w1 w1.heap.size (some ⟨w.heap.size, 0, none⟩) 33 (liB 33 fun _ => 0) := by
    have hA : Ar w1 w.heap.size 33 (fun _ => 0) := by rw [hw1, ← hZ33]; exact Ar.new w 33 _ _
    exact Sl.of_fun (fun j _ => by show 0 < 256; omega) (fun j hj => by rw [Nat.zero_add]; exact (hA j hj).1) (hA.lt (by omega))
  have hsp := Lib.hid (bsplit (some ⟨w.heap.size, 0, none⟩) 33 33 (liB 33 fun _ => 0) w1 hS1 (by omega) (by omega))
  clear hS1 hZ33
  go_enter Try.func8, Try.ntmps8
  go_wp2_with fail
  rw [← hw1]
  clear hw1 hm33
  refine hsp.out.mono ?_
  clear hsp
  rintro e w2 ⟨A1, c1, g1, rfl, _, _, _, _, hq⟩
  have hBw2 := hb1.trans (hq.mono hb1.size)
  clear hq hb1
  simp only [Nat.reduceDiv, Nat.reduceMul, Nat.reduceSub]
  go_wp2_with fail
  refine (bpad _ 1 1 [UInt8.ofNat 7] _ (sl_one (w := w2) (x := 7) rfl (by omega)) (by omega)).mono ?_
  rintro e w3 ⟨rfl, hq⟩
  have hBw3 := (hBw2.alloc hBw2.size (.cells #[.int .u8 7] 5)).trans (hq.mono (hBw2.alloc hBw2.size (.cells #[.int .u8 7] 5)).size)
  clear hq hBw2
  rw [arL_ext hpd.out]
  clear hpd
  obtain ⟨gp, hgp⟩ : ∃ g : Nat, w3.heap.size = g := ⟨_, rfl⟩
  have hlwgp : w.heap.size ≤ gp := by rw [← hgp]; exact hBw3.size
  have hq : Below w3.heap.size w3 (w3.alloc (.cells (arL 16 fun _ => 0).toArray 22)) := (Below.refl _ _).alloc (Nat.le_refl _) _
  have hpx1a := Ar.new w3 16 (fun _ => 0) 22
  have hBx1a := hBw3.alloc hBw3.size (.cells (arL 16 fun _ => 0).toArray 22)
  rw [hgp] at hpx1a
  clear hq  hBw3
  go_upto_region 3 with (first | (refine wpList_store_ar rfl _ _ _ rfl _ _ _ (lst [7, 128]) rfl rfl hpx1a (size16x _) ?_; intro x1 hpx1 belx1 sizx1 keex1) | fail)
  have hBx1 := hBx1a.trans (belx1.mono hlwgp)
  clear  hpx1a hBx1a belx1 sizx1 keex1 hgp
  try dsimp only [Act.put]
  go_wp2_with fail
  refine (bpad_no _ 16 16 _ (by omega)).mono ?_
  rintro e x2 ⟨rfl, hq⟩
  have hpx2 := (hpx1.alloc (by omega) (.cells (arL 16 fun _ => 0).toArray 5)).to (by omega) hq
  have hBx2 := (hBx1.alloc hBx1.size (.cells (arL 16 fun _ => 0).toArray 5)).trans (hq.mono (hBx1.alloc hBx1.size (.cells (arL 16 fun _ => 0).toArray 5)).size)
  clear hq hBx1 hpx1 hm16
  obtain ⟨gz, hgz⟩ : ∃ g : Nat, x2.heap.size = g := ⟨_, rfl⟩
  have hlgpgz : gp < gz := by rw [← hgz]; exact hpx2.lt (by omega)
  have hlwgz : w.heap.size ≤ gz := by rw [← hgz]; exact hBx2.size
  have hq : Below x2.heap.size x2 (x2.alloc (.cells (arL 16 fun _ => 0).toArray 22)) := (Below.refl _ _).alloc (Nat.le_refl _) _
  have hpx3a := (hpx2).to (by omega) hq
  have hzx3a := Ar.new x2 16 (fun _ => 0) 22
  have hBx3a := hBx2.alloc hBx2.size (.cells (arL 16 fun _ => 0).toArray 22)
  rw [hgz] at hzx3a
  clear hq hpx2 hBx2
  go_upto_region 4 with (first | (refine wpList_store_ar rfl _ _ _ rfl _ _ _ (fun _ => 0) rfl rfl hzx3a (size16x _) ?_; intro x3 hzx3 belx3 sizx3 keex3) | fail)
  have hpx3 := (hpx3a).keep hlgpgz belx3
  have hBx3 := hBx3a.trans (belx3.mono hlwgz)
  clear hpx3a hzx3a hBx3a belx3 sizx3 keex3 hgz
  try dsimp only [Act.put]
  go_wp2_with (refine wpList_load_ar rfl _ _ rfl _ _ _ rfl hpx3 Try.arr16x (size16x _) ?_)
  refine (bunpad (lst [7, 128]) _ (fun j _ => lst_lt _ (by decide) j)).mono ?_
  rintro e x4 hU
  obtain ⟨gU, rfl, hUx4, hgU, hlU, hq⟩ := unp_pad hU (n := 1) (by omega) rfl lst_tail
  clear hU
  have hpx4 := (hpx3).to (by omega) hq
  have hzx4 := (hzx3).to (by omega) hq
  have hBx4 := hBx3.trans (hq.mono hBx3.size)
  clear hq hpx3 hzx3 hBx3
  clear hzx4
  go_wp2_with (first | (refine wpList_build_by rfl _ _ rfl [(0, .int .u8 128)] rfl _ (m128.out _) ?_) | (refine wpList_build_byW rfl _ _ rfl [(0, .int .u8 128)] rfl _ (m128.out _) ?_) | (refine wpList_build_byW rfl _ _ rfl [(15, .int .u8 135)] rfl _ (m135.out _) ?_) | (refine wpList_build_by rfl _ _ rfl [(15, .int .u8 135)] rfl _ (m135.out _) ?_))
  refine (bdouble (lst [128]) _ (fun j _ => lst_lt _ (by decide) j)).mono ?_
  rintro e x5 ⟨rfl, hq⟩
  rw [arL_ext hdb.out]
  have hpx5 := (hpx4).to (by omega) hq
  have hUx5 := (hUx4).to (by omega) hq
  have hBx5 := hBx4.trans (hq.mono hBx4.size)
  clear hq hpx4 hUx4 hBx4
  go_wp2_with (first | (refine wpList_build_by rfl _ _ rfl [(0, .int .u8 128)] rfl _ (m128.out _) ?_) | (refine wpList_build_byW rfl _ _ rfl [(0, .int .u8 128)] rfl _ (m128.out _) ?_) | (refine wpList_build_byW rfl _ _ rfl [(15, .int .u8 135)] rfl _ (m135.out _) ?_) | (refine wpList_build_by rfl _ _ rfl [(15, .int .u8 135)] rfl _ (m135.out _) ?_))
  refine (bhalve (lst [0, 0, 0, 0, 0, 0, 0, 0, 0, 0, 0, 0, 0, 0, 0, 135]) _ (fun j _ => lst_lt _ (by decide) j)).mono ?_
  rintro e x6 ⟨rfl, hq⟩
  rw [arL_ext hhv.out]
  have hpx6 := (hpx5).to (by omega) hq
  have hUx6 := (hUx5).to (by omega) hq
  have hBx6 := hBx5.trans (hq.mono hBx5.size)
  clear hq hpx5 hUx5 hBx5
  have hcu : Sl x6 x6.heap.size (some ⟨gU, 0, none⟩) 1 [UInt8.ofNat 7] := Sl.of_ar (hUx6.ext (fun j hj => by obtain rfl : j = 0 := (by omega); exact lst_seven)) rfl (hUx6.lt (by omega))
  go_wp2_with (first | (refine wpList_load_ar0W rfl _ _ rfl _ _ _ rfl hpx6 Try.arr16x (size16x _) ?_) | (refine wpList_build_byW rfl _ _ rfl [(0, .int .u8 7), (1, .int .u8 128)] rfl _ (m7.out _) ?_) | (refine wpList_build_byW rfl _ _ rfl [(0, .int .u8 128)] rfl _ (m128.out _) ?_))
  refine (same (some ⟨gU, 0, none⟩) (some ⟨x6.heap.size, 0, none⟩) 1 1 1 1 [UInt8.ofNat 7] [UInt8.ofNat 7] _ ((hcu.alloc (Nat.le_refl _) (.cells #[.int .u8 7] 5)).more (by simp)) (sl_one (w := x6) (x := 7) rfl (by omega)) (by omega) (by omega)).mono ?_
  rintro e x7 ⟨rfl, hD⟩
  rw [show decide ([UInt8.ofNat 7] = [UInt8.ofNat 7]) = true from decide_eq_true rfl]
  have hBx7 := (hBx6.alloc hBx6.size (.cells #[.int .u8 7] 5)).trans (hD.below _)
  clear hD hBx6 hpx6 hUx6 hcu hgU hlU
  go_wp2_with (first | (refine wpList_build_byW rfl _ _ rfl [(0, .int .u8 1)] rfl _ (n1.out _) ?_) | (refine wpList_build_byW rfl _ _ rfl [(0, .int .u8 2)] rfl _ (m2.out _) ?_))
  refine (bshift (lst [1]) 1 _ (fun j _ => lst_lt _ (by decide) j)).mono ?_
  rintro e x8 ⟨rfl, hq⟩
  rw [arL_ext hsh.out]
  have hBx8 := hBx7.trans (hq.mono hBx7.size)
  clear hq  hBx7
  go_wp2_with (refine wpList_build_byW rfl _ _ rfl [(0, .int .u8 2)] rfl _ (m2.out _) ?_)
  refine (ball none 0 0 [] _ Sl.nil_ (by omega)).mono ?_
  rintro e x9 ⟨g9, b9, rfl, _, _, _, _, _, hq⟩
  have hBx9 := hBx8.trans (hq.mono hBx8.size)
  clear hq  hBx8
  have hnf := run_nf
  go_wp2_with fail
  go_ret
  exact ⟨rfl, hBx9⟩
end Go.Proofs.Ytejgeefhnpeejaa
