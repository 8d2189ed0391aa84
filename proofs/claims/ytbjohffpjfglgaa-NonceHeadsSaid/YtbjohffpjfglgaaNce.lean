/-
  The check of the documentation's examples of layer 15 returns true. No condition; what was there stays as it was.
-/
import Derived.Test.YtbjohffpjfglgaaNch
import Derived.Test.YtbjohffpjfglgaaArg
import Derived.Deep.RegionHeld3
namespace Go.Proofs.Ytbjohffpjfglgaa
open Go.RowKit
set_option linter.unusedVariables false
set_option maxRecDepth 100000
set_option linter.unusedSimpArgs false

theorem awk1 : ∃ H E : Nat → Nat, (∀ j, j < 8 → H j = E j) ∧ (∀ w : World, (Instr.build 24 #[(0, .int .u8 128), (1, .int .u8 0), (2, .int .u8 0), (3, .int .u8 0), (4, .int .u8 0), (5, .int .u8 0), (6, .int .u8 0), (7, .int .u8 1)]).run Try.prog w = .ok (.agg (arL 8 E).toArray) w) ∧ ∀ V : World, Calls Try.prog 9 #[.int .i64 1, .int .u64 1] V fun e w' => e = .returned (.tuple #[.agg (arL 8 H).toArray, .bool true]) ∧ Below V.heap.size V w' :=
  ⟨hdZ 1 1, e8n, hd11, run_e8n, fun V => by have h := nhead 1 1 V (by omega) (by omega); rw [show okN 1 1 = true from rfl] at h; exact h⟩
theorem awk2 : ∃ H E : Nat → Nat, (∀ j, j < 12 → H j = E j) ∧ (∀ w : World, (Instr.build 27 #[(10, .int .u8 1), (11, .int .u8 2)]).run Try.prog w = .ok (.agg (arL 12 E).toArray) w) ∧ ∀ V : World, Calls Try.prog 10 #[.int .i64 0, .int .u64 258] V fun e w' => e = .returned (.tuple #[.agg (arL 12 H).toArray, .bool true]) ∧ Below V.heap.size V w' :=
  ⟨noZ 0 258, e12n, no02, run_e12n, fun V => by have h := nmake 0 258 V (by omega) (by omega); rw [show okN 0 258 = true from rfl] at h; exact h⟩
theorem awk3 : ∃ H : Nat → Nat, ∀ V : World, Calls Try.prog 10 #[.int .i64 2, .int .u64 0] V fun e w' => e = .returned (.tuple #[.agg (arL 12 H).toArray, .bool false]) ∧ Below V.heap.size V w' :=
  ⟨noZ 2 0, fun V => by have h := nmake 2 0 V (by omega) (by omega); rw [show okN 2 0 = false from rfl] at h; exact h⟩
theorem awk4 (V : World) : Calls Try.prog 18 #[.int .i64 0] V fun e w' => e = .returned (.int .i64 1) ∧ Below V.heap.size V w' := by
  have h := nother 0 V (by omega); rw [if_pos rfl] at h; exact h
theorem awk5 (V : World) : Calls Try.prog 18 #[.int .i64 1] V fun e w' => e = .returned (.int .i64 0) ∧ Below V.heap.size V w' := by
  have h := nother 1 V (by omega); rw [if_neg (by omega)] at h; exact h

set_option maxHeartbeats 4000000 in
theorem nawake  (w : World)  :
    Calls Try.prog 8 #[] w fun e w' => e = .returned (.bool true) ∧ Below w.heap.size w w' := by
  have hz := zero12n
  have hz8 := zero8n
  obtain ⟨H, E8, e1, b1, c1⟩ := awk1
  obtain ⟨N, E12, e2, b2, c2⟩ := awk2
  have e9 := Lib.hid b1
  have e10 := Lib.hid b2
  obtain ⟨M, c3⟩ := awk3
  have HE := Lib.hid e1
  have HE2 := Lib.hid e2
  have HC1 := Lib.hid c1
  have HC2 := Lib.hid c2
  have HC3 := Lib.hid c3
  clear e1 e2 b1 b2 c1 c2 c3
  have hBw : Below w.heap.size w w := Below.refl _ _
  go_enter Try.func8, Try.ntmps8
  go_wp2_with fail
  refine (HC1.out _).mono ?_
  rintro e x1 ⟨rfl, hq⟩
  have hBx1 := hBw.trans (hq.mono hBw.size)
  clear hq  hBw
  obtain ⟨gh, hgh⟩ : ∃ g : Nat, x1.heap.size = g := ⟨_, rfl⟩
  have hlwgh : w.heap.size ≤ gh := by rw [← hgh]; exact hBx1.size
  have hq : Below x1.heap.size x1 (x1.alloc (.cells (arL 8 fun _ => 0).toArray 24)) := (Below.refl _ _).alloc (Nat.le_refl _) _
  have hhx2a := Ar.new x1 8 (fun _ => 0) 24
  have hBx2a := hBx1.alloc hBx1.size (.cells (arL 8 fun _ => 0).toArray 24)
  rw [hgh] at hhx2a
  clear hq  hBx1
  go_upto_region 2 with (first | (refine wpList_store_ar rfl _ _ _ rfl _ _ _ (H) rfl rfl hhx2a (size8n _) ?_; intro x2 hhx2 belx2 sizx2 keex2) | fail)
  have hBx2 := hBx2a.trans (belx2.mono hlwgh)
  clear  hhx2a hBx2a belx2 sizx2 keex2 hgh
  try dsimp only [Act.put]
  go_wp2_with fail
  refine (HC2.out _).mono ?_
  rintro e x3 ⟨rfl, hq⟩
  have hhx3 := (hhx2).to (by omega) hq
  have hBx3 := hBx2.trans (hq.mono hBx2.size)
  clear hq hhx2 hBx2
  obtain ⟨gn, hgn⟩ : ∃ g : Nat, x3.heap.size = g := ⟨_, rfl⟩
  have hlghgn : gh < gn := by rw [← hgn]; exact hhx3.lt (by omega)
  have hlwgn : w.heap.size ≤ gn := by rw [← hgn]; exact hBx3.size
  have hq : Below x3.heap.size x3 (x3.alloc (.cells (arL 12 fun _ => 0).toArray 27)) := (Below.refl _ _).alloc (Nat.le_refl _) _
  have hhx4a := (hhx3).to (by omega) hq
  have hnx4a := Ar.new x3 12 (fun _ => 0) 27
  have hBx4a := hBx3.alloc hBx3.size (.cells (arL 12 fun _ => 0).toArray 27)
  rw [hgn] at hnx4a
  clear hq hhx3 hBx3
  go_upto_region 3 with (first | (refine wpList_store_ar rfl _ _ _ rfl _ _ _ (N) rfl rfl hnx4a (size12n _) ?_; intro x4 hnx4 belx4 sizx4 keex4) | fail)
  have hhx4 := (hhx4a).keep hlghgn belx4
  have hBx4 := hBx4a.trans (belx4.mono hlwgn)
  clear hhx4a hnx4a hBx4a belx4 sizx4 keex4 hgn
  try dsimp only [Act.put]
  go_wp2_with fail
  refine (HC3.out _).mono ?_
  rintro e x5 ⟨rfl, hq⟩
  have hhx5 := (hhx4).to (by omega) hq
  have hnx5 := (hnx4).to (by omega) hq
  have hBx5 := hBx4.trans (hq.mono hBx4.size)
  clear hq hhx4 hnx4 hBx4
  obtain ⟨gm, hgm⟩ : ∃ g : Nat, x5.heap.size = g := ⟨_, rfl⟩
  have hlghgm : gh < gm := by rw [← hgm]; exact hhx5.lt (by omega)
  have hlgngm : gn < gm := by rw [← hgm]; exact hnx5.lt (by omega)
  have hlwgm : w.heap.size ≤ gm := by rw [← hgm]; exact hBx5.size
  have hq : Below x5.heap.size x5 (x5.alloc (.cells (arL 12 fun _ => 0).toArray 27)) := (Below.refl _ _).alloc (Nat.le_refl _) _
  have hhx6a := (hhx5).to (by omega) hq
  have hnx6a := (hnx5).to (by omega) hq
  have hmx6a := Ar.new x5 12 (fun _ => 0) 27
  have hBx6a := hBx5.alloc hBx5.size (.cells (arL 12 fun _ => 0).toArray 27)
  rw [hgm] at hmx6a
  clear hq hhx5 hnx5 hBx5
  go_upto_region 4 with (first | (refine wpList_store_ar rfl _ _ _ rfl _ _ _ (M) rfl rfl hmx6a (size12n _) ?_; intro x6 hmx6 belx6 sizx6 keex6) | fail)
  have hhx6 := (hhx6a).keep hlghgm belx6
  have hnx6 := (hnx6a).keep hlgngm belx6
  have hBx6 := hBx6a.trans (belx6.mono hlwgm)
  clear hhx6a hnx6a hmx6a hBx6a belx6 sizx6 keex6 hgm
  try dsimp only [Act.put]
  have heq := eqn8_true HE.out
  have heq2 := eqn12_true HE2.out
  have hgd := Try.eqgn8
  have hgd2 := Try.eqgn12
  go_wp2_with (first | (refine wpList_load_ar rfl _ _ rfl _ _ _ rfl hhx6 Try.arr8n (size8n _) ?_) | (refine wpList_build_by rfl 24 _ rfl _ rfl _ (e9.out _) ?_) | (refine wpList_load_ar0W rfl _ _ rfl _ _ _ rfl hnx6 Try.arr12n (size12n _) ?_) | (refine wpList_build_byW rfl 27 _ rfl _ rfl _ (e10.out _) ?_))
  refine (awk4 _).mono ?_
  rintro e x7 ⟨rfl, hq⟩
  have hhx7 := (hhx6).to (by omega) hq
  have hnx7 := (hnx6).to (by omega) hq
  have hmx7 := (hmx6).to (by omega) hq
  have hBx7 := hBx6.trans (hq.mono hBx6.size)
  clear hq hhx6 hnx6 hmx6 hBx6
  clear heq heq2 hgd hgd2
  go_wp2_with fail
  refine (awk5 _).mono ?_
  rintro e x8 ⟨rfl, hq⟩
  have hhx8 := (hhx7).to (by omega) hq
  have hnx8 := (hnx7).to (by omega) hq
  have hmx8 := (hmx7).to (by omega) hq
  have hBx8 := hBx7.trans (hq.mono hBx7.size)
  clear hq hhx7 hnx7 hmx7 hBx7
  go_wp2_with fail
  go_ret
  exact ⟨rfl, hBx8⟩
end Go.Proofs.Ytbjohffpjfglgaa
