/-
  The walk of the law KeysRestore of layer 5: for every key and every round it returns true, and writes nothing that was there.
-/
import Derived.Test.YtdfponbfgcfpdaaDoorKee
import Derived.Test.YtdfponbfgcfpdaaDoorKex
import Derived.Test.YtdfponbfgcfpdaaDoorQar
namespace Go.Proofs.YtdfponbfgcfpdaaDoor
open Go.RowKit
set_option linter.unusedVariables false
set_option maxRecDepth 100000

set_option maxHeartbeats 4000000 in
theorem krestores_no (f : Nat → Nat) (hf : ∀ j, j < 16 → f j < 256) (z : Int) (w : World) (h : Boxes w) (hz : z < 0 ∨ (¬ z < 0 ∧ 10 < z)) :
    Calls Tryd.prog 5 #[.agg (arL 16 f).toArray, .int .i64 z] w fun e w' => e = .returned (.bool true) ∧ Below w.heap.size w w' := by
  have hz16 := zero16
  have hz176 := zero176e
  have z0 := Lib.hid run_zero16
  obtain ⟨kA, hkA⟩ : ∃ kA : Array Value, (arL 16 f).toArray = kA := ⟨_, rfl⟩
  obtain ⟨w1, hw1⟩ : ∃ w1 : World, w1 = w.alloc (.cells (arL 16 f).toArray 22) := ⟨_, rfl⟩
  have hs1 : w1.heap.size = w.heap.size + 1 := by rw [hw1]; simp
  have hb1 : Below w.heap.size w w1 := by rw [hw1]; exact (Below.refl _ _).alloc (Nat.le_refl _) _
  have hK1 : Ar w1 w.heap.size 16 f := by rw [hw1]; exact Ar.new w 16 _ _
  have hzn : z < 0 ∨ 10 ≤ z := by omega
  have hzr : z < 0 ∨ 10 < z := by omega
  have HZN := Lib.hid hzn
  have HZR := Lib.hid hzr
  clear hzn hzr
  have heq := eq16_true (f := fun _ => 0) (g := fun _ => 0) (fun _ _ => rfl)
  have hgd := Tryd.eqg16
  rw [hkA] at hw1
  rw [hkA]
  rcases hz with hl | ⟨hl, hr⟩
  all_goals
    go_enter Tryd.func5, Tryd.ntmps5
    go_upto_region 1 with fail
    rw [← hw1]
    clear hw1
    go_wp2_with fail
    refine (kawake _ (h.keep hb1)).mono ?_
    rintro e w2 ⟨rfl, k2⟩
    have hK2 := hK1.to (by omega) k2
    have hb2 := hb1.trans (k2.mono hb1.size)
    have hs2 := k2.size
    clear hK1 hb1 k2
    go_wp2_with (refine wpList_load_ar rfl _ _ rfl _ _ _ rfl hK2 Tryd.arr16 (size16 _) ?_)
    rw [← hkA]
    refine (refexpand f hf _).mono ?_
    rintro e w3 ⟨rfl, k3⟩
    have hK3 := hK2.to (by omega) k3
    have hb3 := hb2.trans (k3.mono hb2.size)
    have hs3 := k3.size
    clear hK2 hb2 k3 hkA
    obtain ⟨gL, hgL⟩ : ∃ gL : Nat, w3.heap.size = gL := ⟨_, rfl⟩
    have hlw : w.heap.size < gL := by omega
    have hT4 : Ar (w3.alloc (.cells (arL 176 fun _ => 0).toArray 31)) gL 176 (fun _ => 0) := by rw [← hgL]; exact Ar.new w3 176 _ _
    have hK4 : Ar (w3.alloc (.cells (arL 176 fun _ => 0).toArray 31)) w.heap.size 16 f := hK3.alloc (by omega) _
    have hb4 : Below w.heap.size w (w3.alloc (.cells (arL 176 fun _ => 0).toArray 31)) := hb3.alloc (by omega) _
    clear hK3 hb3 hs1 hs2 hs3
    go_upto_region 4 with (refine wpList_store_ar rfl _ _ _ rfl _ _ _ (ek f) rfl rfl hT4 (size176e _) ?_; intro w5 hT5 hb5 hs5 hk5)
    have hK5 := hk5 _ _ _ (by omega) hK4
    have hB5 := hb4.trans (hb5.mono (by omega))
    clear hT4 hK4 hb4 hb5 hk5 hs5 hgL hT5
    try dsimp only [Act.put]
    go_wp2_with (refine wpList_load_ar rfl _ _ rfl _ _ _ rfl hK5 Tryd.arr16 (size16 _) ?_)
    refine (krestore_no z f _ HZR.out).mono ?_
    rintro e w6 ⟨rfl, k6⟩
    have hK6 := hK5.to (by omega) k6
    have hB6 := hB5.trans (k6.mono hB5.size)
    clear hK5 hB5 k6
    obtain ⟨g6, hg6⟩ : ∃ g6 : Nat, w6.heap.size = g6 := ⟨_, rfl⟩
    have hl6 : w.heap.size < g6 := by rw [← hg6]; exact hK6.lt (by omega)
    have hM7 : Ar (w6.alloc (.cells (arL 16 fun _ => 0).toArray 22)) g6 16 (fun _ => 0) := by rw [← hg6]; exact Ar.new w6 16 _ _
    have hK7 : Ar (w6.alloc (.cells (arL 16 fun _ => 0).toArray 22)) w.heap.size 16 f := hK6.alloc (by omega) _
    have hB7 : Below w.heap.size w (w6.alloc (.cells (arL 16 fun _ => 0).toArray 22)) := hB6.alloc hB6.size _
    clear hK6 hB6
    go_upto_region 6 with (refine wpList_store_ar rfl _ _ _ rfl _ _ _ (fun _ => 0) rfl rfl hM7 (size16 _) ?_; intro w8 hM8 hb8 hs8 hk8)
    have hK8 := hk8 _ _ _ (by omega) hK7
    have hB8 := hB7.trans (hb8.mono (by omega))
    clear hM7 hK7 hB7 hb8 hs8 hk8 hg6
    try dsimp only [Act.put]
    go_wp2_with (refine wpList_load_ar rfl _ _ rfl _ _ _ rfl hK8 Tryd.arr16 (size16 _) ?_)
    refine (knext_no z f _ HZN.out).mono ?_
    rintro e w9 ⟨rfl, k9⟩
    have hM9 := hM8.to (by omega) k9
    have hB9 := hB8.trans (k9.mono hB8.size)
    clear hK8 hM8 hB8 k9
    obtain ⟨g8, hg8⟩ : ∃ g8 : Nat, w9.heap.size = g8 := ⟨_, rfl⟩
    have hl8 : g6 < g8 := by rw [← hg8]; exact hM9.lt (by omega)
    have hN10 : Ar (w9.alloc (.cells (arL 16 fun _ => 0).toArray 22)) g8 16 (fun _ => 0) := by rw [← hg8]; exact Ar.new w9 16 _ _
    have hM10 : Ar (w9.alloc (.cells (arL 16 fun _ => 0).toArray 22)) g6 16 (fun _ => 0) := hM9.alloc (by omega) _
    have hB10 : Below w.heap.size w (w9.alloc (.cells (arL 16 fun _ => 0).toArray 22)) := hB9.alloc hB9.size _
    clear hM9 hB9
    go_upto_region 7 with (refine wpList_store_ar rfl _ _ _ rfl _ _ _ (fun _ => 0) rfl rfl hN10 (size16 _) ?_; intro w11 hN11 hb11 hs11 hk11)
    have hM11 := hk11 _ _ _ (by omega) hM10
    have hB11 := hB10.trans (hb11.mono (by omega))
    clear hN10 hM10 hB10 hb11 hs11 hk11 hg8
    try dsimp only [Act.put]
    go_wp2_with (first
      | (refine wpList_load_ar0W rfl _ _ rfl _ _ _ rfl hM11 Tryd.arr16 (size16 _) ?_)
      | (refine wpList_load_ar0W rfl _ _ rfl _ _ _ rfl hN11 Tryd.arr16 (size16 _) ?_)
      | (refine wpList_build_byW rfl _ _ rfl [] rfl _ (z0.out _) ?_))
    go_ret
    exact ⟨rfl, hB11⟩

theorem bkr_rkL (f : Nat → Nat) (r : Nat) : arL 16 (bkr (rk f r) r) = arL 16 f := arL_ext (fun j hj => bkr_rk f r j hj)
theorem rowL (f : Nat → Nat) (r m : Nat) (hm : m = r) : (arL 16 fun j => ek f (m * 16 + j)) = arL 16 (rk f r) := arL_ext (fun j hj => by rw [hm, Nat.mul_comm r 16, ek_rk f r j hj])

set_option maxHeartbeats 4000000 in
theorem krestores_in (f : Nat → Nat) (hf : ∀ j, j < 16 → f j < 256) (r : Nat) (w : World) (h : Boxes w) (hr : r ≤ 10) :
    Calls Tryd.prog 5 #[.agg (arL 16 f).toArray, .int .i64 r] w fun e w' => e = .returned (.bool true) ∧ Below w.heap.size w w' := by
  have hz16 := zero16
  have hz176 := zero176e
  have z0 := Lib.hid run_zero16
  obtain ⟨kA, hkA⟩ : ∃ kA : Array Value, (arL 16 f).toArray = kA := ⟨_, rfl⟩
  obtain ⟨w1, hw1⟩ : ∃ w1 : World, w1 = w.alloc (.cells (arL 16 f).toArray 22) := ⟨_, rfl⟩
  have hs1 : w1.heap.size = w.heap.size + 1 := by rw [hw1]; simp
  have hb1 : Below w.heap.size w w1 := by rw [hw1]; exact (Below.refl _ _).alloc (Nat.le_refl _) _
  have hK1 : Ar w1 w.heap.size 16 f := by rw [hw1]; exact Ar.new w 16 _ _
  obtain ⟨G, B, hN0, hG⟩ : ∃ (G : Nat → Nat) (B : Bool), (∀ V : World, Boxes V → Calls Tryd.prog 16 #[.int .i64 r, .agg (arL 16 (rk f r)).toArray] V fun e w' => e = .returned (.tuple #[.agg (arL 16 G).toArray, .bool B]) ∧ Below V.heap.size V w') ∧
      ((r < 10 ∧ B = true ∧ G = rk f (r + 1)) ∨ (r = 10 ∧ B = false ∧ G = fun _ => 0)) := by
    by_cases hlt : r < 10
    · exact ⟨rk f (r + 1), true, fun V hV => knext r (rk f r) (rk_lt f hf r) V hlt hV, .inl ⟨hlt, rfl, rfl⟩⟩
    · exact ⟨fun _ => 0, false, fun V hV => knext_no (r : Int) (rk f r) V (.inr (by omega)), .inr ⟨by omega, rfl, rfl⟩⟩
  have HN := Lib.hid hN0
  have hgd := Tryd.eqg16
  have heq := eq16_true (f := f) (g := f) (fun _ _ => rfl)
  have i1 : ¬ ((r : Int) < 0) := by omega
  have i2 : ¬ ((10 : Int) < (r : Int)) := by omega
  have i3 : (r : Int) < 11 := by omega
  have hrow := Lib.hid (rowL f r r rfl)
  have HR := Lib.hid hr
  clear hN0 hr
  rw [hkA] at hw1 heq
  rw [hkA]
  have hcase : ((r : Int) < 10 ∧ B = true) ∨ (¬ ((r : Int) < 10) ∧ B = false) := by
    rcases hG with ⟨a, b, _⟩ | ⟨a, b, _⟩
    · exact .inl ⟨by omega, b⟩
    · exact .inr ⟨by omega, b⟩
  have HG := Lib.hid hG
  clear hG
  rcases hcase with ⟨i4, rfl⟩ | ⟨i4, rfl⟩
  all_goals
    go_enter Tryd.func5, Tryd.ntmps5
    go_upto_region 1 with fail
    rw [← hw1]
    clear hw1
    go_wp2_with fail
    refine (kawake _ (h.keep hb1)).mono ?_
    rintro e w2 ⟨rfl, k2⟩
    have hK2 := hK1.to (by omega) k2
    have hb2 := hb1.trans (k2.mono hb1.size)
    have hs2 := k2.size
    clear hK1 hb1 k2
    go_wp2_with (refine wpList_load_ar rfl _ _ rfl _ _ _ rfl hK2 Tryd.arr16 (size16 _) ?_)
    rw [← hkA]
    refine (refexpand f hf _).mono ?_
    rintro e w3 ⟨rfl, k3⟩
    have hK3 := hK2.to (by omega) k3
    have hb3 := hb2.trans (k3.mono hb2.size)
    have hs3 := k3.size
    rw [← hkA] at heq
    clear hK2 hb2 k3 hkA
    obtain ⟨gL, hgL⟩ : ∃ gL : Nat, w3.heap.size = gL := ⟨_, rfl⟩
    have hlw : w.heap.size < gL := by omega
    have hT4 : Ar (w3.alloc (.cells (arL 176 fun _ => 0).toArray 31)) gL 176 (fun _ => 0) := by rw [← hgL]; exact Ar.new w3 176 _ _
    have hK4 : Ar (w3.alloc (.cells (arL 176 fun _ => 0).toArray 31)) w.heap.size 16 f := hK3.alloc (by omega) _
    have hb4 : Below w.heap.size w (w3.alloc (.cells (arL 176 fun _ => 0).toArray 31)) := hb3.alloc (by omega) _
    clear hK3 hb3 hs1 hs2 hs3
    go_upto_region 4 with (refine wpList_store_ar rfl _ _ _ rfl _ _ _ (ek f) rfl rfl hT4 (size176e _) ?_; intro w5 hT5 hb5 hs5 hk5)
    have hK5 := hk5 _ _ _ (by omega) hK4
    have hB5 := hb4.trans (hb5.mono (by omega))
    clear hT4 hK4 hb4 hb5 hk5 hs5 hgL
    try dsimp only [Act.put]
    go_wp2_with (refine wpList_load_arO rfl _ _ rfl gL 176 (r * 16) 16 _ rfl hT5 (by have := HR.out; omega) Tryd.arr16 (size16 _) ?_; rw [hrow.out])
    refine (krestore r (rk f r) (rk_lt f hf r) _ HR.out (h.keep hB5)).mono ?_
    rintro e w6 ⟨rfl, k6⟩
    rw [bkr_rkL]
    have hK6 := hK5.to (by omega) k6
    have hT6 := hT5.to (by omega) k6
    have hB6 := hB5.trans (k6.mono hB5.size)
    clear hK5 hB5 hT5 k6
    obtain ⟨g6, hg6⟩ : ∃ g6 : Nat, w6.heap.size = g6 := ⟨_, rfl⟩
    have hl6 : gL < g6 := by rw [← hg6]; exact hT6.lt (by omega)
    have hM7 : Ar (w6.alloc (.cells (arL 16 fun _ => 0).toArray 22)) g6 16 (fun _ => 0) := by rw [← hg6]; exact Ar.new w6 16 _ _
    have hK7 : Ar (w6.alloc (.cells (arL 16 fun _ => 0).toArray 22)) w.heap.size 16 f := hK6.alloc (by omega) _
    have hT7 : Ar (w6.alloc (.cells (arL 16 fun _ => 0).toArray 22)) gL 176 (ek f) := hT6.alloc (by omega) _
    have hB7 : Below w.heap.size w (w6.alloc (.cells (arL 16 fun _ => 0).toArray 22)) := hB6.alloc hB6.size _
    clear hK6 hB6 hT6
    go_upto_region 9 with (refine wpList_store_ar rfl _ _ _ rfl _ _ _ f rfl rfl hM7 (size16 _) ?_; intro w8 hM8 hb8 hs8 hk8)
    have hK8 := hk8 _ _ _ (by omega) hK7
    have hT8 := hk8 _ _ _ (by omega) hT7
    have hB8 := hB7.trans (hb8.mono (by omega))
    clear hM7 hK7 hB7 hT7 hb8 hs8 hk8 hg6
    try dsimp only [Act.put]
    go_wp2_with (refine wpList_load_arO rfl _ _ rfl gL 176 (r * 16) 16 _ rfl hT8 (by have := HR.out; omega) Tryd.arr16 (size16 _) ?_; rw [hrow.out])
    refine (HN.out _ (h.keep hB8)).mono ?_
    rintro e w9 ⟨rfl, k9⟩
    have hM9 := hM8.to (by omega) k9
    have hK9 := hK8.to (by omega) k9
    have hT9 := hT8.to (by omega) k9
    have hB9 := hB8.trans (k9.mono hB8.size)
    clear hK8 hM8 hB8 hT8 k9
    obtain ⟨g8, hg8⟩ : ∃ g8 : Nat, w9.heap.size = g8 := ⟨_, rfl⟩
    have hl8 : g6 < g8 := by rw [← hg8]; exact hM9.lt (by omega)
    have hN10 : Ar (w9.alloc (.cells (arL 16 fun _ => 0).toArray 22)) g8 16 (fun _ => 0) := by rw [← hg8]; exact Ar.new w9 16 _ _
    have hM10 : Ar (w9.alloc (.cells (arL 16 fun _ => 0).toArray 22)) g6 16 f := hM9.alloc (by omega) _
    have hK10 : Ar (w9.alloc (.cells (arL 16 fun _ => 0).toArray 22)) w.heap.size 16 f := hK9.alloc (by omega) _
    have hT10 : Ar (w9.alloc (.cells (arL 16 fun _ => 0).toArray 22)) gL 176 (ek f) := hT9.alloc (by omega) _
    have hB10 : Below w.heap.size w (w9.alloc (.cells (arL 16 fun _ => 0).toArray 22)) := hB9.alloc hB9.size _
    clear hM9 hB9 hK9 hT9
    go_upto_region 10 with (refine wpList_store_ar rfl _ _ _ rfl _ _ _ G rfl rfl hN10 (size16 _) ?_; intro w11 hN11 hb11 hs11 hk11)
    have hM11 := hk11 _ _ _ (by omega) hM10
    have hK11 := hk11 _ _ _ (by omega) hK10
    have hT11 := hk11 _ _ _ (by omega) hT10
    have hB11 := hB10.trans (hb11.mono (by omega))
    clear hN10 hM10 hB10 hK10 hT10 hb11 hs11 hk11 hg8
    try dsimp only [Act.put]
    go_wp2_with (first
      | (refine wpList_load_ar0W rfl _ _ rfl _ _ _ rfl hM11 Tryd.arr16 (size16 _) ?_)
      | (refine wpList_load_ar0W rfl _ _ rfl _ _ _ rfl hK11 Tryd.arr16 (size16 _) ?_))
  · obtain ⟨m, hm⟩ : ∃ m : Nat, m = r + 1 := ⟨_, rfl⟩
    have hr10 : r < 10 := by omega
    have hGe : G = rk f (r + 1) := by
      rcases HG.out with ⟨_, _, a⟩ | ⟨a, _⟩
      · exact a
      · omega
    have hrow2 : (arL 16 fun j => ek f (m * 16 + j)) = arL 16 G := by rw [hGe]; exact rowL f (r + 1) m hm
    have hm1 : (r : Int) + 1 = (m : Int) := by omega
    have hm2 : IntKind.i64.wrap ((r : Int) + 1) = (m : Int) := by rw [wraps_i64' _ (by omega) (by omega)]; omega
    have hm3 : wrap64 ((r : Int) + 1) = (m : Int) := by rw [IntWalk.wrap64_in _ (by omega)]; omega
    have hm4 : IntKind.i64.wrap (m : Int) = (m : Int) := wraps_i64' _ (by omega) (by omega)
    have hm5 : (m : Int) < 11 := by omega
    have hm6 : m * 16 + 16 ≤ 176 := by omega
    have hdd : decide ((r : Int) < 10) = true := decide_eq_true i4
    have heqG := eq16_true (f := G) (g := G) (fun _ _ => rfl)
    have HROW := Lib.hid hrow2
    clear hrow2 hm hGe hr10 heq
    refine wp_region_quiet_lit (by kernel_rfl) (by kernel_rfl) ?_
    repeat (first
      | go_big_quiet_skip
      | (refine wpQuiet_load_ar0 _ _ rfl _ _ _ rfl rfl hN11 Tryd.arr16 (size16 _) ?_; simp only [Act.put, List.setIfInBounds_toArray, List.set_cons_succ, List.set_cons_zero])
      | (refine wpQuiet_load_ar _ _ rfl gL 176 (m * 16) 16 (ek f) rfl rfl hT11 hm6 Tryd.arr16 (size16 _) ?_; rw [HROW.out]; simp only [Act.put, List.setIfInBounds_toArray, List.set_cons_succ, List.set_cons_zero])
      | go_big_quiet_step (fail))
    refine wpQuiet_nil ?_
    intro V hw'
    obtain ⟨nq, rfl⟩ := hw'
    go_wp2_with fail
    go_ret
    exact ⟨rfl, ⟨hB11.os, hB11.tape, hB11.output, hB11.size, hB11.block⟩⟩
  · have hten : ((r : Int) == 10) = true := by have := HR.out; simp; omega
    have hGe : G = fun _ => 0 := by
      rcases HG.out with ⟨_, a, _⟩ | ⟨_, _, a⟩
      · cases a
      · exact a
    subst hGe
    have hdd : decide ((r : Int) < 10) = false := decide_eq_false (by omega)
    have heqG := eq16_true (f := fun _ => 0) (g := fun _ => 0) (fun _ _ => rfl)
    clear heq
    refine wp_region_quiet_lit (by kernel_rfl) (by kernel_rfl) ?_
    repeat (first
      | go_big_quiet_skip
      | (refine wpQuiet_load_ar0 _ _ rfl _ _ _ rfl rfl hN11 Tryd.arr16 (size16 _) ?_; simp only [Act.put, List.setIfInBounds_toArray, List.set_cons_succ, List.set_cons_zero])
      | (refine wpQuiet_build_by _ _ rfl [] rfl rfl _ z0.out ?_; simp only [Act.put, List.setIfInBounds_toArray, List.set_cons_succ, List.set_cons_zero])
      | go_big_quiet_step (fail))
    refine wpQuiet_nil ?_
    intro V hw'
    obtain ⟨nq, rfl⟩ := hw'
    go_wp2_with fail
    go_ret
    exact ⟨rfl, ⟨hB11.os, hB11.tape, hB11.output, hB11.size, hB11.block⟩⟩
theorem krestores (f : Nat → Nat) (z : Int) (w : World) (hf : ∀ j, j < 16 → f j < 256) (hz : -9223372036854775808 ≤ z ∧ z ≤ 9223372036854775807) (h : Boxes w) :
    Calls Tryd.prog 5 #[.agg (arL 16 f).toArray, .int .i64 z] w fun e w' => e = .returned (.bool true) ∧ Below w.heap.size w w' := by
  by_cases hin : 0 ≤ z ∧ z ≤ 10
  · obtain ⟨r, rfl⟩ := Int.eq_ofNat_of_zero_le hin.1
    exact krestores_in f hf r w h (by omega)
  · exact krestores_no f hf z w h (by omega)
end Go.Proofs.YtdfponbfgcfpdaaDoor
