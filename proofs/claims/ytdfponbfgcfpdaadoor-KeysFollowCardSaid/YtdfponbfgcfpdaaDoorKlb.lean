/-
  The walk of the law KeysFollow of layer 5: for every key it returns true, and writes nothing that was there.
-/
import Derived.Test.YtdfponbfgcfpdaaDoorKee
import Derived.Test.YtdfponbfgcfpdaaDoorKex
import Derived.Test.YtdfponbfgcfpdaaDoorQar
namespace Go.Proofs.YtdfponbfgcfpdaaDoor
open Go.RowKit
set_option linter.unusedVariables false
set_option maxRecDepth 100000

set_option maxHeartbeats 4000000 in
theorem kfollows (f : Nat → Nat) (w : World) (hf : ∀ j, j < 16 → f j < 256) (h : Boxes w) :
    Calls Tryd.prog 7 #[.agg (arL 16 f).toArray] w fun e w' => e = .returned (.bool true) ∧ Below w.heap.size w w' := by
  have hz16 := zero16
  have hz176 := zero176e
  obtain ⟨kA, hkA⟩ : ∃ kA : Array Value, (arL 16 f).toArray = kA := ⟨_, rfl⟩
  obtain ⟨w1, hw1⟩ : ∃ w1 : World, w1 = w.alloc (.cells (arL 16 f).toArray 22) := ⟨_, rfl⟩
  have hs1 : w1.heap.size = w.heap.size + 1 := by rw [hw1]; simp
  have hb1 : Below w.heap.size w w1 := by rw [hw1]; exact (Below.refl _ _).alloc (Nat.le_refl _) _
  have hK1 : Ar w1 w.heap.size 16 f := by rw [hw1]; exact Ar.new w 16 _ _
  rw [hkA] at hw1
  rw [hkA]
  go_enter Tryd.func7, Tryd.ntmps7
  go_upto_region 1 with fail
  rw [← hw1]
  clear hw1
  go_wp2_with fail
  refine (kawake _ (h.keep hb1)).mono ?_
  rintro e w2 ⟨rfl, k2⟩
  have hK2 := hK1.to (by omega) k2
  have hb2 := hb1.trans (k2.mono hb1.size)
  have hs2 := k2.size
  clear hK1 hb1 k2
  go_wp2_with (refine wpList_load_ar rfl _ _ rfl _ _ _ rfl hK2 Tryd.arr16 (size16 _) ?_)
  rw [← hkA]
  refine (refexpand f hf _).mono ?_
  rintro e w3 ⟨rfl, k3⟩
  have hK3 := hK2.to (by omega) k3
  have hb3 := hb2.trans (k3.mono hb2.size)
  have hs3 := k3.size
  clear hK2 hb2 k3 hkA
  obtain ⟨gL, hgL⟩ : ∃ gL : Nat, w3.heap.size = gL := ⟨_, rfl⟩
  have hl : w.heap.size < gL := by omega
  have hT4 : Ar (w3.alloc (.cells (arL 176 fun _ => 0).toArray 31)) gL 176 (fun _ => 0) := by rw [← hgL]; exact Ar.new w3 176 _ _
  have hK4 : Ar (w3.alloc (.cells (arL 176 fun _ => 0).toArray 31)) w.heap.size 16 f := hK3.alloc (by omega) _
  have hb4 : Below w.heap.size w (w3.alloc (.cells (arL 176 fun _ => 0).toArray 31)) := hb3.alloc (by omega) _
  have hs4 : (w3.alloc (.cells (arL 176 fun _ => 0).toArray 31)).heap.size = gL + 1 := by simp [hgL]
  clear hK3 hb3 hs1 hs2 hs3
  go_upto_region 4 with (refine wpList_store_ar rfl _ _ _ rfl _ _ _ (ek f) rfl rfl hT4 (size176e _) ?_; intro w5 hT5 hb5 hs5 hk5)
  have hK5 := hk5 _ _ _ (by omega) hK4
  have hB5 := hb4.trans (hb5.mono (by omega))
  rw [hs4] at hs5
  clear hT4 hK4 hb4 hb5 hk5 hs4 hgL
  try dsimp only [Act.put]
  obtain ⟨gK, hgK⟩ : ∃ gK : Nat, w5.heap.size = gK := ⟨_, rfl⟩
  have hlK : gL < gK := by omega
  clear hs5
  have hC6 : Ar (w5.alloc (.cells (arL 16 fun _ => 0).toArray 22)) gK 16 (fun _ => 0) := by rw [← hgK]; exact Ar.new w5 16 _ _
  have hT6 : Ar (w5.alloc (.cells (arL 16 fun _ => 0).toArray 22)) gL 176 (ek f) := hT5.alloc (by omega) _
  have hB6 : Below w.heap.size w (w5.alloc (.cells (arL 16 fun _ => 0).toArray 22)) := hB5.alloc hB5.size _
  clear hT5 hB5
  go_upto_region 5 with (first
    | (refine wpList_load_ar rfl _ _ rfl _ _ _ rfl hK5 Tryd.arr16 (size16 _) ?_)
    | (refine wpList_store_ar rfl _ _ _ rfl _ _ _ f rfl rfl hC6 (size16 _) ?_; intro w7 hC7 hb7 hs7 hk7))
  have hT7 := hk7 _ _ _ (by omega) hT6
  have hB7 := hB6.trans (hb7.mono (by omega))
  clear hC6 hT6 hB6 hb7 hs7 hk7 hK5 hgK
  try dsimp only [Act.put]
  have HF := Lib.hid hf
  have HB := Lib.hid h
  have hC7' : Ar w7 gK 16 (rk f 0) := hC7
  have hgd := Tryd.eqg16
  clear hf h hC7
  go_upto_region 6 with fail
  go_loopw [5] (fun i wr => ∃ n : Nat, n ≤ 10 ∧ i = .int .i64 n ∧ Ar wr gK 16 (rk f n) ∧ Ar wr gL 176 (ek f) ∧ Below w.heap.size w wr) (fun i _ => 10 - (intOf i).toNat)
  case atStart => exact ⟨0, by omega, rfl, hC7', hT7, hB7⟩
  case round =>
    clear hC7' hT7 hB7
    obtain ⟨n, hn, rfl, hC, hT, hB⟩ := hrel
    by_cases hlt : n < 10
    · go_wp2_with (refine wpList_load_ar rfl _ _ rfl _ _ _ rfl hC Tryd.arr16 (size16 _) ?_)
      refine (knext n (rk f n) (rk_lt f HF.out n) _ hlt (HB.out.keep hB)).mono ?_
      rintro e w8 ⟨rfl, k8⟩
      have hC8 := hC.to (by omega) k8
      have hT8 := hT.to (by omega) k8
      have hB8 := hB.trans (k8.mono hB.size)
      clear hC hT hB k8
      rw [show nx (pwr 2 n) (rk f n) = rk f (n + 1) from rfl]
      obtain ⟨G, hG⟩ : ∃ G : Nat → Nat, rk f (n + 1) = G := ⟨_, rfl⟩
      rw [hG]
      obtain ⟨g6, hg6⟩ : ∃ g6 : Nat, w8.heap.size = g6 := ⟨_, rfl⟩
      have hl6 : gK < g6 := by rw [← hg6]; exact hC8.lt (by omega)
      have hM9 : Ar (w8.alloc (.cells (arL 16 fun _ => 0).toArray 22)) g6 16 (fun _ => 0) := by rw [← hg6]; exact Ar.new w8 16 _ _
      have hC9 : Ar (w8.alloc (.cells (arL 16 fun _ => 0).toArray 22)) gK 16 (rk f n) := hC8.alloc (by omega) _
      have hT9 : Ar (w8.alloc (.cells (arL 16 fun _ => 0).toArray 22)) gL 176 (ek f) := hT8.alloc (by omega) _
      have hB9 : Below w.heap.size w (w8.alloc (.cells (arL 16 fun _ => 0).toArray 22)) := hB8.alloc hB8.size _
      clear hC8 hT8 hB8
      go_upto_region 9 with (refine wpList_store_ar rfl _ _ _ rfl _ _ _ G rfl rfl hM9 (size16 _) ?_; intro w10 hM10 hb10 hs10 hk10)
      have hC10 := hk10 _ _ _ (by omega) hC9
      have hT10 := hk10 _ _ _ (by omega) hT9
      have hB10 := hB9.trans (hb10.mono (by omega))
      clear hM9 hC9 hT9 hB9 hb10 hs10 hk10 hg6
      try dsimp only [Act.put]
      obtain ⟨m, hm⟩ : ∃ m : Nat, m = n + 1 := ⟨_, rfl⟩
      have hrow : (arL 16 fun j => ek f (m * 16 + j)) = arL 16 G := arL_ext (fun j hj => by rw [← hG, hm, Nat.mul_comm (n + 1) 16, ek_rk f (n + 1) j hj])
      have hm1 : (n : Int) + 1 = (m : Int) := by omega
      have hm2 : IntKind.i64.wrap ((n : Int) + 1) = (m : Int) := by rw [wraps_i64' _ (by omega) (by omega)]; omega
      have hm3 : wrap64 ((n : Int) + 1) = (m : Int) := by rw [IntWalk.wrap64_in _ (by omega)]; omega
      have hm4 : IntKind.i64.wrap (m : Int) = (m : Int) := wraps_i64' _ (by omega) (by omega)
      have hm5 : (m : Int) < 11 := by omega
      have hm6 : m * 16 + 16 ≤ 176 := by omega
      have heq := eq16_true (f := G) (g := G) (fun _ _ => rfl)
      have HROW := Lib.hid hrow
      have HM := Lib.hid hm
      have HGG := Lib.hid hG
      clear hrow hm hG
      refine wp_region_quiet_lit (by kernel_rfl) (by kernel_rfl) ?_
      repeat (first
        | go_big_quiet_skip
        | (refine wpQuiet_load_ar0 _ _ rfl _ _ _ rfl rfl hM10 Tryd.arr16 (size16 _) ?_; simp only [Act.put, List.setIfInBounds_toArray, List.set_cons_succ, List.set_cons_zero])
        | (refine wpQuiet_load_ar _ _ rfl gL 176 (m * 16) 16 (ek f) rfl rfl hT10 hm6 Tryd.arr16 (size16 _) ?_; rw [HROW.out]; simp only [Act.put, List.setIfInBounds_toArray, List.set_cons_succ, List.set_cons_zero])
        | go_big_quiet_step (fail))
      refine wpQuiet_nil ?_
      intro V hw'
      obtain ⟨nq, rfl⟩ := hw'
      have hM11 := hM10.drewN nq
      have hC11 := hC10.drewN nq
      have hT11 := hT10.drewN nq
      have hB11 : Below w.heap.size w (w10.drewN nq) := ⟨hB10.os, hB10.tape, hB10.output, hB10.size, hB10.block⟩
      obtain ⟨w11, hw11⟩ : ∃ w11 : World, w11 = w10.drewN nq := ⟨_, rfl⟩
      rw [← hw11] at hM11 hC11 hT11 hB11
      rw [← hw11]
      clear hw11 hM10 hC10 hT10 hB10 heq
      go_wp2_with (first
        | (refine wpList_load_ar rfl _ _ rfl _ _ _ rfl hM11 Tryd.arr16 (size16 _) ?_)
        | (refine wpList_store_ar rfl _ _ _ rfl _ _ _ G rfl rfl hC11 (size16 _) ?_; intro w12 hC12 hb12 hs12 hk12))
      have hT12 := hk12 _ _ _ (by omega) hT11
      have hB12 := hB11.trans (hb12.mono (by omega))
      clear hM11 hC11 hT11 hB11 hb12 hs12 hk12
      go_roundw
      case rel =>
        have hm := HM.out
        subst hm
        exact ⟨n + 1, by omega, by go_num, by rw [HGG.out]; exact hC12, hT12, hB12⟩
      case measure => have hm := HM.out; simp [intOf]; omega
    · obtain rfl : n = 10 := by omega
      go_wp2_with fail
      go_ret
      exact ⟨rfl, hB⟩
end Go.Proofs.YtdfponbfgcfpdaaDoor
