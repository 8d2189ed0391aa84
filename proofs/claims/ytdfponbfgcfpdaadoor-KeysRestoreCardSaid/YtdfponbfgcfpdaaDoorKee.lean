/-
  Round keys compared; the check of the documentation's examples of layer 5 returns true. No condition but what the table holds; what was there stays as it was.
-/
import Derived.Test.YtdfponbfgcfpdaaDoorEqr
import Derived.Test.YtdfponbfgcfpdaaDoorArg
import Derived.Test.YtdfponbfgcfpdaaDoorKef
import Derived.Test.YtdfponbfgcfpdaaDoorKeh
namespace Go.Proofs.YtdfponbfgcfpdaaDoor
open Go.RowKit
set_option linter.unusedVariables false
set_option maxRecDepth 100000

theorem eq16_true {f g : Nat → Nat} (h : ∀ j, j < 16 → f j = g j) (w : World) : (Op.equalIn 10000 22 (.agg (arL 16 f).toArray) (.agg (arL 16 g).toArray)).run Tryd.prog w = .ok true w := by
  have := run_equalIn_arr (P := Tryd.prog) (n := 16) Tryd.arr16 Tryd.underlying5 (by kernel_rfl) 9998 f g w
  rwa [decide_eq_true h] at this
theorem eq16_false {f g : Nat → Nat} (h : ¬ ∀ j, j < 16 → f j = g j) (w : World) : (Op.equalIn 10000 22 (.agg (arL 16 f).toArray) (.agg (arL 16 g).toArray)).run Tryd.prog w = .ok false w := by
  have := run_equalIn_arr (P := Tryd.prog) (n := 16) Tryd.arr16 Tryd.underlying5 (by kernel_rfl) 9998 f g w
  rwa [decide_eq_false h] at this
theorem eq176 (f : Nat → Nat) (w : World) : (Op.equalIn 10000 31 (.agg (arL 176 f).toArray) (.agg (arL 176 f).toArray)).run Tryd.prog w = .ok true w :=
  run_equalIn_rows (P := Tryd.prog) (by omega) Tryd.arr11 Tryd.arr16 Tryd.underlying5 (by kernel_rfl) (by kernel_rfl) 9997 176 (by omega) f w
theorem Tryd.eqg16 : Tryd.prog.eqGuardType Tryd.prog.depth 22 = false := by kernel_rfl
theorem Tryd.eqg176 : Tryd.prog.eqGuardType Tryd.prog.depth 31 = false := by kernel_rfl
theorem run_zero16 (w : World) : (Instr.build 22 #[]).run Tryd.prog w = .ok (.agg (arL 16 fun _ => 0).toArray) w := run_build w _ _ _ (by kernel_rfl)
theorem run_one16 (w : World) : (Instr.build 22 #[(0, .int .u8 1)]).run Tryd.prog w = .ok (.agg (arL 16 fun i => if i = 0 then 1 else 0).toArray) w := run_build w _ _ _ (by kernel_rfl)

theorem index44 (f : Nat → Nat) (n : Nat) (h : n < 44) (w : World) : (Instr.index 25 (.agg (awL 44 f).toArray) (.int .i64 n)).run Tryd.prog w = .ok (.int .u32 (f n : Nat)) w :=
  run_index_arr Tryd.arr44w Tryd.underlying24 rfl (by kernel_rfl) _ n _ h (by rw [List.getElem?_toArray]; exact awL_get 44 f n h) w

set_option maxHeartbeats 4000000 in
theorem kawake (w : World) (h : Boxes w) : Calls Tryd.prog 8 #[] w fun e w' => e = .returned (.bool true) ∧ Below w.heap.size w w' := by
  have z0 := Lib.hid run_zero16
  have hz16 := zero16
  have hz176 := zero176e
  have hf0 : ∀ j, j < 16 → (fun _ : Nat => 0) j < 256 := fun _ _ => by simp
  go_enter Tryd.func8, Tryd.ntmps8
  go_wp2_with (refine wpList_build_by rfl _ _ rfl [] rfl _ (z0.out _) ?_)
  refine (kexpand (fun _ => 0) hf0 _ h).mono ?_
  rintro e w1 ⟨rfl, k1⟩
  have h1 := h.keep k1
  have hs1 := k1.size
  obtain ⟨g1, hg1⟩ : ∃ g1 : Nat, w1.heap.size = g1 := ⟨_, rfl⟩
  obtain ⟨F, hF⟩ : ∃ F : Nat → Nat, F = ek (fun _ => 0) := ⟨_, rfl⟩
  rw [← hF]
  have HF := Lib.hid hF
  clear hF
  have hL1 : Ar (w1.alloc (.cells (arL 176 fun _ => 0).toArray 31)) g1 176 (fun _ => 0) := by rw [← hg1]; exact Ar.new w1 176 _ _
  have hb1 : Below w.heap.size w (w1.alloc (.cells (arL 176 fun _ => 0).toArray 31)) := k1.alloc (by omega) _
  go_upto_region 2 with (refine wpList_store_ar rfl _ _ _ rfl _ _ _ F rfl rfl hL1 (size176e _) ?_; intro w2 hL2 hb2 hs2 _)
  have hB2 := hb1.trans (hb2.mono (by omega))
  clear hL1 hb1 hb2 hs2 k1
  dsimp only [Act.put]
  go_wp2_with (refine wpList_load_arO rfl _ _ rfl _ 176 160 16 _ rfl hL2 (by omega) Tryd.arr16 (size16 _) ?_)
  have hFl : ∀ j, F j < 256 := by rw [HF.out]; exact ek_lt _ hf0
  have hb10 : ∀ j, j < 16 → bkr (fun j => F (160 + j)) 10 j = (fun _ => 0) j := fun j hj => by
    rw [bkr_congr 10 (g' := rk (fun _ => 0) 10) (fun i hi => by rw [HF.out]; exact ek_rk (fun _ => 0) 10 i hi) j hj]
    exact bkr_rk (fun _ => 0) 10 j hj
  have hK := Lib.hid (arL_ext hb10)
  have hL := Lib.hid hFl
  clear hFl hb10
  refine (krestore 10 (fun j => F (160 + j)) (fun j _ => hL.out _) _ (by omega) (h.keep hB2)).mono ?_
  rintro e w3 ⟨rfl, k3⟩
  rw [hK.out]
  have hL3 := hL2.to (by omega) k3
  have hB3 := hB2.trans (k3.mono hB2.size)
  clear hL2 hB2 k3 h1 hs1 hg1
  obtain ⟨g2, hg2⟩ : ∃ g2 : Nat, w3.heap.size = g2 := ⟨_, rfl⟩
  have hl2 : g1 < g2 := by rw [← hg2]; exact hL3.lt (by omega)
  have hlw : w.heap.size ≤ g2 := by rw [← hg2]; exact hB3.size
  have hL4 : Ar (w3.alloc (.cells (arL 16 fun _ => 0).toArray 22)) g1 176 F := hL3.alloc (by omega) _
  have hM4 : Ar (w3.alloc (.cells (arL 16 fun _ => 0).toArray 22)) g2 16 (fun _ => 0) := by rw [← hg2]; exact Ar.new w3 16 _ _
  have hB4 : Below w.heap.size w (w3.alloc (.cells (arL 16 fun _ => 0).toArray 22)) := hB3.alloc (hB3.size) _
  clear hL3 hB3
  go_upto_region 3 with (refine wpList_store_ar rfl _ _ _ rfl _ _ _ (fun _ => 0) rfl rfl hM4 (size16 _) ?_; intro w5 hM5 hb5 hs5 hk5)
  have hL5 := hk5 _ _ _ (by omega) hL4
  have hB5 := hB4.trans (hb5.mono (by omega))
  clear hL4 hM4 hB4 hb5 hs5 hk5 hg2
  try dsimp only [Act.put]
  go_wp2_with (refine wpList_load_arO rfl _ _ rfl _ 176 160 16 _ rfl hL5 (by omega) Tryd.arr16 (size16 _) ?_)
  refine (knext_no 10 (fun j => F (160 + j)) _ (.inr (by omega))).mono ?_
  rintro e w6 ⟨rfl, k6⟩
  have hL6 := hL5.to (by omega) k6
  have hM6 := hM5.to (by omega) k6
  have hB6 := hB5.trans (k6.mono hB5.size)
  clear hL5 hM5 hB5 k6
  obtain ⟨g3, hg3⟩ : ∃ g3 : Nat, w6.heap.size = g3 := ⟨_, rfl⟩
  have hl3 : g2 < g3 := by rw [← hg3]; exact hM6.lt (by omega)
  have hL7 : Ar (w6.alloc (.cells (arL 16 fun _ => 0).toArray 22)) g1 176 F := hL6.alloc (by omega) _
  have hM7 : Ar (w6.alloc (.cells (arL 16 fun _ => 0).toArray 22)) g2 16 (fun _ => 0) := hM6.alloc (by omega) _
  have hN7 : Ar (w6.alloc (.cells (arL 16 fun _ => 0).toArray 22)) g3 16 (fun _ => 0) := by rw [← hg3]; exact Ar.new w6 16 _ _
  have hB7 : Below w.heap.size w (w6.alloc (.cells (arL 16 fun _ => 0).toArray 22)) := hB6.alloc (hB6.size) _
  clear hL6 hM6 hB6
  go_upto_region 4 with (refine wpList_store_ar rfl _ _ _ rfl _ _ _ (fun _ => 0) rfl rfl hN7 (size16 _) ?_; intro w8 hN8 hb8 hs8 hk8)
  have hL8 := hk8 _ _ _ (by omega) hL7
  have hM8 := hk8 _ _ _ (by omega) hM7
  have hB8 := hB7.trans (hb8.mono (by omega))
  clear hL7 hM7 hN7 hB7 hb8 hs8 hk8 hg3 hN8
  try dsimp only [Act.put]
  have c16 := (hL8 16 (by omega)).1
  have f16 : F 16 = 98 := by rw [HF.out]; decide +kernel
  rw [f16] at c16
  clear f16
  go_wp2_with fail
  refine (kconst 9 _ (by omega) (by omega)).mono ?_
  rintro e w9 ⟨rfl, k9⟩
  rw [show pwr 2 (9 - 1) = 27 from by decide +kernel]
  have hM9 := hM8.to (by omega) k9
  have hB9 := hB8.trans (k9.mono hB8.size)
  clear hL8 hM8 hB8 k9 c16
  go_wp2_with fail
  refine (kconst_no 11 _ (by omega)).mono ?_
  rintro e w10 ⟨rfl, rfl⟩
  obtain ⟨f1, hf1⟩ : ∃ f1 : Nat → Nat, f1 = fun i => if i = 0 then 1 else 0 := ⟨_, rfl⟩
  have hf1l : ∀ j, j < 16 → f1 j < 256 := fun j _ => by rw [hf1]; dsimp only; split <;> omega
  have z1 := run_one16
  rw [← hf1] at z1
  have Z1 := Lib.hid z1
  have heq := eq16_true (f := fun _ => 0) (g := fun _ => 0) (fun _ _ => rfl)
  have hgd := Tryd.eqg16
  have H1 := Lib.hid hf1l
  have hw0 : wd (ek f1) 0 = 16777216 := by
    unfold wd
    rw [ek_key f1 (4 * 0) (by omega), ek_key f1 (4 * 0 + 1) (by omega), ek_key f1 (4 * 0 + 2) (by omega), ek_key f1 (4 * 0 + 3) (by omega), hf1]; rfl
  have hW0 := Lib.hid hw0
  clear z1 hf1l hf1 hw0
  go_wp2_with (first
    | (refine wpList_load_ar0W rfl _ _ rfl _ _ _ rfl hM9 Tryd.arr16 (size16 _) ?_)
    | (refine wpList_build_byW rfl _ _ rfl [(0, .int .u8 1)] rfl _ (Z1.out _) ?_)
    | (refine wpList_build_byW rfl _ _ rfl [] rfl _ (z0.out _) ?_))
  refine (kwords f1 H1.out _ (h.keep hB9)).mono ?_
  rintro e w11 ⟨rfl, k11⟩
  have hix : ∀ V : World, (Instr.index 25 (.agg (awL 44 (wd (ek f1))).toArray) (.int .i64 0)).run Tryd.prog V = .ok (.int .u32 16777216) V := fun V => by
    have := index44 (wd (ek f1)) 0 (by omega) V
    rw [hW0.out] at this
    exact this
  generalize awL 44 (wd (ek f1)) = AA at *
  go_wp2_with fail
  go_ret
  exact ⟨rfl, hB9.trans (k11.mono hB9.size)⟩
end Go.Proofs.YtdfponbfgcfpdaaDoor
