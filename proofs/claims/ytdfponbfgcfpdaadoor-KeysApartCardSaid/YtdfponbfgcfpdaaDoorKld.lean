/-
  The walk of the law KeysApart of layer 5: for any two strings of 16 bytes and every byte it returns true, and writes nothing that was there.
-/
import Derived.Test.YtdfponbfgcfpdaaDoorKee
import Derived.Test.YtdfponbfgcfpdaaDoorKex
import Derived.Deep.RegionHeld3
namespace Go.Proofs.YtdfponbfgcfpdaaDoor
open Go.RowKit
set_option linter.unusedVariables false
set_option maxRecDepth 100000

theorem range_keep {g o : Nat} {W W' : World} {v : Value} {cs : List Value} (h : W.rangeAt g o (v :: cs)) (hb : Below W.heap.size W W') : W'.rangeAt g o (v :: cs) := fun j u hu => by
  have h0 := h 0 v rfl
  have hg : g < W.heap.size := by
    rcases Nat.lt_or_ge g W.heap.size with h1 | h1
    · exact h1
    · simp [World.cell?, Array.getElem?_eq_none h1] at h0
  exact (hb.cell (p := ⟨g, o + j, none⟩) hg).trans (h j u hu)
theorem row_keep {g o : Nat} {W W' : World} {f : Nat → Nat} (h : W.rangeAt g o (arL 16 f)) (hb : Below W.heap.size W W') : W'.rangeAt g o (arL 16 f) := by
  have e : arL 16 f = n8 (f 0) :: (arL 16 f).tail := rfl
  rw [e] at h ⊢
  exact range_keep h hb
theorem heldA {gA gB gK gX gY o : Nat} {f g k x y : Nat → Nat} {W1 W W' : World}
    (h : W.rangeAt gA 0 (arL 16 f) ∧ W.rangeAt gB 0 (arL 16 g) ∧ W.rangeAt gK 0 (arL 16 k) ∧ W.rangeAt gX o (arL 16 x) ∧ W.rangeAt gY o (arL 16 y) ∧ Base W1 W) (hb : Below W.heap.size W W') :
    W'.rangeAt gA 0 (arL 16 f) ∧ W'.rangeAt gB 0 (arL 16 g) ∧ W'.rangeAt gK 0 (arL 16 k) ∧ W'.rangeAt gX o (arL 16 x) ∧ W'.rangeAt gY o (arL 16 y) ∧ Base W1 W' :=
  ⟨row_keep h.1 hb, row_keep h.2.1 hb, row_keep h.2.2.1 hb, row_keep h.2.2.2.1 hb, row_keep h.2.2.2.2.1 hb, Base.step h.2.2.2.2.2 hb⟩

set_option maxHeartbeats 4000000 in
theorem kapart (f g : Nat → Nat) (r : Nat) (w : World) (hf : ∀ j, j < 16 → f j < 256) (hg : ∀ j, j < 16 → g j < 256) (hr : r < 256) (h : Boxes w) :
    Calls Tryd.prog 6 #[.agg (arL 16 f).toArray, .agg (arL 16 g).toArray, .int .u8 r] w fun e w' => e = .returned (.bool true) ∧ Below w.heap.size w w' := by
  have hz16 := zero16
  have hz176 := zero176e
  obtain ⟨n, hn⟩ : ∃ n : Nat, n = r % 11 := ⟨_, rfl⟩
  have hn11 : n < 11 := by omega
  have n1 : ((r : Int)).tmod 11 = (n : Int) := by rw [Int.tmod_eq_emod_of_nonneg (by omega)]; omega
  have n2 : (r : Int) % 11 = (n : Int) := by omega
  have i1 : (n : Int) < 11 := by omega
  obtain ⟨B, e1, e2⟩ : ∃ B : Bool, (∀ V : World, (Op.equalIn 10000 22 (.agg (arL 16 (rk f n)).toArray) (.agg (arL 16 (rk g n)).toArray)).run Tryd.prog V = .ok B V) ∧
      (∀ V : World, (Op.equalIn 10000 22 (.agg (arL 16 f).toArray) (.agg (arL 16 g).toArray)).run Tryd.prog V = .ok B V) := by
    by_cases hE : ∀ j, j < 16 → f j = g j
    · exact ⟨true, eq16_true (rk_congr hE n), eq16_true hE⟩
    · exact ⟨false, eq16_false (fun hh => hE (fun j hj => rk_inj n hh j hj)), eq16_false hE⟩
  have e0 := eq16_true (f := f) (g := f) (fun _ _ => rfl)
  have hgd := Tryd.eqg16
  have hkl : ∀ j, j < 16 → bkr f n j < 256 := bkr_lt n f hf
  have hix : ∀ V : World, (Instr.index 31 (.agg (arL 176 (ek (bkr f n))).toArray) (.int .i64 n)).run Tryd.prog V = .ok (.agg (arL 16 f).toArray) V := fun V => by
    have := run_index_row (P := Tryd.prog) (m := 16) Tryd.arr11 Tryd.arr16 (by kernel_rfl) (ek (bkr f n)) 176 n hn11 (by omega) V
    rwa [arL_ext (n := 16) (f := fun j => ek (bkr f n) (n * 16 + j)) (g := f) (fun j hj => by rw [Nat.mul_comm n 16, ek_rk _ n j hj, rk_bkr n f j hj])] at this
  have hrf := Lib.hid (arL_ext (n := 16) (f := fun j => ek f (n * 16 + j)) (g := rk f n) (fun j hj => by rw [Nat.mul_comm n 16, ek_rk f n j hj]))
  have hrg := Lib.hid (arL_ext (n := 16) (f := fun j => ek g (n * 16 + j)) (g := rk g n) (fun j hj => by rw [Nat.mul_comm n 16, ek_rk g n j hj]))
  have HN := Lib.hid hn11
  have HK := Lib.hid hkl
  have HF := Lib.hid hf
  have HGG := Lib.hid hg
  have HB := Lib.hid h
  clear hn hn11 hkl hf hg h
  obtain ⟨kA, hkA⟩ : ∃ kA : Array Value, (arL 16 f).toArray = kA := ⟨_, rfl⟩
  obtain ⟨kB, hkB⟩ : ∃ kB : Array Value, (arL 16 g).toArray = kB := ⟨_, rfl⟩
  obtain ⟨w1, hw1⟩ : ∃ w1 : World, w1 = w.alloc (.cells (arL 16 f).toArray 22) := ⟨_, rfl⟩
  have hs1 : w1.heap.size = w.heap.size + 1 := by rw [hw1]; simp
  have hb1 : Below w.heap.size w w1 := by rw [hw1]; exact (Below.refl _ _).alloc (Nat.le_refl _) _
  have hA1 : Ar w1 w.heap.size 16 f := by rw [hw1]; exact Ar.new w 16 _ _
  obtain ⟨w2, hw2⟩ : ∃ w2 : World, w2 = w1.alloc (.cells (arL 16 g).toArray 22) := ⟨_, rfl⟩
  have hs2 : w2.heap.size = w.heap.size + 2 := by rw [hw2]; simp [hs1]
  have hb2 : Below w.heap.size w w2 := by rw [hw2]; exact hb1.alloc (by omega) _
  have hA2 : Ar w2 w.heap.size 16 f := by rw [hw2]; exact hA1.alloc (by omega) _
  have hG2 : Ar w2 (w.heap.size + 1) 16 g := by rw [hw2, ← hs1]; exact Ar.new w1 16 _ _
  have HKA := Lib.hid hkA
  have HKB := Lib.hid hkB
  rw [hkA] at hw1
  rw [hkB] at hw2
  rw [hkA, hkB]
  clear hb1 hA1 hkA hkB
  go_enter Tryd.func6, Tryd.ntmps6
  go_upto_region 1 with fail
  rw [← hw1, ← hw2]
  clear hw1 hw2 hs1
  go_wp2_with fail
  refine (kawake _ (HB.out.keep hb2)).mono ?_
  rintro e w3 ⟨rfl, k3⟩
  have hA3 := hA2.to (by omega) k3
  have hG3 := hG2.to (by omega) k3
  have hb3 := hb2.trans (k3.mono hb2.size)
  clear hA2 hG2 hb2 k3 hs2
  go_wp2_with (refine wpList_load_ar rfl _ _ rfl _ _ _ rfl hA3 Tryd.arr16 (size16 _) ?_)
  refine (krestore n f HF.out _ (by have := HN.out; omega) (HB.out.keep hb3)).mono ?_
  rintro e w4 ⟨rfl, k4⟩
  have hA4 := hA3.to (by omega) k4
  have hG4 := hG3.to (by omega) k4
  have hb4 := hb3.trans (k4.mono hb3.size)
  clear hA3 hG3 hb3 k4
  obtain ⟨gK, hgK⟩ : ∃ gK : Nat, w4.heap.size = gK := ⟨_, rfl⟩
  have hlK : w.heap.size + 1 < gK := by rw [← hgK]; exact hG4.lt (by omega)
  have hA5 : Ar (w4.alloc (.cells (arL 16 fun _ => 0).toArray 22)) w.heap.size 16 f := hA4.alloc (by omega) _
  have hG5 : Ar (w4.alloc (.cells (arL 16 fun _ => 0).toArray 22)) (w.heap.size + 1) 16 g := hG4.alloc (by omega) _
  have hK5 : Ar (w4.alloc (.cells (arL 16 fun _ => 0).toArray 22)) gK 16 (fun _ => 0) := by rw [← hgK]; exact Ar.new w4 16 _ _
  have hb5 : Below w.heap.size w (w4.alloc (.cells (arL 16 fun _ => 0).toArray 22)) := hb4.alloc hb4.size _
  clear hA4 hG4 hb4
  go_upto_region 5 with (refine wpList_store_ar rfl _ _ _ rfl _ _ _ (bkr f n) rfl rfl hK5 (size16 _) ?_; intro w6 hK6 hb6 hs6 hk6)
  have hA6 := hk6 _ _ _ (by omega) hA5
  have hG6 := hk6 _ _ _ (by omega) hG5
  have hB6 := hb5.trans (hb6.mono (by omega))
  clear hA5 hG5 hK5 hb5 hb6 hs6 hk6 hgK
  try dsimp only [Act.put]
  go_wp2_with (refine wpList_load_ar rfl _ _ rfl _ _ _ rfl hA6 Tryd.arr16 (size16 _) ?_)
  refine (kexpand f HF.out _ (HB.out.keep hB6)).mono ?_
  rintro e w7 ⟨rfl, k7⟩
  have hA7 := hA6.to (by omega) k7
  have hG7 := hG6.to (by omega) k7
  have hK7 := hK6.to (by omega) k7
  have hB7 := hB6.trans (k7.mono hB6.size)
  clear hA6 hG6 hK6 hB6 k7
  obtain ⟨gX, hgX⟩ : ∃ gX : Nat, w7.heap.size = gX := ⟨_, rfl⟩
  have hlX : gK < gX := by rw [← hgX]; exact hK7.lt (by omega)
  have hA8 : Ar (w7.alloc (.cells (arL 176 fun _ => 0).toArray 31)) w.heap.size 16 f := hA7.alloc (by omega) _
  have hG8 : Ar (w7.alloc (.cells (arL 176 fun _ => 0).toArray 31)) (w.heap.size + 1) 16 g := hG7.alloc (by omega) _
  have hK8 : Ar (w7.alloc (.cells (arL 176 fun _ => 0).toArray 31)) gK 16 (bkr f n) := hK7.alloc (by omega) _
  have hX8 : Ar (w7.alloc (.cells (arL 176 fun _ => 0).toArray 31)) gX 176 (fun _ => 0) := by rw [← hgX]; exact Ar.new w7 176 _ _
  have hb8 : Below w.heap.size w (w7.alloc (.cells (arL 176 fun _ => 0).toArray 31)) := hB7.alloc hB7.size _
  clear hA7 hG7 hK7 hB7
  go_upto_region 6 with (refine wpList_store_ar rfl _ _ _ rfl _ _ _ (ek f) rfl rfl hX8 (size176e _) ?_; intro w9 hX9 hb9 hs9 hk9)
  have hA9 := hk9 _ _ _ (by omega) hA8
  have hG9 := hk9 _ _ _ (by omega) hG8
  have hK9 := hk9 _ _ _ (by omega) hK8
  have hB9 := hb8.trans (hb9.mono (by omega))
  clear hA8 hG8 hK8 hX8 hb8 hb9 hs9 hk9 hgX
  try dsimp only [Act.put]
  go_wp2_with (refine wpList_load_ar rfl _ _ rfl _ _ _ rfl hG9 Tryd.arr16 (size16 _) ?_)
  refine (kexpand g HGG.out _ (HB.out.keep hB9)).mono ?_
  rintro e w10 ⟨rfl, k10⟩
  have hA10 := hA9.to (by omega) k10
  have hG10 := hG9.to (by omega) k10
  have hK10 := hK9.to (by omega) k10
  have hX10 := hX9.to (by omega) k10
  have hB10 := hB9.trans (k10.mono hB9.size)
  clear hA9 hG9 hK9 hX9 hB9 k10
  obtain ⟨gY, hgY⟩ : ∃ gY : Nat, w10.heap.size = gY := ⟨_, rfl⟩
  have hlY : gX < gY := by rw [← hgY]; exact hX10.lt (by omega)
  have hA11 : Ar (w10.alloc (.cells (arL 176 fun _ => 0).toArray 31)) w.heap.size 16 f := hA10.alloc (by omega) _
  have hG11 : Ar (w10.alloc (.cells (arL 176 fun _ => 0).toArray 31)) (w.heap.size + 1) 16 g := hG10.alloc (by omega) _
  have hK11 : Ar (w10.alloc (.cells (arL 176 fun _ => 0).toArray 31)) gK 16 (bkr f n) := hK10.alloc (by omega) _
  have hX11 : Ar (w10.alloc (.cells (arL 176 fun _ => 0).toArray 31)) gX 176 (ek f) := hX10.alloc (by omega) _
  have hY11 : Ar (w10.alloc (.cells (arL 176 fun _ => 0).toArray 31)) gY 176 (fun _ => 0) := by rw [← hgY]; exact Ar.new w10 176 _ _
  have hb11 : Below w.heap.size w (w10.alloc (.cells (arL 176 fun _ => 0).toArray 31)) := hB10.alloc hB10.size _
  clear hA10 hG10 hK10 hX10 hB10
  go_upto_region 7 with (refine wpList_store_ar rfl _ _ _ rfl _ _ _ (ek g) rfl rfl hY11 (size176e _) ?_; intro w12 hY12 hb12 hs12 hk12)
  have hA12 := hk12 _ _ _ (by omega) hA11
  have hG12 := hk12 _ _ _ (by omega) hG11
  have hK12 := hk12 _ _ _ (by omega) hK11
  have hX12 := hk12 _ _ _ (by omega) hX11
  have hB12 := hb11.trans (hb12.mono (by omega))
  have rA := hA12.range
  have rG := hG12.range
  have rK := hK12.range
  have rX := hX12.rangeO (n * 16) 16 (by have := HN.out; omega)
  have rY := hY12.rangeO (n * 16) 16 (by have := HN.out; omega)
  rw [hrf.out] at rX
  rw [hrg.out] at rY
  clear hA11 hG11 hK11 hX11 hY11 hb11 hb12 hs12 hk12 hgY hA12 hG12 hK12 hX12 hY12
  dsimp only [Act.put]
  refine wp_region_held_drew (S := fun W => W.rangeAt w.heap.size 0 (arL 16 f) ∧ W.rangeAt (w.heap.size + 1) 0 (arL 16 g) ∧ W.rangeAt gK 0 (arL 16 (bkr f n)) ∧ W.rangeAt gX (n * 16) (arL 16 (rk f n)) ∧ W.rangeAt gY (n * 16) (arL 16 (rk g n)) ∧ Base w12 W) (by kernel_rfl) ⟨rA, rG, rK, rX, rY, (Base.refl _).drew⟩ (fun hHeld => ?_)
  clear rA rG rK rX rY
  refine wpAnyH_take (i := 0) (v := ?vk0) rfl (by kernel_rfl) (by kernel_rfl) (by kernel_rfl) (fun _ _ _ h => h) (Or.inl ⟨by rfl, ?hyk0⟩) (by assumption) ?restk0
  case hyk0 =>
    intro W hSw
    obtain ⟨q0, q1, q2, q3, q4, q5⟩ := hSw
    go_simp
    try with_reducible rfl
  simp only [Act.put, List.setIfInBounds_toArray, List.set_cons_zero, List.set_cons_succ, List.getElem_toArray, List.getElem_cons_zero]
  refine wpAnyH_take (i := 1) (v := ?vk1) rfl (by kernel_rfl) (by kernel_rfl) (by kernel_rfl) (fun _ _ _ h => h) (Or.inl ⟨by rfl, ?hyk1⟩) (by assumption) ?restk1
  case hyk1 =>
    intro W hSw
    obtain ⟨q0, q1, q2, q3, q4, q5⟩ := hSw
    go_simp
    try with_reducible rfl
  simp only [Act.put, List.setIfInBounds_toArray, List.set_cons_zero, List.set_cons_succ, List.getElem_toArray, List.getElem_cons_zero, List.getElem_cons_succ]
  refine wpAnyH_take (i := 2) (v := .agg (arL 16 (bkr f n)).toArray) rfl (by kernel_rfl) (by kernel_rfl) (by kernel_rfl) (fun _ _ _ h => h) (yieldsIf_load_mid (by rfl) _ _ rfl gK 0 rfl (arL 16 (bkr f n)) _ (fun W hSw => hSw.2.2.1) Tryd.arr16 rfl (size16 _)) (by assumption) ?_
  simp only [Act.put, List.setIfInBounds_toArray, List.set_cons_zero, List.set_cons_succ, List.getElem_toArray, List.getElem_cons_zero, List.getElem_cons_succ]
  refine wpAnyH_take (i := 4) (v := ?vk4) rfl (by kernel_rfl) (by kernel_rfl) (by kernel_rfl) (fun _ _ _ h => h) (Or.inl ⟨by rfl, ?hyk4⟩) (by assumption) ?restk4
  case hyk4 =>
    intro W hSw
    obtain ⟨q0, q1, q2, q3, q4, q5⟩ := hSw
    go_simp
    try with_reducible rfl
  simp only [Act.put, List.setIfInBounds_toArray, List.set_cons_zero, List.set_cons_succ, List.getElem_toArray, List.getElem_cons_zero, List.getElem_cons_succ]
  refine wpAnyH_take (i := 6) (v := .agg (arL 16 f).toArray) rfl (by kernel_rfl) (by kernel_rfl) (by kernel_rfl) (fun _ _ _ h => h) (yieldsIf_load_mid (by rfl) _ _ rfl w.heap.size 0 rfl (arL 16 f) _ (fun W hSw => hSw.1) Tryd.arr16 rfl (size16 _)) (by assumption) ?_
  simp only [Act.put, List.setIfInBounds_toArray, List.set_cons_zero, List.set_cons_succ, List.getElem_toArray, List.getElem_cons_zero, List.getElem_cons_succ]
  refine wpAnyH_ready (rs := [3]) (by kernel_rfl) (by simp) ?_
  refine AllReadyH.cons rfl (fun K hK => ?_) AllReadyH.nil
  go_simp
  refine (refexpand (bkr f n) HK.out _).mono ?_
  rintro e w13 ⟨rfl, hb6⟩
  go_wp2_with fail
  refine hK.out _ _ (heldA hHeld hb6) (fun hHeld => ?_)
  clear hK K hb6
  refine wpAnyH_take (i := 5) (v := ?vk5) rfl (by kernel_rfl) (by kernel_rfl) (by kernel_rfl) (fun _ _ _ h => h) (Or.inl ⟨by rfl, ?hyk5⟩) (by assumption) ?restk5
  case hyk5 =>
    intro W hSw
    obtain ⟨q0, q1, q2, q3, q4, q5⟩ := hSw
    go_simp
    try with_reducible rfl
  simp only [Act.put, List.setIfInBounds_toArray, List.set_cons_zero, List.set_cons_succ, List.getElem_toArray, List.getElem_cons_zero, List.getElem_cons_succ]
  refine wpAnyH_take (i := 7) (v := ?vk7) rfl (by kernel_rfl) (by kernel_rfl) (by kernel_rfl) (fun _ _ _ h => h) (Or.inl ⟨by rfl, ?hyk7⟩) (by assumption) ?restk7
  case hyk7 =>
    intro W hSw
    obtain ⟨q0, q1, q2, q3, q4, q5⟩ := hSw
    go_simp
    try with_reducible rfl
  simp only [Act.put, List.setIfInBounds_toArray, List.set_cons_zero, List.set_cons_succ, List.getElem_toArray, List.getElem_cons_zero, List.getElem_cons_succ]
  refine wpAnyH_take (i := 8) (v := ?vk8) rfl (by kernel_rfl) (by kernel_rfl) (by kernel_rfl) (fun _ _ _ h => h) (Or.inl ⟨by rfl, ?hyk8⟩) (by assumption) ?restk8
  case hyk8 =>
    intro W hSw
    obtain ⟨q0, q1, q2, q3, q4, q5⟩ := hSw
    go_simp
    try with_reducible rfl
  simp only [Act.put, List.setIfInBounds_toArray, List.set_cons_zero, List.set_cons_succ, List.getElem_toArray, List.getElem_cons_zero, List.getElem_cons_succ]
  refine wpAnyH_take (i := 9) (v := ?vk9) rfl (by kernel_rfl) (by kernel_rfl) (by kernel_rfl) (fun _ _ _ h => h) (Or.inl ⟨by rfl, ?hyk9⟩) (by assumption) ?restk9
  case hyk9 =>
    intro W hSw
    obtain ⟨q0, q1, q2, q3, q4, q5⟩ := hSw
    go_simp
    try with_reducible rfl
  simp only [Act.put, List.setIfInBounds_toArray, List.set_cons_zero, List.set_cons_succ, List.getElem_toArray, List.getElem_cons_zero, List.getElem_cons_succ]
  refine wpAnyH_take (i := 10) (v := ?vk10) rfl (by kernel_rfl) (by kernel_rfl) (by kernel_rfl) (fun _ _ _ h => h) (Or.inl ⟨by rfl, ?hyk10⟩) (by assumption) ?restk10
  case hyk10 =>
    intro W hSw
    obtain ⟨q0, q1, q2, q3, q4, q5⟩ := hSw
    go_simp
    try with_reducible rfl
  simp only [Act.put, List.setIfInBounds_toArray, List.set_cons_zero, List.set_cons_succ, List.getElem_toArray, List.getElem_cons_zero, List.getElem_cons_succ]
  refine wpAnyH_take (i := 11) (v := ?vk11) rfl (by kernel_rfl) (by kernel_rfl) (by kernel_rfl) (fun _ _ _ h => h) (Or.inl ⟨by rfl, ?hyk11⟩) (by assumption) ?restk11
  case hyk11 =>
    intro W hSw
    obtain ⟨q0, q1, q2, q3, q4, q5⟩ := hSw
    go_simp
    try with_reducible rfl
  simp only [Act.put, List.setIfInBounds_toArray, List.set_cons_zero, List.set_cons_succ, List.getElem_toArray, List.getElem_cons_zero, List.getElem_cons_succ]
  refine wpAnyH_take (i := 12) (v := .agg (arL 16 (rk f n)).toArray) rfl (by kernel_rfl) (by kernel_rfl) (by kernel_rfl) (fun _ _ _ h => h) (yieldsIf_load_mid (by rfl) _ _ rfl gX (n * 16) rfl (arL 16 (rk f n)) _ (fun W hSw => hSw.2.2.2.1) Tryd.arr16 rfl (size16 _)) (by assumption) ?_
  simp only [Act.put, List.setIfInBounds_toArray, List.set_cons_zero, List.set_cons_succ, List.getElem_toArray, List.getElem_cons_zero, List.getElem_cons_succ]
  refine wpAnyH_take (i := 13) (v := ?vk13) rfl (by kernel_rfl) (by kernel_rfl) (by kernel_rfl) (fun _ _ _ h => h) (Or.inl ⟨by rfl, ?hyk13⟩) (by assumption) ?restk13
  case hyk13 =>
    intro W hSw
    obtain ⟨q0, q1, q2, q3, q4, q5⟩ := hSw
    go_simp
    try with_reducible rfl
  simp only [Act.put, List.setIfInBounds_toArray, List.set_cons_zero, List.set_cons_succ, List.getElem_toArray, List.getElem_cons_zero, List.getElem_cons_succ]
  refine wpAnyH_take (i := 14) (v := ?vk14) rfl (by kernel_rfl) (by kernel_rfl) (by kernel_rfl) (fun _ _ _ h => h) (Or.inl ⟨by rfl, ?hyk14⟩) (by assumption) ?restk14
  case hyk14 =>
    intro W hSw
    obtain ⟨q0, q1, q2, q3, q4, q5⟩ := hSw
    go_simp
    try with_reducible rfl
  simp only [Act.put, List.setIfInBounds_toArray, List.set_cons_zero, List.set_cons_succ, List.getElem_toArray, List.getElem_cons_zero, List.getElem_cons_succ]
  refine wpAnyH_take (i := 15) (v := .agg (arL 16 (rk g n)).toArray) rfl (by kernel_rfl) (by kernel_rfl) (by kernel_rfl) (fun _ _ _ h => h) (yieldsIf_load_mid (by rfl) _ _ rfl gY (n * 16) rfl (arL 16 (rk g n)) _ (fun W hSw => hSw.2.2.2.2.1) Tryd.arr16 rfl (size16 _)) (by assumption) ?_
  simp only [Act.put, List.setIfInBounds_toArray, List.set_cons_zero, List.set_cons_succ, List.getElem_toArray, List.getElem_cons_zero, List.getElem_cons_succ]
  refine wpAnyH_take (i := 16) (v := ?vk16) rfl (by kernel_rfl) (by kernel_rfl) (by kernel_rfl) (fun _ _ _ h => h) (Or.inl ⟨by rfl, ?hyk16⟩) (by assumption) ?restk16
  case hyk16 =>
    intro W hSw
    obtain ⟨q0, q1, q2, q3, q4, q5⟩ := hSw
    go_simp
    try with_reducible rfl
  simp only [Act.put, List.setIfInBounds_toArray, List.set_cons_zero, List.set_cons_succ, List.getElem_toArray, List.getElem_cons_zero, List.getElem_cons_succ]
  refine wpAnyH_take (i := 17) (v := .agg (arL 16 f).toArray) rfl (by kernel_rfl) (by kernel_rfl) (by kernel_rfl) (fun _ _ _ h => h) (yieldsIf_load_mid (by rfl) _ _ rfl w.heap.size 0 rfl (arL 16 f) _ (fun W hSw => hSw.1) Tryd.arr16 rfl (size16 _)) (by assumption) ?_
  simp only [Act.put, List.setIfInBounds_toArray, List.set_cons_zero, List.set_cons_succ, List.getElem_toArray, List.getElem_cons_zero, List.getElem_cons_succ]
  refine wpAnyH_take (i := 18) (v := .agg (arL 16 g).toArray) rfl (by kernel_rfl) (by kernel_rfl) (by kernel_rfl) (fun _ _ _ h => h) (yieldsIf_load_mid (by rfl) _ _ rfl (w.heap.size + 1) 0 rfl (arL 16 g) _ (fun W hSw => hSw.2.1) Tryd.arr16 rfl (size16 _)) (by assumption) ?_
  simp only [Act.put, List.setIfInBounds_toArray, List.set_cons_zero, List.set_cons_succ, List.getElem_toArray, List.getElem_cons_zero, List.getElem_cons_succ]
  refine wpAnyH_take (i := 19) (v := ?vk19) rfl (by kernel_rfl) (by kernel_rfl) (by kernel_rfl) (fun _ _ _ h => h) (Or.inl ⟨by rfl, ?hyk19⟩) (by assumption) ?restk19
  case hyk19 =>
    intro W hSw
    obtain ⟨q0, q1, q2, q3, q4, q5⟩ := hSw
    go_simp
    try with_reducible rfl
  simp only [Act.put, List.setIfInBounds_toArray, List.set_cons_zero, List.set_cons_succ, List.getElem_toArray, List.getElem_cons_zero, List.getElem_cons_succ]
  refine wpAnyH_take (i := 20) (v := ?vk20) rfl (by kernel_rfl) (by kernel_rfl) (by kernel_rfl) (fun _ _ _ h => h) (Or.inl ⟨by rfl, ?hyk20⟩) (by assumption) ?restk20
  case hyk20 =>
    intro W hSw
    obtain ⟨q0, q1, q2, q3, q4, q5⟩ := hSw
    go_simp
    try with_reducible rfl
  simp only [Act.put, List.setIfInBounds_toArray, List.set_cons_zero, List.set_cons_succ, List.getElem_toArray, List.getElem_cons_zero, List.getElem_cons_succ]
  refine wpAnyH_take (i := 21) (v := ?vk21) rfl (by kernel_rfl) (by kernel_rfl) (by kernel_rfl) (fun _ _ _ h => h) (Or.inl ⟨by rfl, ?hyk21⟩) (by assumption) ?restk21
  case hyk21 =>
    intro W hSw
    obtain ⟨q0, q1, q2, q3, q4, q5⟩ := hSw
    go_simp
    try with_reducible rfl
  simp only [Act.put, List.setIfInBounds_toArray, List.set_cons_zero, List.set_cons_succ, List.getElem_toArray, List.getElem_cons_zero, List.getElem_cons_succ]
  refine wpAnyH_take (i := 22) (v := ?vk22) rfl (by kernel_rfl) (by kernel_rfl) (by kernel_rfl) (fun _ _ _ h => h) (Or.inl ⟨by rfl, ?hyk22⟩) (by assumption) ?restk22
  case hyk22 =>
    intro W hSw
    obtain ⟨q0, q1, q2, q3, q4, q5⟩ := hSw
    go_simp
    try with_reducible rfl
  simp only [Act.put, List.setIfInBounds_toArray, List.set_cons_zero, List.set_cons_succ, List.getElem_toArray, List.getElem_cons_zero, List.getElem_cons_succ]
  refine wpAnyH_done (by kernel_rfl) ?_ _
  have hH : Base w12 _ := hHeld.2.2.2.2.2
  clear hHeld
  go_wp2_with fail
  go_ret
  exact ⟨rfl, hB12.trans (Below.mono hH hB12.size)⟩
end Go.Proofs.YtdfponbfgcfpdaaDoor
