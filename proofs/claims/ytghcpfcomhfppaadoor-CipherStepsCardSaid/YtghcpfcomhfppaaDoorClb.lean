/-
  The walk of the law CipherSteps of layer 6: for every block and round key it returns true, and writes nothing that was there.
-/
import Derived.Test.YtghcpfcomhfppaaDoorCxl
import Derived.Test.YtghcpfcomhfppaaDoorCaw
import Derived.Test.YtghcpfcomhfppaaDoorEqs
import Derived.Deep.RegionHeld3
namespace Go.Proofs.YtghcpfcomhfppaaDoor
open Go.RowKit
set_option linter.unusedVariables false
set_option maxRecDepth 100000

set_option maxHeartbeats 8000000 in
theorem csteps (b r : Nat → Nat) (w : World) (hb : ∀ j, j < 16 → b j < 256) (hr : ∀ j, j < 16 → r j < 256) (h : Boxes w) :
    Calls Tryd.prog 4 #[.agg (arL 16 b).toArray, .agg (arL 16 r).toArray] w fun e w' => e = .returned (.bool true) ∧ Below w.heap.size w w' := by
  have hz := zero16b
  have hzG := zeroG
  have hz256 := zero256
  have hzK := zeroK
  have hz176 := zero176e
  have HX := Lib.hid h
  have Hb := Lib.hid (show B16 b from hb)
  have Hr := Lib.hid (show B16 r from hr)
  obtain ⟨kb, hkb⟩ : ∃ k : Array Value, (arL 16 b).toArray = k := ⟨_, rfl⟩
  obtain ⟨kr, hkr⟩ : ∃ k : Array Value, (arL 16 r).toArray = k := ⟨_, rfl⟩
  obtain ⟨w1, hw1⟩ : ∃ V : World, V = w.alloc (.cells (arL 16 b).toArray 22) := ⟨_, rfl⟩
  have hs1 : w1.heap.size = w.heap.size + 1 := by rw [hw1]; simp
  have hBw1 : Below w.heap.size w w1 := by rw [hw1]; exact (Below.refl _ _).alloc (Nat.le_refl _) _
  have hbw1 : Ar w1 w.heap.size 16 b := by rw [hw1]; exact Ar.new w 16 b _
  obtain ⟨w2, hw2⟩ : ∃ V : World, V = w1.alloc (.cells (arL 16 r).toArray 22) := ⟨_, rfl⟩
  have hs2 : w2.heap.size = w.heap.size + 2 := by rw [hw2]; simp [hs1]
  have hBw2 : Below w.heap.size w w2 := by rw [hw2]; exact hBw1.alloc (by omega) _
  have hbw2 := hbw1.alloc (by omega) (.cells (arL 16 r).toArray 22)
  rw [← hw2] at hbw2
  have hrw2 : Ar w2 (w.heap.size + 1) 16 r := by rw [hw2, ← hs1]; exact Ar.new w1 16 r _
  rw [hkb] at hw1
  rw [hkr] at hw2
  rw [hkb, hkr]
  clear hkb hkr h hb hr
  go_enter Tryd.func4, Tryd.ntmps4
  go_upto_region 1 with fail
  rw [← hw1, ← hw2]
  clear hw1 hw2
  try simp only [Nat.add_assoc, Nat.reduceAdd]
  obtain ⟨gb, hgb⟩ : ∃ g : Nat, w.heap.size = g := ⟨_, rfl⟩
  obtain ⟨gr, hgr⟩ : ∃ g : Nat, w.heap.size + 1 = g := ⟨_, rfl⟩
  rw [hgb] at hbw2
  rw [hgr] at hrw2
  try rw [hgr]
  have hlb : w.heap.size ≤ gb := by omega
  have hlr : w.heap.size ≤ gr := by omega
  have hltr : gb < gr := by omega
  clear hgr hs1 hs2
  go_wp2_with fail
  refine (cawake _ (HX.out.keep hBw2)).mono ?_
  rintro e x1 ⟨rfl, hq⟩
  have hbx1 := hbw2.to (by omega) hq
  have hrx1 := hrw2.to (by omega) hq
  have hBx1 := hBw2.trans (hq.mono hBw2.size)
  clear hq hbw2 hrw2 hBw2
  go_wp2_with (first | (refine wpList_load_ar rfl _ _ rfl _ _ _ rfl hbx1 Tryd.arr16b (size16b _) ?_))
  refine (refOf b _).mono ?_
  rintro e x2 ⟨rfl, hq⟩
  have hbx2 := hbx1.to (by omega) hq
  have hrx2 := hrx1.to (by omega) hq
  have hBx2 := hBx1.trans (hq.mono hBx1.size)
  clear hq hbx1 hrx1 hBx1
  obtain ⟨gg, hgg⟩ : ∃ g : Nat, x2.heap.size = g := ⟨_, rfl⟩
  have hlgg : gr < gg := by rw [← hgg]; exact hrx2.lt (by omega)
  have hbx3a := hbx2.alloc (by omega) (.cells (arL 16 fun _ => 0).toArray 34)
  have hrx3a := hrx2.alloc (by omega) (.cells (arL 16 fun _ => 0).toArray 34)
  have hgx3a := Ar.new x2 16 (fun _ => 0) 34
  have hBx3a := hBx2.alloc hBx2.size (.cells (arL 16 fun _ => 0).toArray 34)
  rw [hgg] at hgx3a
  clear hbx2 hrx2 hBx2
  go_upto_region 4 with (first | (refine wpList_store_ar rfl _ _ _ rfl _ _ _ (tr b) rfl rfl hgx3a (sizeG _) ?_; intro x3 hgx3 belx3 sizx3 keex3) | fail)
  have hbx3 := keex3 _ _ _ (by omega) hbx3a
  have hrx3 := keex3 _ _ _ (by omega) hrx3a
  have hBx3 := hBx3a.trans (belx3.mono (by omega))
  clear hbx3a hrx3a hgx3a hBx3a belx3 sizx3 keex3 hgg
  try dsimp only [Act.put]
  go_wp2_with fail
  refine (reftable _).mono ?_
  rintro e x4 ⟨rfl, hq⟩
  have hbx4 := hbx3.to (by omega) hq
  have hrx4 := hrx3.to (by omega) hq
  have hgx4 := hgx3.to (by omega) hq
  have hBx4 := hBx3.trans (hq.mono hBx3.size)
  clear hq hbx3 hrx3 hgx3 hBx3
  obtain ⟨gt, hgt⟩ : ∃ g : Nat, x4.heap.size = g := ⟨_, rfl⟩
  have hlgt : gg < gt := by rw [← hgt]; exact hgx4.lt (by omega)
  have hbx5a := hbx4.alloc (by omega) (.cells (arL 256 fun _ => 0).toArray 27)
  have hrx5a := hrx4.alloc (by omega) (.cells (arL 256 fun _ => 0).toArray 27)
  have hgx5a := hgx4.alloc (by omega) (.cells (arL 256 fun _ => 0).toArray 27)
  have htx5a := Ar.new x4 256 (fun _ => 0) 27
  have hBx5a := hBx4.alloc hBx4.size (.cells (arL 256 fun _ => 0).toArray 27)
  rw [hgt] at htx5a
  clear hbx4 hrx4 hgx4 hBx4
  go_upto_region 5 with (first | (refine wpList_store_ar rfl _ _ _ rfl _ _ _ (sb) rfl rfl htx5a (size_arL _) ?_; intro x5 htx5 belx5 sizx5 keex5) | fail)
  have hbx5 := keex5 _ _ _ (by omega) hbx5a
  have hrx5 := keex5 _ _ _ (by omega) hrx5a
  have hgx5 := keex5 _ _ _ (by omega) hgx5a
  have hBx5 := hBx5a.trans (belx5.mono (by omega))
  clear hbx5a hrx5a hgx5a htx5a hBx5a belx5 sizx5 keex5 hgt
  try dsimp only [Act.put]
  go_wp2_with (first | (refine wpList_load_ar rfl _ _ rfl _ _ _ rfl hbx5 Tryd.arr16b (size16b _) ?_))
  refine (csub b _ Hb.out (HX.out.keep hBx5)).mono ?_
  rintro e x6 ⟨rfl, hq⟩
  have hbx6 := hbx5.to (by omega) hq
  have hrx6 := hrx5.to (by omega) hq
  have hgx6 := hgx5.to (by omega) hq
  have htx6 := htx5.to (by omega) hq
  have hBx6 := hBx5.trans (hq.mono hBx5.size)
  clear hq hbx5 hrx5 hgx5 htx5 hBx5
  obtain ⟨gs, hgs⟩ : ∃ g : Nat, x6.heap.size = g := ⟨_, rfl⟩
  have hlgs : gt < gs := by rw [← hgs]; exact htx6.lt (by omega)
  have hbx7a := hbx6.alloc (by omega) (.cells (arL 16 fun _ => 0).toArray 22)
  have hrx7a := hrx6.alloc (by omega) (.cells (arL 16 fun _ => 0).toArray 22)
  have hgx7a := hgx6.alloc (by omega) (.cells (arL 16 fun _ => 0).toArray 22)
  have htx7a := htx6.alloc (by omega) (.cells (arL 16 fun _ => 0).toArray 22)
  have hsx7a := Ar.new x6 16 (fun _ => 0) 22
  have hBx7a := hBx6.alloc hBx6.size (.cells (arL 16 fun _ => 0).toArray 22)
  rw [hgs] at hsx7a
  clear hbx6 hrx6 hgx6 htx6 hBx6
  go_upto_region 6 with (first | (refine wpList_store_ar rfl _ _ _ rfl _ _ _ (suF b) rfl rfl hsx7a (size16b _) ?_; intro x7 hsx7 belx7 sizx7 keex7) | fail)
  have hbx7 := keex7 _ _ _ (by omega) hbx7a
  have hrx7 := keex7 _ _ _ (by omega) hrx7a
  have hgx7 := keex7 _ _ _ (by omega) hgx7a
  have htx7 := keex7 _ _ _ (by omega) htx7a
  have hBx7 := hBx7a.trans (belx7.mono (by omega))
  clear hbx7a hrx7a hgx7a htx7a hsx7a hBx7a belx7 sizx7 keex7 hgs
  try dsimp only [Act.put]
  go_wp2_with (first | (refine wpList_load_ar rfl _ _ rfl _ _ _ rfl hbx7 Tryd.arr16b (size16b _) ?_))
  refine (cshift b _).mono ?_
  rintro e x8 ⟨rfl, hq⟩
  have hbx8 := hbx7.to (by omega) hq
  have hrx8 := hrx7.to (by omega) hq
  have hgx8 := hgx7.to (by omega) hq
  have htx8 := htx7.to (by omega) hq
  have hsx8 := hsx7.to (by omega) hq
  have hBx8 := hBx7.trans (hq.mono hBx7.size)
  clear hq hbx7 hrx7 hgx7 htx7 hsx7 hBx7
  obtain ⟨gh, hgh⟩ : ∃ g : Nat, x8.heap.size = g := ⟨_, rfl⟩
  have hlgh : gs < gh := by rw [← hgh]; exact hsx8.lt (by omega)
  have hbx9a := hbx8.alloc (by omega) (.cells (arL 16 fun _ => 0).toArray 22)
  have hrx9a := hrx8.alloc (by omega) (.cells (arL 16 fun _ => 0).toArray 22)
  have hgx9a := hgx8.alloc (by omega) (.cells (arL 16 fun _ => 0).toArray 22)
  have htx9a := htx8.alloc (by omega) (.cells (arL 16 fun _ => 0).toArray 22)
  have hsx9a := hsx8.alloc (by omega) (.cells (arL 16 fun _ => 0).toArray 22)
  have hhx9a := Ar.new x8 16 (fun _ => 0) 22
  have hBx9a := hBx8.alloc hBx8.size (.cells (arL 16 fun _ => 0).toArray 22)
  rw [hgh] at hhx9a
  clear hbx8 hrx8 hgx8 htx8 hsx8 hBx8
  go_upto_region 7 with (first | (refine wpList_store_ar rfl _ _ _ rfl _ _ _ (shF b) rfl rfl hhx9a (size16b _) ?_; intro x9 hhx9 belx9 sizx9 keex9) | fail)
  have hbx9 := keex9 _ _ _ (by omega) hbx9a
  have hrx9 := keex9 _ _ _ (by omega) hrx9a
  have hgx9 := keex9 _ _ _ (by omega) hgx9a
  have htx9 := keex9 _ _ _ (by omega) htx9a
  have hsx9 := keex9 _ _ _ (by omega) hsx9a
  have hBx9 := hBx9a.trans (belx9.mono (by omega))
  clear hbx9a hrx9a hgx9a htx9a hsx9a hhx9a hBx9a belx9 sizx9 keex9 hgh
  try dsimp only [Act.put]
  go_wp2_with (first | (refine wpList_load_ar rfl _ _ rfl _ _ _ rfl hbx9 Tryd.arr16b (size16b _) ?_))
  refine (cmix b _ Hb.out).mono ?_
  rintro e x10 ⟨rfl, hq⟩
  have hbx10 := hbx9.to (by omega) hq
  have hrx10 := hrx9.to (by omega) hq
  have hgx10 := hgx9.to (by omega) hq
  have htx10 := htx9.to (by omega) hq
  have hsx10 := hsx9.to (by omega) hq
  have hhx10 := hhx9.to (by omega) hq
  have hBx10 := hBx9.trans (hq.mono hBx9.size)
  clear hq hbx9 hrx9 hgx9 htx9 hsx9 hhx9 hBx9
  obtain ⟨gm, hgm⟩ : ∃ g : Nat, x10.heap.size = g := ⟨_, rfl⟩
  have hlgm : gh < gm := by rw [← hgm]; exact hhx10.lt (by omega)
  have hbx11a := hbx10.alloc (by omega) (.cells (arL 16 fun _ => 0).toArray 22)
  have hrx11a := hrx10.alloc (by omega) (.cells (arL 16 fun _ => 0).toArray 22)
  have hgx11a := hgx10.alloc (by omega) (.cells (arL 16 fun _ => 0).toArray 22)
  have htx11a := htx10.alloc (by omega) (.cells (arL 16 fun _ => 0).toArray 22)
  have hsx11a := hsx10.alloc (by omega) (.cells (arL 16 fun _ => 0).toArray 22)
  have hhx11a := hhx10.alloc (by omega) (.cells (arL 16 fun _ => 0).toArray 22)
  have hmx11a := Ar.new x10 16 (fun _ => 0) 22
  have hBx11a := hBx10.alloc hBx10.size (.cells (arL 16 fun _ => 0).toArray 22)
  rw [hgm] at hmx11a
  clear hbx10 hrx10 hgx10 htx10 hsx10 hhx10 hBx10
  go_upto_region 8 with (first | (refine wpList_store_ar rfl _ _ _ rfl _ _ _ (miF b) rfl rfl hmx11a (size16b _) ?_; intro x11 hmx11 belx11 sizx11 keex11) | fail)
  have hbx11 := keex11 _ _ _ (by omega) hbx11a
  have hrx11 := keex11 _ _ _ (by omega) hrx11a
  have hgx11 := keex11 _ _ _ (by omega) hgx11a
  have htx11 := keex11 _ _ _ (by omega) htx11a
  have hsx11 := keex11 _ _ _ (by omega) hsx11a
  have hhx11 := keex11 _ _ _ (by omega) hhx11a
  have hBx11 := hBx11a.trans (belx11.mono (by omega))
  clear hbx11a hrx11a hgx11a htx11a hsx11a hhx11a hmx11a hBx11a belx11 sizx11 keex11 hgm
  try dsimp only [Act.put]
  have heq := fun X => eq16_true (f := X) (g := X) (fun _ _ => rfl)
  have hgd := Tryd.eqg16
  refine wp_region_held_drew (S := fun W => Ar W gb 16 (b) ∧ Ar W gr 16 (r) ∧ Ar W gg 16 (tr b) ∧ Ar W gt 256 (sb) ∧ Ar W gs 16 (suF b) ∧ Ar W gh 16 (shF b) ∧ Ar W gm 16 (miF b) ∧ Below w.heap.size w W) (by kernel_rfl) ⟨hbx11.drew, hrx11.drew, hgx11.drew, htx11.drew, hsx11.drew, hhx11.drew, hmx11.drew, hBx11.drew⟩ (fun hHeld => ?_)
  clear hbx11 hrx11 hgx11 htx11 hsx11 hhx11 hmx11 hBx11
  refine wpAnyH_take (i := 0) (v := .agg (arL 16 (suF b)).toArray) rfl (by kernel_rfl) (by kernel_rfl) (by kernel_rfl) (fun _ _ _ h => h) (yieldsIf_load_mid (by rfl) _ _ rfl gs 0 rfl (arL 16 (suF b)) _ (fun W hSw => hSw.2.2.2.2.1.range) Tryd.arr16b rfl (size16b _)) (by assumption) ?_
  simp only [Act.put, List.setIfInBounds_toArray, List.set_cons_zero, List.set_cons_succ, List.getElem_toArray, List.getElem_cons_zero]
  refine wpAnyH_take (i := 1) (v := .agg (arL 16 (tr b)).toArray) rfl (by kernel_rfl) (by kernel_rfl) (by kernel_rfl) (fun _ _ _ h => h) (yieldsIf_load_mid (by rfl) _ _ rfl gg 0 rfl (arL 16 (tr b)) _ (fun W hSw => hSw.2.2.1.range) Tryd.arrG rfl (sizeG _)) (by assumption) ?_
  simp only [Act.put, List.setIfInBounds_toArray, List.set_cons_zero, List.set_cons_succ, List.getElem_toArray, List.getElem_cons_zero, List.getElem_cons_succ]
  refine wpAnyH_take (i := 2) (v := .agg (arL 256 (sb)).toArray) rfl (by kernel_rfl) (by kernel_rfl) (by kernel_rfl) (fun _ _ _ h => h) (yieldsIf_load_mid (by rfl) _ _ rfl gt 0 rfl (arL 256 (sb)) _ (fun W hSw => hSw.2.2.2.1.range) Tryd.arr256 rfl (size_arL _)) (by assumption) ?_
  simp only [Act.put, List.setIfInBounds_toArray, List.set_cons_zero, List.set_cons_succ, List.getElem_toArray, List.getElem_cons_zero, List.getElem_cons_succ]
  refine wpAnyH_ready (rs := [3]) (by kernel_rfl) (by simp) ?_
  refine AllReadyH.cons rfl (fun K hK => ?_) AllReadyH.nil
  go_simp
  refine (rSub b _ Hb.out).mono ?_
  rintro e y11 ⟨rfl, hq⟩
  go_wp2_with fail
  refine hK.out _ _ ⟨(hHeld.1).to (by omega) hq, (hHeld.2.1).to (by omega) hq, (hHeld.2.2.1).to (by omega) hq, (hHeld.2.2.2.1).to (by omega) hq, (hHeld.2.2.2.2.1).to (by omega) hq, (hHeld.2.2.2.2.2.1).to (by omega) hq, (hHeld.2.2.2.2.2.2.1).to (by omega) hq, (hHeld.2.2.2.2.2.2.2).trans (hq.mono (hHeld.2.2.2.2.2.2.2).size)⟩ (fun hHeld2 => ?_)
  clear hK K hHeld hq
  have hHeld := hHeld2
  clear hHeld2
  try simp only [Act.put, List.setIfInBounds_toArray, List.set_cons_zero, List.set_cons_succ, List.getElem_toArray, List.getElem_cons_zero, List.getElem_cons_succ]
  refine wpAnyH_ready (rs := [4]) (by kernel_rfl) (by simp) ?_
  refine AllReadyH.cons rfl (fun K hK => ?_) AllReadyH.nil
  go_simp
  refine (rBlock (suF b) _).mono ?_
  rintro e y12 ⟨rfl, hq⟩
  go_wp2_with fail
  refine hK.out _ _ ⟨(hHeld.1).to (by omega) hq, (hHeld.2.1).to (by omega) hq, (hHeld.2.2.1).to (by omega) hq, (hHeld.2.2.2.1).to (by omega) hq, (hHeld.2.2.2.2.1).to (by omega) hq, (hHeld.2.2.2.2.2.1).to (by omega) hq, (hHeld.2.2.2.2.2.2.1).to (by omega) hq, (hHeld.2.2.2.2.2.2.2).trans (hq.mono (hHeld.2.2.2.2.2.2.2).size)⟩ (fun hHeld2 => ?_)
  clear hK K hHeld hq
  have hHeld := hHeld2
  clear hHeld2
  try simp only [Act.put, List.setIfInBounds_toArray, List.set_cons_zero, List.set_cons_succ, List.getElem_toArray, List.getElem_cons_zero, List.getElem_cons_succ]
  refine wpAnyH_take (i := 5) (v := ?vq13) rfl (by kernel_rfl) (by kernel_rfl) (by kernel_rfl) (fun _ _ _ h => h) (Or.inl ⟨by rfl, ?hyq13⟩) (by assumption) ?restq13
  case hyq13 =>
    intro W hSw
    go_simp
    try with_reducible rfl
  simp only [Act.put, List.setIfInBounds_toArray, List.set_cons_zero, List.set_cons_succ, List.getElem_toArray, List.getElem_cons_zero, List.getElem_cons_succ]
  refine wpAnyH_take (i := 6) (v := ?vq14) rfl (by kernel_rfl) (by kernel_rfl) (by kernel_rfl) (fun _ _ _ h => h) (Or.inl ⟨by rfl, ?hyq14⟩) (by assumption) ?restq14
  case hyq14 =>
    intro W hSw
    go_simp
    try with_reducible rfl
  simp only [Act.put, List.setIfInBounds_toArray, List.set_cons_zero, List.set_cons_succ, List.getElem_toArray, List.getElem_cons_zero, List.getElem_cons_succ]
  refine wpAnyH_take (i := 7) (v := .agg (arL 16 (shF b)).toArray) rfl (by kernel_rfl) (by kernel_rfl) (by kernel_rfl) (fun _ _ _ h => h) (yieldsIf_load_mid (by rfl) _ _ rfl gh 0 rfl (arL 16 (shF b)) _ (fun W hSw => hSw.2.2.2.2.2.1.range) Tryd.arr16b rfl (size16b _)) (by assumption) ?_
  simp only [Act.put, List.setIfInBounds_toArray, List.set_cons_zero, List.set_cons_succ, List.getElem_toArray, List.getElem_cons_zero, List.getElem_cons_succ]
  refine wpAnyH_take (i := 8) (v := .agg (arL 16 (tr b)).toArray) rfl (by kernel_rfl) (by kernel_rfl) (by kernel_rfl) (fun _ _ _ h => h) (yieldsIf_load_mid (by rfl) _ _ rfl gg 0 rfl (arL 16 (tr b)) _ (fun W hSw => hSw.2.2.1.range) Tryd.arrG rfl (sizeG _)) (by assumption) ?_
  simp only [Act.put, List.setIfInBounds_toArray, List.set_cons_zero, List.set_cons_succ, List.getElem_toArray, List.getElem_cons_zero, List.getElem_cons_succ]
  refine wpAnyH_ready (rs := [9]) (by kernel_rfl) (by simp) ?_
  refine AllReadyH.cons rfl (fun K hK => ?_) AllReadyH.nil
  go_simp
  refine (rShift b _ Hb.out).mono ?_
  rintro e y15 ⟨rfl, hq⟩
  go_wp2_with fail
  refine hK.out _ _ ⟨(hHeld.1).to (by omega) hq, (hHeld.2.1).to (by omega) hq, (hHeld.2.2.1).to (by omega) hq, (hHeld.2.2.2.1).to (by omega) hq, (hHeld.2.2.2.2.1).to (by omega) hq, (hHeld.2.2.2.2.2.1).to (by omega) hq, (hHeld.2.2.2.2.2.2.1).to (by omega) hq, (hHeld.2.2.2.2.2.2.2).trans (hq.mono (hHeld.2.2.2.2.2.2.2).size)⟩ (fun hHeld2 => ?_)
  clear hK K hHeld hq
  have hHeld := hHeld2
  clear hHeld2
  try simp only [Act.put, List.setIfInBounds_toArray, List.set_cons_zero, List.set_cons_succ, List.getElem_toArray, List.getElem_cons_zero, List.getElem_cons_succ]
  refine wpAnyH_ready (rs := [10]) (by kernel_rfl) (by simp) ?_
  refine AllReadyH.cons rfl (fun K hK => ?_) AllReadyH.nil
  go_simp
  refine (rBlock (shF b) _).mono ?_
  rintro e y16 ⟨rfl, hq⟩
  go_wp2_with fail
  refine hK.out _ _ ⟨(hHeld.1).to (by omega) hq, (hHeld.2.1).to (by omega) hq, (hHeld.2.2.1).to (by omega) hq, (hHeld.2.2.2.1).to (by omega) hq, (hHeld.2.2.2.2.1).to (by omega) hq, (hHeld.2.2.2.2.2.1).to (by omega) hq, (hHeld.2.2.2.2.2.2.1).to (by omega) hq, (hHeld.2.2.2.2.2.2.2).trans (hq.mono (hHeld.2.2.2.2.2.2.2).size)⟩ (fun hHeld2 => ?_)
  clear hK K hHeld hq
  have hHeld := hHeld2
  clear hHeld2
  try simp only [Act.put, List.setIfInBounds_toArray, List.set_cons_zero, List.set_cons_succ, List.getElem_toArray, List.getElem_cons_zero, List.getElem_cons_succ]
  refine wpAnyH_take (i := 11) (v := ?vq17) rfl (by kernel_rfl) (by kernel_rfl) (by kernel_rfl) (fun _ _ _ h => h) (Or.inl ⟨by rfl, ?hyq17⟩) (by assumption) ?restq17
  case hyq17 =>
    intro W hSw
    go_simp
    try with_reducible rfl
  simp only [Act.put, List.setIfInBounds_toArray, List.set_cons_zero, List.set_cons_succ, List.getElem_toArray, List.getElem_cons_zero, List.getElem_cons_succ]
  refine wpAnyH_take (i := 12) (v := ?vq18) rfl (by kernel_rfl) (by kernel_rfl) (by kernel_rfl) (fun _ _ _ h => h) (Or.inl ⟨by rfl, ?hyq18⟩) (by assumption) ?restq18
  case hyq18 =>
    intro W hSw
    go_simp
    try with_reducible rfl
  simp only [Act.put, List.setIfInBounds_toArray, List.set_cons_zero, List.set_cons_succ, List.getElem_toArray, List.getElem_cons_zero, List.getElem_cons_succ]
  refine wpAnyH_take (i := 13) (v := ?vq19) rfl (by kernel_rfl) (by kernel_rfl) (by kernel_rfl) (fun _ _ _ h => h) (Or.inl ⟨by rfl, ?hyq19⟩) (by assumption) ?restq19
  case hyq19 =>
    intro W hSw
    go_simp
    try with_reducible rfl
  simp only [Act.put, List.setIfInBounds_toArray, List.set_cons_zero, List.set_cons_succ, List.getElem_toArray, List.getElem_cons_zero, List.getElem_cons_succ]
  refine wpAnyH_take (i := 14) (v := .agg (arL 16 (miF b)).toArray) rfl (by kernel_rfl) (by kernel_rfl) (by kernel_rfl) (fun _ _ _ h => h) (yieldsIf_load_mid (by rfl) _ _ rfl gm 0 rfl (arL 16 (miF b)) _ (fun W hSw => hSw.2.2.2.2.2.2.1.range) Tryd.arr16b rfl (size16b _)) (by assumption) ?_
  simp only [Act.put, List.setIfInBounds_toArray, List.set_cons_zero, List.set_cons_succ, List.getElem_toArray, List.getElem_cons_zero, List.getElem_cons_succ]
  refine wpAnyH_take (i := 15) (v := .agg (arL 16 (tr b)).toArray) rfl (by kernel_rfl) (by kernel_rfl) (by kernel_rfl) (fun _ _ _ h => h) (yieldsIf_load_mid (by rfl) _ _ rfl gg 0 rfl (arL 16 (tr b)) _ (fun W hSw => hSw.2.2.1.range) Tryd.arrG rfl (sizeG _)) (by assumption) ?_
  simp only [Act.put, List.setIfInBounds_toArray, List.set_cons_zero, List.set_cons_succ, List.getElem_toArray, List.getElem_cons_zero, List.getElem_cons_succ]
  refine wpAnyH_ready (rs := [16]) (by kernel_rfl) (by simp) ?_
  refine AllReadyH.cons rfl (fun K hK => ?_) AllReadyH.nil
  go_simp
  refine (rMix b _ Hb.out).mono ?_
  rintro e y20 ⟨rfl, hq⟩
  go_wp2_with fail
  refine hK.out _ _ ⟨(hHeld.1).to (by omega) hq, (hHeld.2.1).to (by omega) hq, (hHeld.2.2.1).to (by omega) hq, (hHeld.2.2.2.1).to (by omega) hq, (hHeld.2.2.2.2.1).to (by omega) hq, (hHeld.2.2.2.2.2.1).to (by omega) hq, (hHeld.2.2.2.2.2.2.1).to (by omega) hq, (hHeld.2.2.2.2.2.2.2).trans (hq.mono (hHeld.2.2.2.2.2.2.2).size)⟩ (fun hHeld2 => ?_)
  clear hK K hHeld hq
  have hHeld := hHeld2
  clear hHeld2
  try simp only [Act.put, List.setIfInBounds_toArray, List.set_cons_zero, List.set_cons_succ, List.getElem_toArray, List.getElem_cons_zero, List.getElem_cons_succ]
  refine wpAnyH_ready (rs := [17]) (by kernel_rfl) (by simp) ?_
  refine AllReadyH.cons rfl (fun K hK => ?_) AllReadyH.nil
  go_simp
  refine (rBlock (miF b) _).mono ?_
  rintro e y21 ⟨rfl, hq⟩
  go_wp2_with fail
  refine hK.out _ _ ⟨(hHeld.1).to (by omega) hq, (hHeld.2.1).to (by omega) hq, (hHeld.2.2.1).to (by omega) hq, (hHeld.2.2.2.1).to (by omega) hq, (hHeld.2.2.2.2.1).to (by omega) hq, (hHeld.2.2.2.2.2.1).to (by omega) hq, (hHeld.2.2.2.2.2.2.1).to (by omega) hq, (hHeld.2.2.2.2.2.2.2).trans (hq.mono (hHeld.2.2.2.2.2.2.2).size)⟩ (fun hHeld2 => ?_)
  clear hK K hHeld hq
  have hHeld := hHeld2
  clear hHeld2
  try simp only [Act.put, List.setIfInBounds_toArray, List.set_cons_zero, List.set_cons_succ, List.getElem_toArray, List.getElem_cons_zero, List.getElem_cons_succ]
  refine wpAnyH_take (i := 18) (v := ?vq22) rfl (by kernel_rfl) (by kernel_rfl) (by kernel_rfl) (fun _ _ _ h => h) (Or.inl ⟨by rfl, ?hyq22⟩) (by assumption) ?restq22
  case hyq22 =>
    intro W hSw
    go_simp
    try with_reducible rfl
  simp only [Act.put, List.setIfInBounds_toArray, List.set_cons_zero, List.set_cons_succ, List.getElem_toArray, List.getElem_cons_zero, List.getElem_cons_succ]
  refine wpAnyH_take (i := 19) (v := ?vq23) rfl (by kernel_rfl) (by kernel_rfl) (by kernel_rfl) (fun _ _ _ h => h) (Or.inl ⟨by rfl, ?hyq23⟩) (by assumption) ?restq23
  case hyq23 =>
    intro W hSw
    go_simp
    try with_reducible rfl
  simp only [Act.put, List.setIfInBounds_toArray, List.set_cons_zero, List.set_cons_succ, List.getElem_toArray, List.getElem_cons_zero, List.getElem_cons_succ]
  refine wpAnyH_take (i := 20) (v := ?vq24) rfl (by kernel_rfl) (by kernel_rfl) (by kernel_rfl) (fun _ _ _ h => h) (Or.inl ⟨by rfl, ?hyq24⟩) (by assumption) ?restq24
  case hyq24 =>
    intro W hSw
    go_simp
    try with_reducible rfl
  simp only [Act.put, List.setIfInBounds_toArray, List.set_cons_zero, List.set_cons_succ, List.getElem_toArray, List.getElem_cons_zero, List.getElem_cons_succ]
  refine wpAnyH_take (i := 21) (v := .agg (arL 16 (b)).toArray) rfl (by kernel_rfl) (by kernel_rfl) (by kernel_rfl) (fun _ _ _ h => h) (yieldsIf_load_mid (by rfl) _ _ rfl gb 0 rfl (arL 16 (b)) _ (fun W hSw => hSw.1.range) Tryd.arr16b rfl (size16b _)) (by assumption) ?_
  simp only [Act.put, List.setIfInBounds_toArray, List.set_cons_zero, List.set_cons_succ, List.getElem_toArray, List.getElem_cons_zero, List.getElem_cons_succ]
  refine wpAnyH_take (i := 22) (v := .agg (arL 16 (r)).toArray) rfl (by kernel_rfl) (by kernel_rfl) (by kernel_rfl) (fun _ _ _ h => h) (yieldsIf_load_mid (by rfl) _ _ rfl gr 0 rfl (arL 16 (r)) _ (fun W hSw => hSw.2.1.range) Tryd.arr16b rfl (size16b _)) (by assumption) ?_
  simp only [Act.put, List.setIfInBounds_toArray, List.set_cons_zero, List.set_cons_succ, List.getElem_toArray, List.getElem_cons_zero, List.getElem_cons_succ]
  refine wpAnyH_take (i := 24) (v := .agg (arL 16 (tr b)).toArray) rfl (by kernel_rfl) (by kernel_rfl) (by kernel_rfl) (fun _ _ _ h => h) (yieldsIf_load_mid (by rfl) _ _ rfl gg 0 rfl (arL 16 (tr b)) _ (fun W hSw => hSw.2.2.1.range) Tryd.arrG rfl (sizeG _)) (by assumption) ?_
  simp only [Act.put, List.setIfInBounds_toArray, List.set_cons_zero, List.set_cons_succ, List.getElem_toArray, List.getElem_cons_zero, List.getElem_cons_succ]
  refine wpAnyH_take (i := 25) (v := .agg (arL 16 (r)).toArray) rfl (by kernel_rfl) (by kernel_rfl) (by kernel_rfl) (fun _ _ _ h => h) (yieldsIf_load_mid (by rfl) _ _ rfl gr 0 rfl (arL 16 (r)) _ (fun W hSw => hSw.2.1.range) Tryd.arr16b rfl (size16b _)) (by assumption) ?_
  simp only [Act.put, List.setIfInBounds_toArray, List.set_cons_zero, List.set_cons_succ, List.getElem_toArray, List.getElem_cons_zero, List.getElem_cons_succ]
  refine wpAnyH_ready (rs := [23]) (by kernel_rfl) (by simp) ?_
  refine AllReadyH.cons rfl (fun K hK => ?_) AllReadyH.nil
  go_simp
  refine (cadd b r _ Hb.out Hr.out).mono ?_
  rintro e y25 ⟨rfl, hq⟩
  go_wp2_with fail
  refine hK.out _ _ ⟨(hHeld.1).to (by omega) hq, (hHeld.2.1).to (by omega) hq, (hHeld.2.2.1).to (by omega) hq, (hHeld.2.2.2.1).to (by omega) hq, (hHeld.2.2.2.2.1).to (by omega) hq, (hHeld.2.2.2.2.2.1).to (by omega) hq, (hHeld.2.2.2.2.2.2.1).to (by omega) hq, (hHeld.2.2.2.2.2.2.2).trans (hq.mono (hHeld.2.2.2.2.2.2.2).size)⟩ (fun hHeld2 => ?_)
  clear hK K hHeld hq
  have hHeld := hHeld2
  clear hHeld2
  try simp only [Act.put, List.setIfInBounds_toArray, List.set_cons_zero, List.set_cons_succ, List.getElem_toArray, List.getElem_cons_zero, List.getElem_cons_succ]
  refine wpAnyH_ready (rs := [26]) (by kernel_rfl) (by simp) ?_
  refine AllReadyH.cons rfl (fun K hK => ?_) AllReadyH.nil
  go_simp
  refine (rAdd b r _ Hb.out Hr.out).mono ?_
  rintro e y26 ⟨rfl, hq⟩
  go_wp2_with fail
  refine hK.out _ _ ⟨(hHeld.1).to (by omega) hq, (hHeld.2.1).to (by omega) hq, (hHeld.2.2.1).to (by omega) hq, (hHeld.2.2.2.1).to (by omega) hq, (hHeld.2.2.2.2.1).to (by omega) hq, (hHeld.2.2.2.2.2.1).to (by omega) hq, (hHeld.2.2.2.2.2.2.1).to (by omega) hq, (hHeld.2.2.2.2.2.2.2).trans (hq.mono (hHeld.2.2.2.2.2.2.2).size)⟩ (fun hHeld2 => ?_)
  clear hK K hHeld hq
  have hHeld := hHeld2
  clear hHeld2
  try simp only [Act.put, List.setIfInBounds_toArray, List.set_cons_zero, List.set_cons_succ, List.getElem_toArray, List.getElem_cons_zero, List.getElem_cons_succ]
  refine wpAnyH_ready (rs := [27]) (by kernel_rfl) (by simp) ?_
  refine AllReadyH.cons rfl (fun K hK => ?_) AllReadyH.nil
  go_simp
  refine (rBlock (adF b r) _).mono ?_
  rintro e y27 ⟨rfl, hq⟩
  go_wp2_with fail
  refine hK.out _ _ ⟨(hHeld.1).to (by omega) hq, (hHeld.2.1).to (by omega) hq, (hHeld.2.2.1).to (by omega) hq, (hHeld.2.2.2.1).to (by omega) hq, (hHeld.2.2.2.2.1).to (by omega) hq, (hHeld.2.2.2.2.2.1).to (by omega) hq, (hHeld.2.2.2.2.2.2.1).to (by omega) hq, (hHeld.2.2.2.2.2.2.2).trans (hq.mono (hHeld.2.2.2.2.2.2.2).size)⟩ (fun hHeld2 => ?_)
  clear hK K hHeld hq
  have hHeld := hHeld2
  clear hHeld2
  try simp only [Act.put, List.setIfInBounds_toArray, List.set_cons_zero, List.set_cons_succ, List.getElem_toArray, List.getElem_cons_zero, List.getElem_cons_succ]
  refine wpAnyH_take (i := 28) (v := ?vq28) rfl (by kernel_rfl) (by kernel_rfl) (by kernel_rfl) (fun _ _ _ h => h) (Or.inl ⟨by rfl, ?hyq28⟩) (by assumption) ?restq28
  case hyq28 =>
    intro W hSw
    go_simp
    try with_reducible rfl
  simp only [Act.put, List.setIfInBounds_toArray, List.set_cons_zero, List.set_cons_succ, List.getElem_toArray, List.getElem_cons_zero, List.getElem_cons_succ]
  refine wpAnyH_take (i := 29) (v := ?vq29) rfl (by kernel_rfl) (by kernel_rfl) (by kernel_rfl) (fun _ _ _ h => h) (Or.inl ⟨by rfl, ?hyq29⟩) (by assumption) ?restq29
  case hyq29 =>
    intro W hSw
    go_simp
    try with_reducible rfl
  simp only [Act.put, List.setIfInBounds_toArray, List.set_cons_zero, List.set_cons_succ, List.getElem_toArray, List.getElem_cons_zero, List.getElem_cons_succ]
  refine wpAnyH_done (by kernel_rfl) ?_ _
  obtain ⟨hby27, hry27, hgy27, hty27, hsy27, hhy27, hmy27, hBy27⟩ := hHeld
  go_upto_region 10 with fail
  refine wp_region_held_drew (S := fun W => Ar W gb 16 (b) ∧ Ar W gs 16 (suF b) ∧ Ar W gh 16 (shF b) ∧ Ar W gm 16 (miF b) ∧ Below w.heap.size w W) (by kernel_rfl) ⟨hby27.drew, hsy27.drew, hhy27.drew, hmy27.drew, hBy27.drew⟩ (fun hHeld => ?_)
  clear hby27 hry27 hgy27 hty27 hsy27 hhy27 hmy27 hBy27
  refine wpAnyH_take (i := 0) (v := .agg (arL 16 (suF b)).toArray) rfl (by kernel_rfl) (by kernel_rfl) (by kernel_rfl) (fun _ _ _ h => h) (yieldsIf_load_mid (by rfl) _ _ rfl gs 0 rfl (arL 16 (suF b)) _ (fun W hSw => hSw.2.1.range) Tryd.arr16b rfl (size16b _)) (by assumption) ?_
  simp only [Act.put, List.setIfInBounds_toArray, List.set_cons_zero, List.set_cons_succ, List.getElem_toArray, List.getElem_cons_zero]
  refine wpAnyH_take (i := 2) (v := .agg (arL 16 (b)).toArray) rfl (by kernel_rfl) (by kernel_rfl) (by kernel_rfl) (fun _ _ _ h => h) (yieldsIf_load_mid (by rfl) _ _ rfl gb 0 rfl (arL 16 (b)) _ (fun W hSw => hSw.1.range) Tryd.arr16b rfl (size16b _)) (by assumption) ?_
  simp only [Act.put, List.setIfInBounds_toArray, List.set_cons_zero, List.set_cons_succ, List.getElem_toArray, List.getElem_cons_zero, List.getElem_cons_succ]
  refine wpAnyH_ready (rs := [1]) (by kernel_rfl) (by simp) ?_
  refine AllReadyH.cons rfl (fun K hK => ?_) AllReadyH.nil
  go_simp
  refine (xUnsub b _ Hb.out (HX.out.keep (hHeld.2.2.2.2))).mono ?_
  rintro e y30 ⟨rfl, hq⟩
  go_wp2_with fail
  refine hK.out _ _ ⟨(hHeld.1).to (by omega) hq, (hHeld.2.1).to (by omega) hq, (hHeld.2.2.1).to (by omega) hq, (hHeld.2.2.2.1).to (by omega) hq, (hHeld.2.2.2.2).trans (hq.mono (hHeld.2.2.2.2).size)⟩ (fun hHeld2 => ?_)
  clear hK K hHeld hq
  have hHeld := hHeld2
  clear hHeld2
  try simp only [Act.put, List.setIfInBounds_toArray, List.set_cons_zero, List.set_cons_succ, List.getElem_toArray, List.getElem_cons_zero, List.getElem_cons_succ]
  refine wpAnyH_take (i := 3) (v := ?vq31) rfl (by kernel_rfl) (by kernel_rfl) (by kernel_rfl) (fun _ _ _ h => h) (Or.inl ⟨by rfl, ?hyq31⟩) (by assumption) ?restq31
  case hyq31 =>
    intro W hSw
    go_simp
    try with_reducible rfl
  simp only [Act.put, List.setIfInBounds_toArray, List.set_cons_zero, List.set_cons_succ, List.getElem_toArray, List.getElem_cons_zero, List.getElem_cons_succ]
  refine wpAnyH_take (i := 4) (v := ?vq32) rfl (by kernel_rfl) (by kernel_rfl) (by kernel_rfl) (fun _ _ _ h => h) (Or.inl ⟨by rfl, ?hyq32⟩) (by assumption) ?restq32
  case hyq32 =>
    intro W hSw
    go_simp
    try with_reducible rfl
  simp only [Act.put, List.setIfInBounds_toArray, List.set_cons_zero, List.set_cons_succ, List.getElem_toArray, List.getElem_cons_zero, List.getElem_cons_succ]
  refine wpAnyH_take (i := 5) (v := .agg (arL 16 (shF b)).toArray) rfl (by kernel_rfl) (by kernel_rfl) (by kernel_rfl) (fun _ _ _ h => h) (yieldsIf_load_mid (by rfl) _ _ rfl gh 0 rfl (arL 16 (shF b)) _ (fun W hSw => hSw.2.2.1.range) Tryd.arr16b rfl (size16b _)) (by assumption) ?_
  simp only [Act.put, List.setIfInBounds_toArray, List.set_cons_zero, List.set_cons_succ, List.getElem_toArray, List.getElem_cons_zero, List.getElem_cons_succ]
  refine wpAnyH_take (i := 7) (v := .agg (arL 16 (b)).toArray) rfl (by kernel_rfl) (by kernel_rfl) (by kernel_rfl) (fun _ _ _ h => h) (yieldsIf_load_mid (by rfl) _ _ rfl gb 0 rfl (arL 16 (b)) _ (fun W hSw => hSw.1.range) Tryd.arr16b rfl (size16b _)) (by assumption) ?_
  simp only [Act.put, List.setIfInBounds_toArray, List.set_cons_zero, List.set_cons_succ, List.getElem_toArray, List.getElem_cons_zero, List.getElem_cons_succ]
  refine wpAnyH_ready (rs := [6]) (by kernel_rfl) (by simp) ?_
  refine AllReadyH.cons rfl (fun K hK => ?_) AllReadyH.nil
  go_simp
  refine (xUnshift b _).mono ?_
  rintro e y33 ⟨rfl, hq⟩
  go_wp2_with fail
  refine hK.out _ _ ⟨(hHeld.1).to (by omega) hq, (hHeld.2.1).to (by omega) hq, (hHeld.2.2.1).to (by omega) hq, (hHeld.2.2.2.1).to (by omega) hq, (hHeld.2.2.2.2).trans (hq.mono (hHeld.2.2.2.2).size)⟩ (fun hHeld2 => ?_)
  clear hK K hHeld hq
  have hHeld := hHeld2
  clear hHeld2
  try simp only [Act.put, List.setIfInBounds_toArray, List.set_cons_zero, List.set_cons_succ, List.getElem_toArray, List.getElem_cons_zero, List.getElem_cons_succ]
  refine wpAnyH_take (i := 8) (v := ?vq34) rfl (by kernel_rfl) (by kernel_rfl) (by kernel_rfl) (fun _ _ _ h => h) (Or.inl ⟨by rfl, ?hyq34⟩) (by assumption) ?restq34
  case hyq34 =>
    intro W hSw
    go_simp
    try with_reducible rfl
  simp only [Act.put, List.setIfInBounds_toArray, List.set_cons_zero, List.set_cons_succ, List.getElem_toArray, List.getElem_cons_zero, List.getElem_cons_succ]
  refine wpAnyH_take (i := 9) (v := ?vq35) rfl (by kernel_rfl) (by kernel_rfl) (by kernel_rfl) (fun _ _ _ h => h) (Or.inl ⟨by rfl, ?hyq35⟩) (by assumption) ?restq35
  case hyq35 =>
    intro W hSw
    go_simp
    try with_reducible rfl
  simp only [Act.put, List.setIfInBounds_toArray, List.set_cons_zero, List.set_cons_succ, List.getElem_toArray, List.getElem_cons_zero, List.getElem_cons_succ]
  refine wpAnyH_take (i := 10) (v := ?vq36) rfl (by kernel_rfl) (by kernel_rfl) (by kernel_rfl) (fun _ _ _ h => h) (Or.inl ⟨by rfl, ?hyq36⟩) (by assumption) ?restq36
  case hyq36 =>
    intro W hSw
    go_simp
    try with_reducible rfl
  simp only [Act.put, List.setIfInBounds_toArray, List.set_cons_zero, List.set_cons_succ, List.getElem_toArray, List.getElem_cons_zero, List.getElem_cons_succ]
  refine wpAnyH_take (i := 11) (v := .agg (arL 16 (miF b)).toArray) rfl (by kernel_rfl) (by kernel_rfl) (by kernel_rfl) (fun _ _ _ h => h) (yieldsIf_load_mid (by rfl) _ _ rfl gm 0 rfl (arL 16 (miF b)) _ (fun W hSw => hSw.2.2.2.1.range) Tryd.arr16b rfl (size16b _)) (by assumption) ?_
  simp only [Act.put, List.setIfInBounds_toArray, List.set_cons_zero, List.set_cons_succ, List.getElem_toArray, List.getElem_cons_zero, List.getElem_cons_succ]
  refine wpAnyH_take (i := 13) (v := .agg (arL 16 (b)).toArray) rfl (by kernel_rfl) (by kernel_rfl) (by kernel_rfl) (fun _ _ _ h => h) (yieldsIf_load_mid (by rfl) _ _ rfl gb 0 rfl (arL 16 (b)) _ (fun W hSw => hSw.1.range) Tryd.arr16b rfl (size16b _)) (by assumption) ?_
  simp only [Act.put, List.setIfInBounds_toArray, List.set_cons_zero, List.set_cons_succ, List.getElem_toArray, List.getElem_cons_zero, List.getElem_cons_succ]
  refine wpAnyH_ready (rs := [12]) (by kernel_rfl) (by simp) ?_
  refine AllReadyH.cons rfl (fun K hK => ?_) AllReadyH.nil
  go_simp
  refine (xUnmix b _ Hb.out).mono ?_
  rintro e y37 ⟨rfl, hq⟩
  go_wp2_with fail
  refine hK.out _ _ ⟨(hHeld.1).to (by omega) hq, (hHeld.2.1).to (by omega) hq, (hHeld.2.2.1).to (by omega) hq, (hHeld.2.2.2.1).to (by omega) hq, (hHeld.2.2.2.2).trans (hq.mono (hHeld.2.2.2.2).size)⟩ (fun hHeld2 => ?_)
  clear hK K hHeld hq
  have hHeld := hHeld2
  clear hHeld2
  try simp only [Act.put, List.setIfInBounds_toArray, List.set_cons_zero, List.set_cons_succ, List.getElem_toArray, List.getElem_cons_zero, List.getElem_cons_succ]
  refine wpAnyH_take (i := 14) (v := ?vq38) rfl (by kernel_rfl) (by kernel_rfl) (by kernel_rfl) (fun _ _ _ h => h) (Or.inl ⟨by rfl, ?hyq38⟩) (by assumption) ?restq38
  case hyq38 =>
    intro W hSw
    go_simp
    try with_reducible rfl
  simp only [Act.put, List.setIfInBounds_toArray, List.set_cons_zero, List.set_cons_succ, List.getElem_toArray, List.getElem_cons_zero, List.getElem_cons_succ]
  refine wpAnyH_take (i := 15) (v := ?vq39) rfl (by kernel_rfl) (by kernel_rfl) (by kernel_rfl) (fun _ _ _ h => h) (Or.inl ⟨by rfl, ?hyq39⟩) (by assumption) ?restq39
  case hyq39 =>
    intro W hSw
    go_simp
    try with_reducible rfl
  simp only [Act.put, List.setIfInBounds_toArray, List.set_cons_zero, List.set_cons_succ, List.getElem_toArray, List.getElem_cons_zero, List.getElem_cons_succ]
  refine wpAnyH_take (i := 16) (v := ?vq40) rfl (by kernel_rfl) (by kernel_rfl) (by kernel_rfl) (fun _ _ _ h => h) (Or.inl ⟨by rfl, ?hyq40⟩) (by assumption) ?restq40
  case hyq40 =>
    intro W hSw
    go_simp
    try with_reducible rfl
  simp only [Act.put, List.setIfInBounds_toArray, List.set_cons_zero, List.set_cons_succ, List.getElem_toArray, List.getElem_cons_zero, List.getElem_cons_succ]
  refine wpAnyH_take (i := 17) (v := .agg (arL 16 (b)).toArray) rfl (by kernel_rfl) (by kernel_rfl) (by kernel_rfl) (fun _ _ _ h => h) (yieldsIf_load_mid (by rfl) _ _ rfl gb 0 rfl (arL 16 (b)) _ (fun W hSw => hSw.1.range) Tryd.arr16b rfl (size16b _)) (by assumption) ?_
  simp only [Act.put, List.setIfInBounds_toArray, List.set_cons_zero, List.set_cons_succ, List.getElem_toArray, List.getElem_cons_zero, List.getElem_cons_succ]
  refine wpAnyH_take (i := 20) (v := .agg (arL 16 (b)).toArray) rfl (by kernel_rfl) (by kernel_rfl) (by kernel_rfl) (fun _ _ _ h => h) (yieldsIf_load_mid (by rfl) _ _ rfl gb 0 rfl (arL 16 (b)) _ (fun W hSw => hSw.1.range) Tryd.arr16b rfl (size16b _)) (by assumption) ?_
  simp only [Act.put, List.setIfInBounds_toArray, List.set_cons_zero, List.set_cons_succ, List.getElem_toArray, List.getElem_cons_zero, List.getElem_cons_succ]
  refine wpAnyH_ready (rs := [18]) (by kernel_rfl) (by simp) ?_
  refine AllReadyH.cons rfl (fun K hK => ?_) AllReadyH.nil
  go_simp
  refine (cunsub b _ Hb.out (HX.out.keep (hHeld.2.2.2.2))).mono ?_
  rintro e y41 ⟨rfl, hq⟩
  go_wp2_with fail
  refine hK.out _ _ ⟨(hHeld.1).to (by omega) hq, (hHeld.2.1).to (by omega) hq, (hHeld.2.2.1).to (by omega) hq, (hHeld.2.2.2.1).to (by omega) hq, (hHeld.2.2.2.2).trans (hq.mono (hHeld.2.2.2.2).size)⟩ (fun hHeld2 => ?_)
  clear hK K hHeld hq
  have hHeld := hHeld2
  clear hHeld2
  try simp only [Act.put, List.setIfInBounds_toArray, List.set_cons_zero, List.set_cons_succ, List.getElem_toArray, List.getElem_cons_zero, List.getElem_cons_succ]
  refine wpAnyH_ready (rs := [19]) (by kernel_rfl) (by simp) ?_
  refine AllReadyH.cons rfl (fun K hK => ?_) AllReadyH.nil
  go_simp
  refine (xSub b _ Hb.out (HX.out.keep (hHeld.2.2.2.2))).mono ?_
  rintro e y42 ⟨rfl, hq⟩
  go_wp2_with fail
  refine hK.out _ _ ⟨(hHeld.1).to (by omega) hq, (hHeld.2.1).to (by omega) hq, (hHeld.2.2.1).to (by omega) hq, (hHeld.2.2.2.1).to (by omega) hq, (hHeld.2.2.2.2).trans (hq.mono (hHeld.2.2.2.2).size)⟩ (fun hHeld2 => ?_)
  clear hK K hHeld hq
  have hHeld := hHeld2
  clear hHeld2
  try simp only [Act.put, List.setIfInBounds_toArray, List.set_cons_zero, List.set_cons_succ, List.getElem_toArray, List.getElem_cons_zero, List.getElem_cons_succ]
  refine wpAnyH_take (i := 21) (v := ?vq43) rfl (by kernel_rfl) (by kernel_rfl) (by kernel_rfl) (fun _ _ _ h => h) (Or.inl ⟨by rfl, ?hyq43⟩) (by assumption) ?restq43
  case hyq43 =>
    intro W hSw
    go_simp
    try with_reducible rfl
  simp only [Act.put, List.setIfInBounds_toArray, List.set_cons_zero, List.set_cons_succ, List.getElem_toArray, List.getElem_cons_zero, List.getElem_cons_succ]
  refine wpAnyH_take (i := 22) (v := ?vq44) rfl (by kernel_rfl) (by kernel_rfl) (by kernel_rfl) (fun _ _ _ h => h) (Or.inl ⟨by rfl, ?hyq44⟩) (by assumption) ?restq44
  case hyq44 =>
    intro W hSw
    go_simp
    try with_reducible rfl
  simp only [Act.put, List.setIfInBounds_toArray, List.set_cons_zero, List.set_cons_succ, List.getElem_toArray, List.getElem_cons_zero, List.getElem_cons_succ]
  refine wpAnyH_take (i := 23) (v := ?vq45) rfl (by kernel_rfl) (by kernel_rfl) (by kernel_rfl) (fun _ _ _ h => h) (Or.inl ⟨by rfl, ?hyq45⟩) (by assumption) ?restq45
  case hyq45 =>
    intro W hSw
    go_simp
    try with_reducible rfl
  simp only [Act.put, List.setIfInBounds_toArray, List.set_cons_zero, List.set_cons_succ, List.getElem_toArray, List.getElem_cons_zero, List.getElem_cons_succ]
  refine wpAnyH_take (i := 24) (v := .agg (arL 16 (b)).toArray) rfl (by kernel_rfl) (by kernel_rfl) (by kernel_rfl) (fun _ _ _ h => h) (yieldsIf_load_mid (by rfl) _ _ rfl gb 0 rfl (arL 16 (b)) _ (fun W hSw => hSw.1.range) Tryd.arr16b rfl (size16b _)) (by assumption) ?_
  simp only [Act.put, List.setIfInBounds_toArray, List.set_cons_zero, List.set_cons_succ, List.getElem_toArray, List.getElem_cons_zero, List.getElem_cons_succ]
  refine wpAnyH_take (i := 27) (v := .agg (arL 16 (b)).toArray) rfl (by kernel_rfl) (by kernel_rfl) (by kernel_rfl) (fun _ _ _ h => h) (yieldsIf_load_mid (by rfl) _ _ rfl gb 0 rfl (arL 16 (b)) _ (fun W hSw => hSw.1.range) Tryd.arr16b rfl (size16b _)) (by assumption) ?_
  simp only [Act.put, List.setIfInBounds_toArray, List.set_cons_zero, List.set_cons_succ, List.getElem_toArray, List.getElem_cons_zero, List.getElem_cons_succ]
  refine wpAnyH_ready (rs := [25]) (by kernel_rfl) (by simp) ?_
  refine AllReadyH.cons rfl (fun K hK => ?_) AllReadyH.nil
  go_simp
  refine (cunshift b _).mono ?_
  rintro e y46 ⟨rfl, hq⟩
  go_wp2_with fail
  refine hK.out _ _ ⟨(hHeld.1).to (by omega) hq, (hHeld.2.1).to (by omega) hq, (hHeld.2.2.1).to (by omega) hq, (hHeld.2.2.2.1).to (by omega) hq, (hHeld.2.2.2.2).trans (hq.mono (hHeld.2.2.2.2).size)⟩ (fun hHeld2 => ?_)
  clear hK K hHeld hq
  have hHeld := hHeld2
  clear hHeld2
  try simp only [Act.put, List.setIfInBounds_toArray, List.set_cons_zero, List.set_cons_succ, List.getElem_toArray, List.getElem_cons_zero, List.getElem_cons_succ]
  refine wpAnyH_ready (rs := [26]) (by kernel_rfl) (by simp) ?_
  refine AllReadyH.cons rfl (fun K hK => ?_) AllReadyH.nil
  go_simp
  refine (xShift b _).mono ?_
  rintro e y47 ⟨rfl, hq⟩
  go_wp2_with fail
  refine hK.out _ _ ⟨(hHeld.1).to (by omega) hq, (hHeld.2.1).to (by omega) hq, (hHeld.2.2.1).to (by omega) hq, (hHeld.2.2.2.1).to (by omega) hq, (hHeld.2.2.2.2).trans (hq.mono (hHeld.2.2.2.2).size)⟩ (fun hHeld2 => ?_)
  clear hK K hHeld hq
  have hHeld := hHeld2
  clear hHeld2
  try simp only [Act.put, List.setIfInBounds_toArray, List.set_cons_zero, List.set_cons_succ, List.getElem_toArray, List.getElem_cons_zero, List.getElem_cons_succ]
  refine wpAnyH_take (i := 28) (v := ?vq48) rfl (by kernel_rfl) (by kernel_rfl) (by kernel_rfl) (fun _ _ _ h => h) (Or.inl ⟨by rfl, ?hyq48⟩) (by assumption) ?restq48
  case hyq48 =>
    intro W hSw
    go_simp
    try with_reducible rfl
  simp only [Act.put, List.setIfInBounds_toArray, List.set_cons_zero, List.set_cons_succ, List.getElem_toArray, List.getElem_cons_zero, List.getElem_cons_succ]
  refine wpAnyH_take (i := 29) (v := ?vq49) rfl (by kernel_rfl) (by kernel_rfl) (by kernel_rfl) (fun _ _ _ h => h) (Or.inl ⟨by rfl, ?hyq49⟩) (by assumption) ?restq49
  case hyq49 =>
    intro W hSw
    go_simp
    try with_reducible rfl
  simp only [Act.put, List.setIfInBounds_toArray, List.set_cons_zero, List.set_cons_succ, List.getElem_toArray, List.getElem_cons_zero, List.getElem_cons_succ]
  refine wpAnyH_take (i := 30) (v := ?vq50) rfl (by kernel_rfl) (by kernel_rfl) (by kernel_rfl) (fun _ _ _ h => h) (Or.inl ⟨by rfl, ?hyq50⟩) (by assumption) ?restq50
  case hyq50 =>
    intro W hSw
    go_simp
    try with_reducible rfl
  simp only [Act.put, List.setIfInBounds_toArray, List.set_cons_zero, List.set_cons_succ, List.getElem_toArray, List.getElem_cons_zero, List.getElem_cons_succ]
  refine wpAnyH_take (i := 31) (v := .agg (arL 16 (b)).toArray) rfl (by kernel_rfl) (by kernel_rfl) (by kernel_rfl) (fun _ _ _ h => h) (yieldsIf_load_mid (by rfl) _ _ rfl gb 0 rfl (arL 16 (b)) _ (fun W hSw => hSw.1.range) Tryd.arr16b rfl (size16b _)) (by assumption) ?_
  simp only [Act.put, List.setIfInBounds_toArray, List.set_cons_zero, List.set_cons_succ, List.getElem_toArray, List.getElem_cons_zero, List.getElem_cons_succ]
  refine wpAnyH_take (i := 34) (v := .agg (arL 16 (b)).toArray) rfl (by kernel_rfl) (by kernel_rfl) (by kernel_rfl) (fun _ _ _ h => h) (yieldsIf_load_mid (by rfl) _ _ rfl gb 0 rfl (arL 16 (b)) _ (fun W hSw => hSw.1.range) Tryd.arr16b rfl (size16b _)) (by assumption) ?_
  simp only [Act.put, List.setIfInBounds_toArray, List.set_cons_zero, List.set_cons_succ, List.getElem_toArray, List.getElem_cons_zero, List.getElem_cons_succ]
  refine wpAnyH_ready (rs := [32]) (by kernel_rfl) (by simp) ?_
  refine AllReadyH.cons rfl (fun K hK => ?_) AllReadyH.nil
  go_simp
  refine (cunmix b _ Hb.out).mono ?_
  rintro e y51 ⟨rfl, hq⟩
  go_wp2_with fail
  refine hK.out _ _ ⟨(hHeld.1).to (by omega) hq, (hHeld.2.1).to (by omega) hq, (hHeld.2.2.1).to (by omega) hq, (hHeld.2.2.2.1).to (by omega) hq, (hHeld.2.2.2.2).trans (hq.mono (hHeld.2.2.2.2).size)⟩ (fun hHeld2 => ?_)
  clear hK K hHeld hq
  have hHeld := hHeld2
  clear hHeld2
  try simp only [Act.put, List.setIfInBounds_toArray, List.set_cons_zero, List.set_cons_succ, List.getElem_toArray, List.getElem_cons_zero, List.getElem_cons_succ]
  refine wpAnyH_ready (rs := [33]) (by kernel_rfl) (by simp) ?_
  refine AllReadyH.cons rfl (fun K hK => ?_) AllReadyH.nil
  go_simp
  refine (xMix b _ Hb.out).mono ?_
  rintro e y52 ⟨rfl, hq⟩
  go_wp2_with fail
  refine hK.out _ _ ⟨(hHeld.1).to (by omega) hq, (hHeld.2.1).to (by omega) hq, (hHeld.2.2.1).to (by omega) hq, (hHeld.2.2.2.1).to (by omega) hq, (hHeld.2.2.2.2).trans (hq.mono (hHeld.2.2.2.2).size)⟩ (fun hHeld2 => ?_)
  clear hK K hHeld hq
  have hHeld := hHeld2
  clear hHeld2
  try simp only [Act.put, List.setIfInBounds_toArray, List.set_cons_zero, List.set_cons_succ, List.getElem_toArray, List.getElem_cons_zero, List.getElem_cons_succ]
  refine wpAnyH_take (i := 35) (v := ?vq53) rfl (by kernel_rfl) (by kernel_rfl) (by kernel_rfl) (fun _ _ _ h => h) (Or.inl ⟨by rfl, ?hyq53⟩) (by assumption) ?restq53
  case hyq53 =>
    intro W hSw
    go_simp
    try with_reducible rfl
  simp only [Act.put, List.setIfInBounds_toArray, List.set_cons_zero, List.set_cons_succ, List.getElem_toArray, List.getElem_cons_zero, List.getElem_cons_succ]
  refine wpAnyH_take (i := 36) (v := ?vq54) rfl (by kernel_rfl) (by kernel_rfl) (by kernel_rfl) (fun _ _ _ h => h) (Or.inl ⟨by rfl, ?hyq54⟩) (by assumption) ?restq54
  case hyq54 =>
    intro W hSw
    go_simp
    try with_reducible rfl
  simp only [Act.put, List.setIfInBounds_toArray, List.set_cons_zero, List.set_cons_succ, List.getElem_toArray, List.getElem_cons_zero, List.getElem_cons_succ]
  refine wpAnyH_take (i := 37) (v := ?vq55) rfl (by kernel_rfl) (by kernel_rfl) (by kernel_rfl) (fun _ _ _ h => h) (Or.inl ⟨by rfl, ?hyq55⟩) (by assumption) ?restq55
  case hyq55 =>
    intro W hSw
    go_simp
    try with_reducible rfl
  simp only [Act.put, List.setIfInBounds_toArray, List.set_cons_zero, List.set_cons_succ, List.getElem_toArray, List.getElem_cons_zero, List.getElem_cons_succ]
  refine wpAnyH_done (by kernel_rfl) ?_ _
  have hBe := hHeld.2.2.2.2
  clear hHeld
  go_wp2_with fail
  go_ret
  exact ⟨rfl, hBe⟩
end Go.Proofs.YtghcpfcomhfppaaDoor
