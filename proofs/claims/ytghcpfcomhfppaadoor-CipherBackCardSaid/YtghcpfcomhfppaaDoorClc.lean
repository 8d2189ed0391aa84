/-
  The walk of the law CipherBack of layer 6: for every key and any two blocks it returns true, and writes nothing that was there.
-/
import Derived.Test.YtghcpfcomhfppaaDoorCxl
import Derived.Test.YtghcpfcomhfppaaDoorCaw
import Derived.Test.YtghcpfcomhfppaaDoorEqs
import Derived.Deep.RegionHeld3
namespace Go.Proofs.YtghcpfcomhfppaaDoor
open Go.RowKit
set_option linter.unusedVariables false
set_option maxRecDepth 100000

set_option maxHeartbeats 8000000 in
theorem cbacks (f a b : Nat → Nat) (w : World) (hf : ∀ j, j < 16 → f j < 256) (ha : ∀ j, j < 16 → a j < 256) (hb : ∀ j, j < 16 → b j < 256) (h : Boxes w) :
    Calls Tryd.prog 5 #[.agg (arL 16 f).toArray, .agg (arL 16 a).toArray, .agg (arL 16 b).toArray] w fun e w' => e = .returned (.bool true) ∧ Below w.heap.size w w' := by
  have hz := zero16b
  have hzG := zeroG
  have hz256 := zero256
  have hzK := zeroK
  have hz176 := zero176e
  have HX := Lib.hid h
  have Hf := Lib.hid (show B16 f from hf)
  have Ha := Lib.hid (show B16 a from ha)
  have Hb := Lib.hid (show B16 b from hb)
  obtain ⟨kf, hkf⟩ : ∃ k : Array Value, (arL 16 f).toArray = k := ⟨_, rfl⟩
  obtain ⟨ka, hka⟩ : ∃ k : Array Value, (arL 16 a).toArray = k := ⟨_, rfl⟩
  obtain ⟨kb, hkb⟩ : ∃ k : Array Value, (arL 16 b).toArray = k := ⟨_, rfl⟩
  obtain ⟨w1, hw1⟩ : ∃ V : World, V = w.alloc (.cells (arL 16 f).toArray 22) := ⟨_, rfl⟩
  have hs1 : w1.heap.size = w.heap.size + 1 := by rw [hw1]; simp
  have hBw1 : Below w.heap.size w w1 := by rw [hw1]; exact (Below.refl _ _).alloc (Nat.le_refl _) _
  have hfw1 : Ar w1 w.heap.size 16 f := by rw [hw1]; exact Ar.new w 16 f _
  obtain ⟨w2, hw2⟩ : ∃ V : World, V = w1.alloc (.cells (arL 16 a).toArray 22) := ⟨_, rfl⟩
  have hs2 : w2.heap.size = w.heap.size + 2 := by rw [hw2]; simp [hs1]
  have hBw2 : Below w.heap.size w w2 := by rw [hw2]; exact hBw1.alloc (by omega) _
  have hfw2 := hfw1.alloc (by omega) (.cells (arL 16 a).toArray 22)
  rw [← hw2] at hfw2
  have haw2 : Ar w2 (w.heap.size + 1) 16 a := by rw [hw2, ← hs1]; exact Ar.new w1 16 a _
  obtain ⟨w3, hw3⟩ : ∃ V : World, V = w2.alloc (.cells (arL 16 b).toArray 22) := ⟨_, rfl⟩
  have hs3 : w3.heap.size = w.heap.size + 3 := by rw [hw3]; simp [hs2]
  have hBw3 : Below w.heap.size w w3 := by rw [hw3]; exact hBw2.alloc (by omega) _
  have hfw3 := hfw2.alloc (by omega) (.cells (arL 16 b).toArray 22)
  rw [← hw3] at hfw3
  have haw3 := haw2.alloc (by omega) (.cells (arL 16 b).toArray 22)
  rw [← hw3] at haw3
  have hbw3 : Ar w3 (w.heap.size + 2) 16 b := by rw [hw3, ← hs2]; exact Ar.new w2 16 b _
  rw [hkf] at hw1
  rw [hka] at hw2
  rw [hkb] at hw3
  rw [hkf, hka, hkb]
  clear hkf hka hkb h hf ha hb
  go_enter Tryd.func5, Tryd.ntmps5
  go_upto_region 1 with fail
  rw [← hw1, ← hw2, ← hw3]
  clear hw1 hw2 hw3
  try simp only [Nat.add_assoc, Nat.reduceAdd]
  obtain ⟨gf, hgf⟩ : ∃ g : Nat, w.heap.size = g := ⟨_, rfl⟩
  obtain ⟨ga, hga⟩ : ∃ g : Nat, w.heap.size + 1 = g := ⟨_, rfl⟩
  obtain ⟨gb, hgb⟩ : ∃ g : Nat, w.heap.size + 2 = g := ⟨_, rfl⟩
  rw [hgf] at hfw3
  rw [hga] at haw3
  rw [hgb] at hbw3
  try rw [hgb]
  try rw [hga]
  have hlf : w.heap.size ≤ gf := by omega
  have hla : w.heap.size ≤ ga := by omega
  have hlb : w.heap.size ≤ gb := by omega
  have hlta : gf < ga := by omega
  have hltb : ga < gb := by omega
  clear hga hgb hs1 hs2 hs3
  go_wp2_with fail
  refine (cawake _ (HX.out.keep hBw3)).mono ?_
  rintro e x1 ⟨rfl, hq⟩
  have hfx1 := hfw3.to (by omega) hq
  have hax1 := haw3.to (by omega) hq
  have hbx1 := hbw3.to (by omega) hq
  have hBx1 := hBw3.trans (hq.mono hBw3.size)
  clear hq hfw3 haw3 hbw3 hBw3
  obtain ⟨B, e1, e2⟩ : ∃ B : Bool, (∀ V : World, (Op.equalIn 10000 22 (.agg (arL 16 (enF f a)).toArray) (.agg (arL 16 (enF f b)).toArray)).run Tryd.prog V = .ok B V) ∧
      (∀ V : World, (Op.equalIn 10000 22 (.agg (arL 16 a).toArray) (.agg (arL 16 b).toArray)).run Tryd.prog V = .ok B V) := by
    by_cases hE : E16 a b
    · exact ⟨true, eq16_true (enR_congr f hE 10), eq16_true hE⟩
    · exact ⟨false, eq16_false (fun hh => hE (en_inj Hf.out Ha.out Hb.out hh)), eq16_false hE⟩
  have E1 := Lib.hid e1
  have E2 := Lib.hid e2
  clear e1 e2
  go_wp2_with (first | (refine wpList_load_ar rfl _ _ rfl _ _ _ rfl hfx1 Tryd.arr16b (size16b _) ?_) | (refine wpList_load_ar rfl _ _ rfl _ _ _ rfl hax1 Tryd.arr16b (size16b _) ?_))
  refine (cdecrypt f a _ Hf.out Ha.out (HX.out.keep hBx1)).mono ?_
  rintro e x2 ⟨rfl, hq⟩
  have hfx2 := hfx1.to (by omega) hq
  have hax2 := hax1.to (by omega) hq
  have hbx2 := hbx1.to (by omega) hq
  have hBx2 := hBx1.trans (hq.mono hBx1.size)
  clear hq hfx1 hax1 hbx1 hBx1
  obtain ⟨gp, hgp⟩ : ∃ g : Nat, x2.heap.size = g := ⟨_, rfl⟩
  have hlgp : gb < gp := by rw [← hgp]; exact hbx2.lt (by omega)
  have hfx3a := hfx2.alloc (by omega) (.cells (arL 16 fun _ => 0).toArray 22)
  have hax3a := hax2.alloc (by omega) (.cells (arL 16 fun _ => 0).toArray 22)
  have hbx3a := hbx2.alloc (by omega) (.cells (arL 16 fun _ => 0).toArray 22)
  have hpx3a := Ar.new x2 16 (fun _ => 0) 22
  have hBx3a := hBx2.alloc hBx2.size (.cells (arL 16 fun _ => 0).toArray 22)
  rw [hgp] at hpx3a
  clear hfx2 hax2 hbx2 hBx2
  go_upto_region 4 with (first | (refine wpList_store_ar rfl _ _ _ rfl _ _ _ (deF f a) rfl rfl hpx3a (size16b _) ?_; intro x3 hpx3 belx3 sizx3 keex3) | fail)
  have hfx3 := keex3 _ _ _ (by omega) hfx3a
  have hax3 := keex3 _ _ _ (by omega) hax3a
  have hbx3 := keex3 _ _ _ (by omega) hbx3a
  have hBx3 := hBx3a.trans (belx3.mono (by omega))
  clear hfx3a hax3a hbx3a hpx3a hBx3a belx3 sizx3 keex3 hgp
  try dsimp only [Act.put]
  go_wp2_with (first | (refine wpList_load_ar rfl _ _ rfl _ _ _ rfl hfx3 Tryd.arr16b (size16b _) ?_))
  refine (refprepare f _ Hf.out).mono ?_
  rintro e x4 ⟨rfl, hq⟩
  have hfx4 := hfx3.to (by omega) hq
  have hax4 := hax3.to (by omega) hq
  have hbx4 := hbx3.to (by omega) hq
  have hpx4 := hpx3.to (by omega) hq
  have hBx4 := hBx3.trans (hq.mono hBx3.size)
  clear hq hfx3 hax3 hbx3 hpx3 hBx3
  obtain ⟨gkk, hgkk⟩ : ∃ g : Nat, x4.heap.size = g := ⟨_, rfl⟩
  have hlgkk : gp < gkk := by rw [← hgkk]; exact hpx4.lt (by omega)
  have hfx5a := hfx4.alloc (by omega) (.cells (arL 432 fun _ => 0).toArray 29)
  have hax5a := hax4.alloc (by omega) (.cells (arL 432 fun _ => 0).toArray 29)
  have hbx5a := hbx4.alloc (by omega) (.cells (arL 432 fun _ => 0).toArray 29)
  have hpx5a := hpx4.alloc (by omega) (.cells (arL 432 fun _ => 0).toArray 29)
  have hkkx5a := Ar.new x4 432 (fun _ => 0) 29
  have hBx5a := hBx4.alloc hBx4.size (.cells (arL 432 fun _ => 0).toArray 29)
  rw [hgkk] at hkkx5a
  clear hfx4 hax4 hbx4 hpx4 hBx4
  go_upto_region 5 with (first | (refine wpList_store_ar rfl _ _ _ rfl _ _ _ (pkF (ek f) sb) rfl rfl hkkx5a (sizeK _) ?_; intro x5 hkkx5 belx5 sizx5 keex5) | fail)
  have hfx5 := keex5 _ _ _ (by omega) hfx5a
  have hax5 := keex5 _ _ _ (by omega) hax5a
  have hbx5 := keex5 _ _ _ (by omega) hbx5a
  have hpx5 := keex5 _ _ _ (by omega) hpx5a
  have hBx5 := hBx5a.trans (belx5.mono (by omega))
  clear hfx5a hax5a hbx5a hpx5a hkkx5a hBx5a belx5 sizx5 keex5 hgkk
  try dsimp only [Act.put]
  have heq := fun X => eq16_true (f := X) (g := X) (fun _ _ => rfl)
  have hgd := Tryd.eqg16
  have e1 := E1.out
  have e2 := E2.out
  obtain ⟨d, hfs, hrow⟩ := Tryd.structK
  have HS := Lib.hid hfs
  have HW := Lib.hid hrow
  clear hfs hrow E1 E2
  refine wp_region_held_drew (S := fun W => Ar W gf 16 (f) ∧ Ar W ga 16 (a) ∧ Ar W gb 16 (b) ∧ Ar W gp 16 (deF f a) ∧ Ar W gkk 432 (pkF (ek f) sb) ∧ Below w.heap.size w W) (by kernel_rfl) ⟨hfx5.drew, hax5.drew, hbx5.drew, hpx5.drew, hkkx5.drew, hBx5.drew⟩ (fun hHeld => ?_)
  clear hfx5 hax5 hbx5 hpx5 hkkx5 hBx5
  refine wpAnyH_take (i := 0) (v := .agg (arL 432 (pkF (ek f) sb)).toArray) rfl (by kernel_rfl) (by kernel_rfl) (by kernel_rfl) (fun _ _ _ h => h) (yieldsIf_load_mid (by rfl) _ _ rfl gkk 0 rfl (arL 432 (pkF (ek f) sb)) _ (fun W hSw => hSw.2.2.2.2.1.range) HS.out HW.out (sizeK _)) (by assumption) ?_
  simp only [Act.put, List.setIfInBounds_toArray, List.set_cons_zero, List.set_cons_succ, List.getElem_toArray, List.getElem_cons_zero]
  refine wpAnyH_take (i := 1) (v := .agg (arL 16 (deF f a)).toArray) rfl (by kernel_rfl) (by kernel_rfl) (by kernel_rfl) (fun _ _ _ h => h) (yieldsIf_load_mid (by rfl) _ _ rfl gp 0 rfl (arL 16 (deF f a)) _ (fun W hSw => hSw.2.2.2.1.range) Tryd.arr16b rfl (size16b _)) (by assumption) ?_
  simp only [Act.put, List.setIfInBounds_toArray, List.set_cons_zero, List.set_cons_succ, List.getElem_toArray, List.getElem_cons_zero, List.getElem_cons_succ]
  refine wpAnyH_take (i := 3) (v := .agg (arL 16 (a)).toArray) rfl (by kernel_rfl) (by kernel_rfl) (by kernel_rfl) (fun _ _ _ h => h) (yieldsIf_load_mid (by rfl) _ _ rfl ga 0 rfl (arL 16 (a)) _ (fun W hSw => hSw.2.1.range) Tryd.arr16b rfl (size16b _)) (by assumption) ?_
  simp only [Act.put, List.setIfInBounds_toArray, List.set_cons_zero, List.set_cons_succ, List.getElem_toArray, List.getElem_cons_zero, List.getElem_cons_succ]
  refine wpAnyH_ready (rs := [2]) (by kernel_rfl) (by simp) ?_
  refine AllReadyH.cons rfl (fun K hK => ?_) AllReadyH.nil
  go_simp
  refine (xRefDec f a _ Hf.out Ha.out).mono ?_
  rintro e y5 ⟨rfl, hq⟩
  go_wp2_with fail
  refine hK.out _ _ ⟨(hHeld.1).to (by omega) hq, (hHeld.2.1).to (by omega) hq, (hHeld.2.2.1).to (by omega) hq, (hHeld.2.2.2.1).to (by omega) hq, (hHeld.2.2.2.2.1).to (by omega) hq, (hHeld.2.2.2.2.2).trans (hq.mono (hHeld.2.2.2.2.2).size)⟩ (fun hHeld2 => ?_)
  clear hK K hHeld hq
  have hHeld := hHeld2
  clear hHeld2
  try simp only [Act.put, List.setIfInBounds_toArray, List.set_cons_zero, List.set_cons_succ, List.getElem_toArray, List.getElem_cons_zero, List.getElem_cons_succ]
  refine wpAnyH_take (i := 4) (v := ?vq6) rfl (by kernel_rfl) (by kernel_rfl) (by kernel_rfl) (fun _ _ _ h => h) (Or.inl ⟨by rfl, ?hyq6⟩) (by assumption) ?restq6
  case hyq6 =>
    intro W hSw
    go_simp
    try with_reducible rfl
  simp only [Act.put, List.setIfInBounds_toArray, List.set_cons_zero, List.set_cons_succ, List.getElem_toArray, List.getElem_cons_zero, List.getElem_cons_succ]
  refine wpAnyH_take (i := 5) (v := ?vq7) rfl (by kernel_rfl) (by kernel_rfl) (by kernel_rfl) (fun _ _ _ h => h) (Or.inl ⟨by rfl, ?hyq7⟩) (by assumption) ?restq7
  case hyq7 =>
    intro W hSw
    go_simp
    try with_reducible rfl
  simp only [Act.put, List.setIfInBounds_toArray, List.set_cons_zero, List.set_cons_succ, List.getElem_toArray, List.getElem_cons_zero, List.getElem_cons_succ]
  refine wpAnyH_take (i := 6) (v := .agg (arL 16 (f)).toArray) rfl (by kernel_rfl) (by kernel_rfl) (by kernel_rfl) (fun _ _ _ h => h) (yieldsIf_load_mid (by rfl) _ _ rfl gf 0 rfl (arL 16 (f)) _ (fun W hSw => hSw.1.range) Tryd.arr16b rfl (size16b _)) (by assumption) ?_
  simp only [Act.put, List.setIfInBounds_toArray, List.set_cons_zero, List.set_cons_succ, List.getElem_toArray, List.getElem_cons_zero, List.getElem_cons_succ]
  refine wpAnyH_take (i := 7) (v := .agg (arL 16 (deF f a)).toArray) rfl (by kernel_rfl) (by kernel_rfl) (by kernel_rfl) (fun _ _ _ h => h) (yieldsIf_load_mid (by rfl) _ _ rfl gp 0 rfl (arL 16 (deF f a)) _ (fun W hSw => hSw.2.2.2.1.range) Tryd.arr16b rfl (size16b _)) (by assumption) ?_
  simp only [Act.put, List.setIfInBounds_toArray, List.set_cons_zero, List.set_cons_succ, List.getElem_toArray, List.getElem_cons_zero, List.getElem_cons_succ]
  refine wpAnyH_take (i := 9) (v := .agg (arL 16 (a)).toArray) rfl (by kernel_rfl) (by kernel_rfl) (by kernel_rfl) (fun _ _ _ h => h) (yieldsIf_load_mid (by rfl) _ _ rfl ga 0 rfl (arL 16 (a)) _ (fun W hSw => hSw.2.1.range) Tryd.arr16b rfl (size16b _)) (by assumption) ?_
  simp only [Act.put, List.setIfInBounds_toArray, List.set_cons_zero, List.set_cons_succ, List.getElem_toArray, List.getElem_cons_zero, List.getElem_cons_succ]
  refine wpAnyH_ready (rs := [8]) (by kernel_rfl) (by simp) ?_
  refine AllReadyH.cons rfl (fun K hK => ?_) AllReadyH.nil
  go_simp
  refine (xEncDec f a _ Hf.out Ha.out (HX.out.keep (hHeld.2.2.2.2.2))).mono ?_
  rintro e y8 ⟨rfl, hq⟩
  go_wp2_with fail
  refine hK.out _ _ ⟨(hHeld.1).to (by omega) hq, (hHeld.2.1).to (by omega) hq, (hHeld.2.2.1).to (by omega) hq, (hHeld.2.2.2.1).to (by omega) hq, (hHeld.2.2.2.2.1).to (by omega) hq, (hHeld.2.2.2.2.2).trans (hq.mono (hHeld.2.2.2.2.2).size)⟩ (fun hHeld2 => ?_)
  clear hK K hHeld hq
  have hHeld := hHeld2
  clear hHeld2
  try simp only [Act.put, List.setIfInBounds_toArray, List.set_cons_zero, List.set_cons_succ, List.getElem_toArray, List.getElem_cons_zero, List.getElem_cons_succ]
  refine wpAnyH_take (i := 10) (v := ?vq9) rfl (by kernel_rfl) (by kernel_rfl) (by kernel_rfl) (fun _ _ _ h => h) (Or.inl ⟨by rfl, ?hyq9⟩) (by assumption) ?restq9
  case hyq9 =>
    intro W hSw
    go_simp
    try with_reducible rfl
  simp only [Act.put, List.setIfInBounds_toArray, List.set_cons_zero, List.set_cons_succ, List.getElem_toArray, List.getElem_cons_zero, List.getElem_cons_succ]
  refine wpAnyH_take (i := 11) (v := ?vq10) rfl (by kernel_rfl) (by kernel_rfl) (by kernel_rfl) (fun _ _ _ h => h) (Or.inl ⟨by rfl, ?hyq10⟩) (by assumption) ?restq10
  case hyq10 =>
    intro W hSw
    go_simp
    try with_reducible rfl
  simp only [Act.put, List.setIfInBounds_toArray, List.set_cons_zero, List.set_cons_succ, List.getElem_toArray, List.getElem_cons_zero, List.getElem_cons_succ]
  refine wpAnyH_take (i := 12) (v := ?vq11) rfl (by kernel_rfl) (by kernel_rfl) (by kernel_rfl) (fun _ _ _ h => h) (Or.inl ⟨by rfl, ?hyq11⟩) (by assumption) ?restq11
  case hyq11 =>
    intro W hSw
    go_simp
    try with_reducible rfl
  simp only [Act.put, List.setIfInBounds_toArray, List.set_cons_zero, List.set_cons_succ, List.getElem_toArray, List.getElem_cons_zero, List.getElem_cons_succ]
  refine wpAnyH_take (i := 13) (v := .agg (arL 16 (f)).toArray) rfl (by kernel_rfl) (by kernel_rfl) (by kernel_rfl) (fun _ _ _ h => h) (yieldsIf_load_mid (by rfl) _ _ rfl gf 0 rfl (arL 16 (f)) _ (fun W hSw => hSw.1.range) Tryd.arr16b rfl (size16b _)) (by assumption) ?_
  simp only [Act.put, List.setIfInBounds_toArray, List.set_cons_zero, List.set_cons_succ, List.getElem_toArray, List.getElem_cons_zero, List.getElem_cons_succ]
  refine wpAnyH_take (i := 14) (v := .agg (arL 16 (a)).toArray) rfl (by kernel_rfl) (by kernel_rfl) (by kernel_rfl) (fun _ _ _ h => h) (yieldsIf_load_mid (by rfl) _ _ rfl ga 0 rfl (arL 16 (a)) _ (fun W hSw => hSw.2.1.range) Tryd.arr16b rfl (size16b _)) (by assumption) ?_
  simp only [Act.put, List.setIfInBounds_toArray, List.set_cons_zero, List.set_cons_succ, List.getElem_toArray, List.getElem_cons_zero, List.getElem_cons_succ]
  refine wpAnyH_take (i := 16) (v := .agg (arL 16 (f)).toArray) rfl (by kernel_rfl) (by kernel_rfl) (by kernel_rfl) (fun _ _ _ h => h) (yieldsIf_load_mid (by rfl) _ _ rfl gf 0 rfl (arL 16 (f)) _ (fun W hSw => hSw.1.range) Tryd.arr16b rfl (size16b _)) (by assumption) ?_
  simp only [Act.put, List.setIfInBounds_toArray, List.set_cons_zero, List.set_cons_succ, List.getElem_toArray, List.getElem_cons_zero, List.getElem_cons_succ]
  refine wpAnyH_take (i := 17) (v := .agg (arL 16 (b)).toArray) rfl (by kernel_rfl) (by kernel_rfl) (by kernel_rfl) (fun _ _ _ h => h) (yieldsIf_load_mid (by rfl) _ _ rfl gb 0 rfl (arL 16 (b)) _ (fun W hSw => hSw.2.2.1.range) Tryd.arr16b rfl (size16b _)) (by assumption) ?_
  simp only [Act.put, List.setIfInBounds_toArray, List.set_cons_zero, List.set_cons_succ, List.getElem_toArray, List.getElem_cons_zero, List.getElem_cons_succ]
  refine wpAnyH_take (i := 20) (v := .agg (arL 16 (a)).toArray) rfl (by kernel_rfl) (by kernel_rfl) (by kernel_rfl) (fun _ _ _ h => h) (yieldsIf_load_mid (by rfl) _ _ rfl ga 0 rfl (arL 16 (a)) _ (fun W hSw => hSw.2.1.range) Tryd.arr16b rfl (size16b _)) (by assumption) ?_
  simp only [Act.put, List.setIfInBounds_toArray, List.set_cons_zero, List.set_cons_succ, List.getElem_toArray, List.getElem_cons_zero, List.getElem_cons_succ]
  refine wpAnyH_take (i := 21) (v := .agg (arL 16 (b)).toArray) rfl (by kernel_rfl) (by kernel_rfl) (by kernel_rfl) (fun _ _ _ h => h) (yieldsIf_load_mid (by rfl) _ _ rfl gb 0 rfl (arL 16 (b)) _ (fun W hSw => hSw.2.2.1.range) Tryd.arr16b rfl (size16b _)) (by assumption) ?_
  simp only [Act.put, List.setIfInBounds_toArray, List.set_cons_zero, List.set_cons_succ, List.getElem_toArray, List.getElem_cons_zero, List.getElem_cons_succ]
  refine wpAnyH_take (i := 22) (v := ?vq12) rfl (by kernel_rfl) (by kernel_rfl) (by kernel_rfl) (fun _ _ _ h => h) (Or.inl ⟨by rfl, ?hyq12⟩) (by assumption) ?restq12
  case hyq12 =>
    intro W hSw
    go_simp
    try with_reducible rfl
  simp only [Act.put, List.setIfInBounds_toArray, List.set_cons_zero, List.set_cons_succ, List.getElem_toArray, List.getElem_cons_zero, List.getElem_cons_succ]
  refine wpAnyH_ready (rs := [15]) (by kernel_rfl) (by simp) ?_
  refine AllReadyH.cons rfl (fun K hK => ?_) AllReadyH.nil
  go_simp
  refine (cencrypt f a _ Hf.out Ha.out (HX.out.keep (hHeld.2.2.2.2.2))).mono ?_
  rintro e y13 ⟨rfl, hq⟩
  go_wp2_with fail
  refine hK.out _ _ ⟨(hHeld.1).to (by omega) hq, (hHeld.2.1).to (by omega) hq, (hHeld.2.2.1).to (by omega) hq, (hHeld.2.2.2.1).to (by omega) hq, (hHeld.2.2.2.2.1).to (by omega) hq, (hHeld.2.2.2.2.2).trans (hq.mono (hHeld.2.2.2.2.2).size)⟩ (fun hHeld2 => ?_)
  clear hK K hHeld hq
  have hHeld := hHeld2
  clear hHeld2
  try simp only [Act.put, List.setIfInBounds_toArray, List.set_cons_zero, List.set_cons_succ, List.getElem_toArray, List.getElem_cons_zero, List.getElem_cons_succ]
  refine wpAnyH_ready (rs := [18]) (by kernel_rfl) (by simp) ?_
  refine AllReadyH.cons rfl (fun K hK => ?_) AllReadyH.nil
  go_simp
  refine (cencrypt f b _ Hf.out Hb.out (HX.out.keep (hHeld.2.2.2.2.2))).mono ?_
  rintro e y14 ⟨rfl, hq⟩
  go_wp2_with fail
  refine hK.out _ _ ⟨(hHeld.1).to (by omega) hq, (hHeld.2.1).to (by omega) hq, (hHeld.2.2.1).to (by omega) hq, (hHeld.2.2.2.1).to (by omega) hq, (hHeld.2.2.2.2.1).to (by omega) hq, (hHeld.2.2.2.2.2).trans (hq.mono (hHeld.2.2.2.2.2).size)⟩ (fun hHeld2 => ?_)
  clear hK K hHeld hq
  have hHeld := hHeld2
  clear hHeld2
  try simp only [Act.put, List.setIfInBounds_toArray, List.set_cons_zero, List.set_cons_succ, List.getElem_toArray, List.getElem_cons_zero, List.getElem_cons_succ]
  refine wpAnyH_take (i := 19) (v := ?vq15) rfl (by kernel_rfl) (by kernel_rfl) (by kernel_rfl) (fun _ _ _ h => h) (Or.inl ⟨by rfl, ?hyq15⟩) (by assumption) ?restq15
  case hyq15 =>
    intro W hSw
    go_simp
    try with_reducible rfl
  simp only [Act.put, List.setIfInBounds_toArray, List.set_cons_zero, List.set_cons_succ, List.getElem_toArray, List.getElem_cons_zero, List.getElem_cons_succ]
  refine wpAnyH_take (i := 23) (v := ?vq16) rfl (by kernel_rfl) (by kernel_rfl) (by kernel_rfl) (fun _ _ _ h => h) (Or.inl ⟨by rfl, ?hyq16⟩) (by assumption) ?restq16
  case hyq16 =>
    intro W hSw
    go_simp
    try with_reducible rfl
  simp only [Act.put, List.setIfInBounds_toArray, List.set_cons_zero, List.set_cons_succ, List.getElem_toArray, List.getElem_cons_zero, List.getElem_cons_succ]
  refine wpAnyH_take (i := 24) (v := ?vq17) rfl (by kernel_rfl) (by kernel_rfl) (by kernel_rfl) (fun _ _ _ h => h) (Or.inl ⟨by rfl, ?hyq17⟩) (by assumption) ?restq17
  case hyq17 =>
    intro W hSw
    go_simp
    try with_reducible rfl
  simp only [Act.put, List.setIfInBounds_toArray, List.set_cons_zero, List.set_cons_succ, List.getElem_toArray, List.getElem_cons_zero, List.getElem_cons_succ]
  refine wpAnyH_take (i := 25) (v := ?vq18) rfl (by kernel_rfl) (by kernel_rfl) (by kernel_rfl) (fun _ _ _ h => h) (Or.inl ⟨by rfl, ?hyq18⟩) (by assumption) ?restq18
  case hyq18 =>
    intro W hSw
    go_simp
    try with_reducible rfl
  simp only [Act.put, List.setIfInBounds_toArray, List.set_cons_zero, List.set_cons_succ, List.getElem_toArray, List.getElem_cons_zero, List.getElem_cons_succ]
  refine wpAnyH_done (by kernel_rfl) ?_ _
  have hBe := hHeld.2.2.2.2.2
  clear hHeld
  go_wp2_with fail
  go_ret
  exact ⟨rfl, hBe⟩
end Go.Proofs.YtghcpfcomhfppaaDoor
