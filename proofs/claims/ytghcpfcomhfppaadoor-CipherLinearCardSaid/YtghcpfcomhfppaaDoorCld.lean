/-
  The walk of the law CipherLinear of layer 6: for any two blocks it returns true, and writes nothing that was there.
-/
import Derived.Test.YtghcpfcomhfppaaDoorCxl
import Derived.Test.YtghcpfcomhfppaaDoorCaw
import Derived.Test.YtghcpfcomhfppaaDoorEqs
import Derived.Deep.RegionHeld3
namespace Go.Proofs.YtghcpfcomhfppaaDoor
open Go.RowKit
set_option linter.unusedVariables false
set_option maxRecDepth 100000

set_option maxHeartbeats 8000000 in
theorem clinear (a b : Nat → Nat) (w : World) (ha : ∀ j, j < 16 → a j < 256) (hb : ∀ j, j < 16 → b j < 256) (h : Boxes w) :
    Calls Tryd.prog 6 #[.agg (arL 16 a).toArray, .agg (arL 16 b).toArray] w fun e w' => e = .returned (.bool true) ∧ Below w.heap.size w w' := by
  have hz := zero16b
  have hzG := zeroG
  have hz256 := zero256
  have hzK := zeroK
  have hz176 := zero176e
  have HX := Lib.hid h
  have Ha := Lib.hid (show B16 a from ha)
  have Hb := Lib.hid (show B16 b from hb)
  obtain ⟨ka, hka⟩ : ∃ k : Array Value, (arL 16 a).toArray = k := ⟨_, rfl⟩
  obtain ⟨kb, hkb⟩ : ∃ k : Array Value, (arL 16 b).toArray = k := ⟨_, rfl⟩
  obtain ⟨w1, hw1⟩ : ∃ V : World, V = w.alloc (.cells (arL 16 a).toArray 22) := ⟨_, rfl⟩
  have hs1 : w1.heap.size = w.heap.size + 1 := by rw [hw1]; simp
  have hBw1 : Below w.heap.size w w1 := by rw [hw1]; exact (Below.refl _ _).alloc (Nat.le_refl _) _
  have haw1 : Ar w1 w.heap.size 16 a := by rw [hw1]; exact Ar.new w 16 a _
  obtain ⟨w2, hw2⟩ : ∃ V : World, V = w1.alloc (.cells (arL 16 b).toArray 22) := ⟨_, rfl⟩
  have hs2 : w2.heap.size = w.heap.size + 2 := by rw [hw2]; simp [hs1]
  have hBw2 : Below w.heap.size w w2 := by rw [hw2]; exact hBw1.alloc (by omega) _
  have haw2 := haw1.alloc (by omega) (.cells (arL 16 b).toArray 22)
  rw [← hw2] at haw2
  have hbw2 : Ar w2 (w.heap.size + 1) 16 b := by rw [hw2, ← hs1]; exact Ar.new w1 16 b _
  rw [hka] at hw1
  rw [hkb] at hw2
  rw [hka, hkb]
  clear hka hkb h ha hb
  go_enter Tryd.func6, Tryd.ntmps6
  go_upto_region 1 with fail
  rw [← hw1, ← hw2]
  clear hw1 hw2
  try simp only [Nat.add_assoc, Nat.reduceAdd]
  obtain ⟨ga, hga⟩ : ∃ g : Nat, w.heap.size = g := ⟨_, rfl⟩
  obtain ⟨gb, hgb⟩ : ∃ g : Nat, w.heap.size + 1 = g := ⟨_, rfl⟩
  rw [hga] at haw2
  rw [hgb] at hbw2
  try rw [hgb]
  have hla : w.heap.size ≤ ga := by omega
  have hlb : w.heap.size ≤ gb := by omega
  have hltb : ga < gb := by omega
  clear hgb hs1 hs2
  go_wp2_with fail
  refine (cawake _ (HX.out.keep hBw2)).mono ?_
  rintro e x1 ⟨rfl, hq⟩
  have hax1 := haw2.to (by omega) hq
  have hbx1 := hbw2.to (by omega) hq
  have hBx1 := hBw2.trans (hq.mono hBw2.size)
  clear hq haw2 hbw2 hBw2
  go_wp2_with (first | (refine wpList_load_ar rfl _ _ rfl _ _ _ rfl hax1 Tryd.arr16b (size16b _) ?_) | (refine wpList_load_ar rfl _ _ rfl _ _ _ rfl hbx1 Tryd.arr16b (size16b _) ?_))
  refine (cadd a b _ Ha.out Hb.out).mono ?_
  rintro e x2 ⟨rfl, hq⟩
  have hax2 := hax1.to (by omega) hq
  have hbx2 := hbx1.to (by omega) hq
  have hBx2 := hBx1.trans (hq.mono hBx1.size)
  clear hq hax1 hbx1 hBx1
  obtain ⟨gz, hgz⟩ : ∃ g : Nat, x2.heap.size = g := ⟨_, rfl⟩
  have hlgz : gb < gz := by rw [← hgz]; exact hbx2.lt (by omega)
  have hax3a := hax2.alloc (by omega) (.cells (arL 16 fun _ => 0).toArray 22)
  have hbx3a := hbx2.alloc (by omega) (.cells (arL 16 fun _ => 0).toArray 22)
  have hzx3a := Ar.new x2 16 (fun _ => 0) 22
  have hBx3a := hBx2.alloc hBx2.size (.cells (arL 16 fun _ => 0).toArray 22)
  rw [hgz] at hzx3a
  clear hax2 hbx2 hBx2
  go_upto_region 4 with (first | (refine wpList_store_ar rfl _ _ _ rfl _ _ _ (adF a b) rfl rfl hzx3a (size16b _) ?_; intro x3 hzx3 belx3 sizx3 keex3) | fail)
  have hax3 := keex3 _ _ _ (by omega) hax3a
  have hbx3 := keex3 _ _ _ (by omega) hbx3a
  have hBx3 := hBx3a.trans (belx3.mono (by omega))
  clear hax3a hbx3a hzx3a hBx3a belx3 sizx3 keex3 hgz
  try dsimp only [Act.put]
  have heq := fun X => eq16_true (f := X) (g := X) (fun _ _ => rfl)
  have hgd := Tryd.eqg16
  refine wp_region_held_drew (S := fun W => Ar W ga 16 (a) ∧ Ar W gb 16 (b) ∧ Ar W gz 16 (adF a b) ∧ Below w.heap.size w W) (by kernel_rfl) ⟨hax3.drew, hbx3.drew, hzx3.drew, hBx3.drew⟩ (fun hHeld => ?_)
  clear hax3 hbx3 hzx3 hBx3
  refine wpAnyH_take (i := 0) (v := .agg (arL 16 (adF a b)).toArray) rfl (by kernel_rfl) (by kernel_rfl) (by kernel_rfl) (fun _ _ _ h => h) (yieldsIf_load_mid (by rfl) _ _ rfl gz 0 rfl (arL 16 (adF a b)) _ (fun W hSw => hSw.2.2.1.range) Tryd.arr16b rfl (size16b _)) (by assumption) ?_
  simp only [Act.put, List.setIfInBounds_toArray, List.set_cons_zero, List.set_cons_succ, List.getElem_toArray, List.getElem_cons_zero]
  refine wpAnyH_take (i := 2) (v := .agg (arL 16 (a)).toArray) rfl (by kernel_rfl) (by kernel_rfl) (by kernel_rfl) (fun _ _ _ h => h) (yieldsIf_load_mid (by rfl) _ _ rfl ga 0 rfl (arL 16 (a)) _ (fun W hSw => hSw.1.range) Tryd.arr16b rfl (size16b _)) (by assumption) ?_
  simp only [Act.put, List.setIfInBounds_toArray, List.set_cons_zero, List.set_cons_succ, List.getElem_toArray, List.getElem_cons_zero, List.getElem_cons_succ]
  refine wpAnyH_take (i := 4) (v := .agg (arL 16 (b)).toArray) rfl (by kernel_rfl) (by kernel_rfl) (by kernel_rfl) (fun _ _ _ h => h) (yieldsIf_load_mid (by rfl) _ _ rfl gb 0 rfl (arL 16 (b)) _ (fun W hSw => hSw.2.1.range) Tryd.arr16b rfl (size16b _)) (by assumption) ?_
  simp only [Act.put, List.setIfInBounds_toArray, List.set_cons_zero, List.set_cons_succ, List.getElem_toArray, List.getElem_cons_zero, List.getElem_cons_succ]
  refine wpAnyH_ready (rs := [1]) (by kernel_rfl) (by simp) ?_
  refine AllReadyH.cons rfl (fun K hK => ?_) AllReadyH.nil
  go_simp
  refine (xMixSum a b _ Ha.out Hb.out).mono ?_
  rintro e y3 ⟨rfl, hq⟩
  go_wp2_with fail
  refine hK.out _ _ ⟨(hHeld.1).to (by omega) hq, (hHeld.2.1).to (by omega) hq, (hHeld.2.2.1).to (by omega) hq, (hHeld.2.2.2).trans (hq.mono (hHeld.2.2.2).size)⟩ (fun hHeld2 => ?_)
  clear hK K hHeld hq
  have hHeld := hHeld2
  clear hHeld2
  try simp only [Act.put, List.setIfInBounds_toArray, List.set_cons_zero, List.set_cons_succ, List.getElem_toArray, List.getElem_cons_zero, List.getElem_cons_succ]
  refine wpAnyH_ready (rs := [3]) (by kernel_rfl) (by simp) ?_
  refine AllReadyH.cons rfl (fun K hK => ?_) AllReadyH.nil
  go_simp
  refine (cmix a _ Ha.out).mono ?_
  rintro e y4 ⟨rfl, hq⟩
  go_wp2_with fail
  refine hK.out _ _ ⟨(hHeld.1).to (by omega) hq, (hHeld.2.1).to (by omega) hq, (hHeld.2.2.1).to (by omega) hq, (hHeld.2.2.2).trans (hq.mono (hHeld.2.2.2).size)⟩ (fun hHeld2 => ?_)
  clear hK K hHeld hq
  have hHeld := hHeld2
  clear hHeld2
  try simp only [Act.put, List.setIfInBounds_toArray, List.set_cons_zero, List.set_cons_succ, List.getElem_toArray, List.getElem_cons_zero, List.getElem_cons_succ]
  refine wpAnyH_ready (rs := [5]) (by kernel_rfl) (by simp) ?_
  refine AllReadyH.cons rfl (fun K hK => ?_) AllReadyH.nil
  go_simp
  refine (cmix b _ Hb.out).mono ?_
  rintro e y5 ⟨rfl, hq⟩
  go_wp2_with fail
  refine hK.out _ _ ⟨(hHeld.1).to (by omega) hq, (hHeld.2.1).to (by omega) hq, (hHeld.2.2.1).to (by omega) hq, (hHeld.2.2.2).trans (hq.mono (hHeld.2.2.2).size)⟩ (fun hHeld2 => ?_)
  clear hK K hHeld hq
  have hHeld := hHeld2
  clear hHeld2
  try simp only [Act.put, List.setIfInBounds_toArray, List.set_cons_zero, List.set_cons_succ, List.getElem_toArray, List.getElem_cons_zero, List.getElem_cons_succ]
  refine wpAnyH_ready (rs := [6]) (by kernel_rfl) (by simp) ?_
  refine AllReadyH.cons rfl (fun K hK => ?_) AllReadyH.nil
  go_simp
  refine (cadd (miF a) (miF b) _ (miF_lt a) (miF_lt b)).mono ?_
  rintro e y6 ⟨rfl, hq⟩
  go_wp2_with fail
  refine hK.out _ _ ⟨(hHeld.1).to (by omega) hq, (hHeld.2.1).to (by omega) hq, (hHeld.2.2.1).to (by omega) hq, (hHeld.2.2.2).trans (hq.mono (hHeld.2.2.2).size)⟩ (fun hHeld2 => ?_)
  clear hK K hHeld hq
  have hHeld := hHeld2
  clear hHeld2
  try simp only [Act.put, List.setIfInBounds_toArray, List.set_cons_zero, List.set_cons_succ, List.getElem_toArray, List.getElem_cons_zero, List.getElem_cons_succ]
  refine wpAnyH_take (i := 7) (v := ?vq7) rfl (by kernel_rfl) (by kernel_rfl) (by kernel_rfl) (fun _ _ _ h => h) (Or.inl ⟨by rfl, ?hyq7⟩) (by assumption) ?restq7
  case hyq7 =>
    intro W hSw
    go_simp
    try with_reducible rfl
  simp only [Act.put, List.setIfInBounds_toArray, List.set_cons_zero, List.set_cons_succ, List.getElem_toArray, List.getElem_cons_zero, List.getElem_cons_succ]
  refine wpAnyH_take (i := 8) (v := ?vq8) rfl (by kernel_rfl) (by kernel_rfl) (by kernel_rfl) (fun _ _ _ h => h) (Or.inl ⟨by rfl, ?hyq8⟩) (by assumption) ?restq8
  case hyq8 =>
    intro W hSw
    go_simp
    try with_reducible rfl
  simp only [Act.put, List.setIfInBounds_toArray, List.set_cons_zero, List.set_cons_succ, List.getElem_toArray, List.getElem_cons_zero, List.getElem_cons_succ]
  refine wpAnyH_take (i := 9) (v := .agg (arL 16 (adF a b)).toArray) rfl (by kernel_rfl) (by kernel_rfl) (by kernel_rfl) (fun _ _ _ h => h) (yieldsIf_load_mid (by rfl) _ _ rfl gz 0 rfl (arL 16 (adF a b)) _ (fun W hSw => hSw.2.2.1.range) Tryd.arr16b rfl (size16b _)) (by assumption) ?_
  simp only [Act.put, List.setIfInBounds_toArray, List.set_cons_zero, List.set_cons_succ, List.getElem_toArray, List.getElem_cons_zero, List.getElem_cons_succ]
  refine wpAnyH_take (i := 11) (v := .agg (arL 16 (a)).toArray) rfl (by kernel_rfl) (by kernel_rfl) (by kernel_rfl) (fun _ _ _ h => h) (yieldsIf_load_mid (by rfl) _ _ rfl ga 0 rfl (arL 16 (a)) _ (fun W hSw => hSw.1.range) Tryd.arr16b rfl (size16b _)) (by assumption) ?_
  simp only [Act.put, List.setIfInBounds_toArray, List.set_cons_zero, List.set_cons_succ, List.getElem_toArray, List.getElem_cons_zero, List.getElem_cons_succ]
  refine wpAnyH_take (i := 13) (v := .agg (arL 16 (b)).toArray) rfl (by kernel_rfl) (by kernel_rfl) (by kernel_rfl) (fun _ _ _ h => h) (yieldsIf_load_mid (by rfl) _ _ rfl gb 0 rfl (arL 16 (b)) _ (fun W hSw => hSw.2.1.range) Tryd.arr16b rfl (size16b _)) (by assumption) ?_
  simp only [Act.put, List.setIfInBounds_toArray, List.set_cons_zero, List.set_cons_succ, List.getElem_toArray, List.getElem_cons_zero, List.getElem_cons_succ]
  refine wpAnyH_ready (rs := [10]) (by kernel_rfl) (by simp) ?_
  refine AllReadyH.cons rfl (fun K hK => ?_) AllReadyH.nil
  go_simp
  refine (xShiftSum a b _).mono ?_
  rintro e y9 ⟨rfl, hq⟩
  go_wp2_with fail
  refine hK.out _ _ ⟨(hHeld.1).to (by omega) hq, (hHeld.2.1).to (by omega) hq, (hHeld.2.2.1).to (by omega) hq, (hHeld.2.2.2).trans (hq.mono (hHeld.2.2.2).size)⟩ (fun hHeld2 => ?_)
  clear hK K hHeld hq
  have hHeld := hHeld2
  clear hHeld2
  try simp only [Act.put, List.setIfInBounds_toArray, List.set_cons_zero, List.set_cons_succ, List.getElem_toArray, List.getElem_cons_zero, List.getElem_cons_succ]
  refine wpAnyH_ready (rs := [12]) (by kernel_rfl) (by simp) ?_
  refine AllReadyH.cons rfl (fun K hK => ?_) AllReadyH.nil
  go_simp
  refine (cshift a _).mono ?_
  rintro e y10 ⟨rfl, hq⟩
  go_wp2_with fail
  refine hK.out _ _ ⟨(hHeld.1).to (by omega) hq, (hHeld.2.1).to (by omega) hq, (hHeld.2.2.1).to (by omega) hq, (hHeld.2.2.2).trans (hq.mono (hHeld.2.2.2).size)⟩ (fun hHeld2 => ?_)
  clear hK K hHeld hq
  have hHeld := hHeld2
  clear hHeld2
  try simp only [Act.put, List.setIfInBounds_toArray, List.set_cons_zero, List.set_cons_succ, List.getElem_toArray, List.getElem_cons_zero, List.getElem_cons_succ]
  refine wpAnyH_ready (rs := [14]) (by kernel_rfl) (by simp) ?_
  refine AllReadyH.cons rfl (fun K hK => ?_) AllReadyH.nil
  go_simp
  refine (cshift b _).mono ?_
  rintro e y11 ⟨rfl, hq⟩
  go_wp2_with fail
  refine hK.out _ _ ⟨(hHeld.1).to (by omega) hq, (hHeld.2.1).to (by omega) hq, (hHeld.2.2.1).to (by omega) hq, (hHeld.2.2.2).trans (hq.mono (hHeld.2.2.2).size)⟩ (fun hHeld2 => ?_)
  clear hK K hHeld hq
  have hHeld := hHeld2
  clear hHeld2
  try simp only [Act.put, List.setIfInBounds_toArray, List.set_cons_zero, List.set_cons_succ, List.getElem_toArray, List.getElem_cons_zero, List.getElem_cons_succ]
  refine wpAnyH_ready (rs := [15]) (by kernel_rfl) (by simp) ?_
  refine AllReadyH.cons rfl (fun K hK => ?_) AllReadyH.nil
  go_simp
  refine (cadd (shF a) (shF b) _ (shF_lt Ha.out) (shF_lt Hb.out)).mono ?_
  rintro e y12 ⟨rfl, hq⟩
  go_wp2_with fail
  refine hK.out _ _ ⟨(hHeld.1).to (by omega) hq, (hHeld.2.1).to (by omega) hq, (hHeld.2.2.1).to (by omega) hq, (hHeld.2.2.2).trans (hq.mono (hHeld.2.2.2).size)⟩ (fun hHeld2 => ?_)
  clear hK K hHeld hq
  have hHeld := hHeld2
  clear hHeld2
  try simp only [Act.put, List.setIfInBounds_toArray, List.set_cons_zero, List.set_cons_succ, List.getElem_toArray, List.getElem_cons_zero, List.getElem_cons_succ]
  refine wpAnyH_take (i := 16) (v := ?vq13) rfl (by kernel_rfl) (by kernel_rfl) (by kernel_rfl) (fun _ _ _ h => h) (Or.inl ⟨by rfl, ?hyq13⟩) (by assumption) ?restq13
  case hyq13 =>
    intro W hSw
    go_simp
    try with_reducible rfl
  simp only [Act.put, List.setIfInBounds_toArray, List.set_cons_zero, List.set_cons_succ, List.getElem_toArray, List.getElem_cons_zero, List.getElem_cons_succ]
  refine wpAnyH_take (i := 17) (v := ?vq14) rfl (by kernel_rfl) (by kernel_rfl) (by kernel_rfl) (fun _ _ _ h => h) (Or.inl ⟨by rfl, ?hyq14⟩) (by assumption) ?restq14
  case hyq14 =>
    intro W hSw
    go_simp
    try with_reducible rfl
  simp only [Act.put, List.setIfInBounds_toArray, List.set_cons_zero, List.set_cons_succ, List.getElem_toArray, List.getElem_cons_zero, List.getElem_cons_succ]
  refine wpAnyH_take (i := 18) (v := ?vq15) rfl (by kernel_rfl) (by kernel_rfl) (by kernel_rfl) (fun _ _ _ h => h) (Or.inl ⟨by rfl, ?hyq15⟩) (by assumption) ?restq15
  case hyq15 =>
    intro W hSw
    go_simp
    try with_reducible rfl
  simp only [Act.put, List.setIfInBounds_toArray, List.set_cons_zero, List.set_cons_succ, List.getElem_toArray, List.getElem_cons_zero, List.getElem_cons_succ]
  refine wpAnyH_take (i := 19) (v := .agg (arL 16 (adF a b)).toArray) rfl (by kernel_rfl) (by kernel_rfl) (by kernel_rfl) (fun _ _ _ h => h) (yieldsIf_load_mid (by rfl) _ _ rfl gz 0 rfl (arL 16 (adF a b)) _ (fun W hSw => hSw.2.2.1.range) Tryd.arr16b rfl (size16b _)) (by assumption) ?_
  simp only [Act.put, List.setIfInBounds_toArray, List.set_cons_zero, List.set_cons_succ, List.getElem_toArray, List.getElem_cons_zero, List.getElem_cons_succ]
  refine wpAnyH_take (i := 20) (v := .agg (arL 16 (b)).toArray) rfl (by kernel_rfl) (by kernel_rfl) (by kernel_rfl) (fun _ _ _ h => h) (yieldsIf_load_mid (by rfl) _ _ rfl gb 0 rfl (arL 16 (b)) _ (fun W hSw => hSw.2.1.range) Tryd.arr16b rfl (size16b _)) (by assumption) ?_
  simp only [Act.put, List.setIfInBounds_toArray, List.set_cons_zero, List.set_cons_succ, List.getElem_toArray, List.getElem_cons_zero, List.getElem_cons_succ]
  refine wpAnyH_take (i := 22) (v := .agg (arL 16 (a)).toArray) rfl (by kernel_rfl) (by kernel_rfl) (by kernel_rfl) (fun _ _ _ h => h) (yieldsIf_load_mid (by rfl) _ _ rfl ga 0 rfl (arL 16 (a)) _ (fun W hSw => hSw.1.range) Tryd.arr16b rfl (size16b _)) (by assumption) ?_
  simp only [Act.put, List.setIfInBounds_toArray, List.set_cons_zero, List.set_cons_succ, List.getElem_toArray, List.getElem_cons_zero, List.getElem_cons_succ]
  refine wpAnyH_ready (rs := [21]) (by kernel_rfl) (by simp) ?_
  refine AllReadyH.cons rfl (fun K hK => ?_) AllReadyH.nil
  go_simp
  refine (xAddBack a b _ Ha.out Hb.out).mono ?_
  rintro e y16 ⟨rfl, hq⟩
  go_wp2_with fail
  refine hK.out _ _ ⟨(hHeld.1).to (by omega) hq, (hHeld.2.1).to (by omega) hq, (hHeld.2.2.1).to (by omega) hq, (hHeld.2.2.2).trans (hq.mono (hHeld.2.2.2).size)⟩ (fun hHeld2 => ?_)
  clear hK K hHeld hq
  have hHeld := hHeld2
  clear hHeld2
  try simp only [Act.put, List.setIfInBounds_toArray, List.set_cons_zero, List.set_cons_succ, List.getElem_toArray, List.getElem_cons_zero, List.getElem_cons_succ]
  refine wpAnyH_take (i := 23) (v := ?vq17) rfl (by kernel_rfl) (by kernel_rfl) (by kernel_rfl) (fun _ _ _ h => h) (Or.inl ⟨by rfl, ?hyq17⟩) (by assumption) ?restq17
  case hyq17 =>
    intro W hSw
    go_simp
    try with_reducible rfl
  simp only [Act.put, List.setIfInBounds_toArray, List.set_cons_zero, List.set_cons_succ, List.getElem_toArray, List.getElem_cons_zero, List.getElem_cons_succ]
  refine wpAnyH_take (i := 24) (v := ?vq18) rfl (by kernel_rfl) (by kernel_rfl) (by kernel_rfl) (fun _ _ _ h => h) (Or.inl ⟨by rfl, ?hyq18⟩) (by assumption) ?restq18
  case hyq18 =>
    intro W hSw
    go_simp
    try with_reducible rfl
  simp only [Act.put, List.setIfInBounds_toArray, List.set_cons_zero, List.set_cons_succ, List.getElem_toArray, List.getElem_cons_zero, List.getElem_cons_succ]
  refine wpAnyH_take (i := 25) (v := ?vq19) rfl (by kernel_rfl) (by kernel_rfl) (by kernel_rfl) (fun _ _ _ h => h) (Or.inl ⟨by rfl, ?hyq19⟩) (by assumption) ?restq19
  case hyq19 =>
    intro W hSw
    go_simp
    try with_reducible rfl
  simp only [Act.put, List.setIfInBounds_toArray, List.set_cons_zero, List.set_cons_succ, List.getElem_toArray, List.getElem_cons_zero, List.getElem_cons_succ]
  refine wpAnyH_take (i := 26) (v := .agg (arL 16 (a)).toArray) rfl (by kernel_rfl) (by kernel_rfl) (by kernel_rfl) (fun _ _ _ h => h) (yieldsIf_load_mid (by rfl) _ _ rfl ga 0 rfl (arL 16 (a)) _ (fun W hSw => hSw.1.range) Tryd.arr16b rfl (size16b _)) (by assumption) ?_
  simp only [Act.put, List.setIfInBounds_toArray, List.set_cons_zero, List.set_cons_succ, List.getElem_toArray, List.getElem_cons_zero, List.getElem_cons_succ]
  refine wpAnyH_take (i := 29) (v := .agg (arL 16 (a)).toArray) rfl (by kernel_rfl) (by kernel_rfl) (by kernel_rfl) (fun _ _ _ h => h) (yieldsIf_load_mid (by rfl) _ _ rfl ga 0 rfl (arL 16 (a)) _ (fun W hSw => hSw.1.range) Tryd.arr16b rfl (size16b _)) (by assumption) ?_
  simp only [Act.put, List.setIfInBounds_toArray, List.set_cons_zero, List.set_cons_succ, List.getElem_toArray, List.getElem_cons_zero, List.getElem_cons_succ]
  refine wpAnyH_ready (rs := [27]) (by kernel_rfl) (by simp) ?_
  refine AllReadyH.cons rfl (fun K hK => ?_) AllReadyH.nil
  go_simp
  refine (cshift a _).mono ?_
  rintro e y20 ⟨rfl, hq⟩
  go_wp2_with fail
  refine hK.out _ _ ⟨(hHeld.1).to (by omega) hq, (hHeld.2.1).to (by omega) hq, (hHeld.2.2.1).to (by omega) hq, (hHeld.2.2.2).trans (hq.mono (hHeld.2.2.2).size)⟩ (fun hHeld2 => ?_)
  clear hK K hHeld hq
  have hHeld := hHeld2
  clear hHeld2
  try simp only [Act.put, List.setIfInBounds_toArray, List.set_cons_zero, List.set_cons_succ, List.getElem_toArray, List.getElem_cons_zero, List.getElem_cons_succ]
  refine wpAnyH_ready (rs := [28]) (by kernel_rfl) (by simp) ?_
  refine AllReadyH.cons rfl (fun K hK => ?_) AllReadyH.nil
  go_simp
  refine (csub (shF a) _ (shF_lt Ha.out) (HX.out.keep (hHeld.2.2.2))).mono ?_
  rintro e y21 ⟨rfl, hq⟩
  go_wp2_with fail
  refine hK.out _ _ ⟨(hHeld.1).to (by omega) hq, (hHeld.2.1).to (by omega) hq, (hHeld.2.2.1).to (by omega) hq, (hHeld.2.2.2).trans (hq.mono (hHeld.2.2.2).size)⟩ (fun hHeld2 => ?_)
  clear hK K hHeld hq
  have hHeld := hHeld2
  clear hHeld2
  try simp only [Act.put, List.setIfInBounds_toArray, List.set_cons_zero, List.set_cons_succ, List.getElem_toArray, List.getElem_cons_zero, List.getElem_cons_succ]
  refine wpAnyH_ready (rs := [30]) (by kernel_rfl) (by simp) ?_
  refine AllReadyH.cons rfl (fun K hK => ?_) AllReadyH.nil
  go_simp
  refine (csub a _ Ha.out (HX.out.keep (hHeld.2.2.2))).mono ?_
  rintro e y22 ⟨rfl, hq⟩
  go_wp2_with fail
  refine hK.out _ _ ⟨(hHeld.1).to (by omega) hq, (hHeld.2.1).to (by omega) hq, (hHeld.2.2.1).to (by omega) hq, (hHeld.2.2.2).trans (hq.mono (hHeld.2.2.2).size)⟩ (fun hHeld2 => ?_)
  clear hK K hHeld hq
  have hHeld := hHeld2
  clear hHeld2
  try simp only [Act.put, List.setIfInBounds_toArray, List.set_cons_zero, List.set_cons_succ, List.getElem_toArray, List.getElem_cons_zero, List.getElem_cons_succ]
  refine wpAnyH_ready (rs := [31]) (by kernel_rfl) (by simp) ?_
  refine AllReadyH.cons rfl (fun K hK => ?_) AllReadyH.nil
  go_simp
  refine (xShiftSub a _).mono ?_
  rintro e y23 ⟨rfl, hq⟩
  go_wp2_with fail
  refine hK.out _ _ ⟨(hHeld.1).to (by omega) hq, (hHeld.2.1).to (by omega) hq, (hHeld.2.2.1).to (by omega) hq, (hHeld.2.2.2).trans (hq.mono (hHeld.2.2.2).size)⟩ (fun hHeld2 => ?_)
  clear hK K hHeld hq
  have hHeld := hHeld2
  clear hHeld2
  try simp only [Act.put, List.setIfInBounds_toArray, List.set_cons_zero, List.set_cons_succ, List.getElem_toArray, List.getElem_cons_zero, List.getElem_cons_succ]
  refine wpAnyH_take (i := 32) (v := ?vq24) rfl (by kernel_rfl) (by kernel_rfl) (by kernel_rfl) (fun _ _ _ h => h) (Or.inl ⟨by rfl, ?hyq24⟩) (by assumption) ?restq24
  case hyq24 =>
    intro W hSw
    go_simp
    try with_reducible rfl
  simp only [Act.put, List.setIfInBounds_toArray, List.set_cons_zero, List.set_cons_succ, List.getElem_toArray, List.getElem_cons_zero, List.getElem_cons_succ]
  refine wpAnyH_take (i := 33) (v := ?vq25) rfl (by kernel_rfl) (by kernel_rfl) (by kernel_rfl) (fun _ _ _ h => h) (Or.inl ⟨by rfl, ?hyq25⟩) (by assumption) ?restq25
  case hyq25 =>
    intro W hSw
    go_simp
    try with_reducible rfl
  simp only [Act.put, List.setIfInBounds_toArray, List.set_cons_zero, List.set_cons_succ, List.getElem_toArray, List.getElem_cons_zero, List.getElem_cons_succ]
  refine wpAnyH_take (i := 34) (v := ?vq26) rfl (by kernel_rfl) (by kernel_rfl) (by kernel_rfl) (fun _ _ _ h => h) (Or.inl ⟨by rfl, ?hyq26⟩) (by assumption) ?restq26
  case hyq26 =>
    intro W hSw
    go_simp
    try with_reducible rfl
  simp only [Act.put, List.setIfInBounds_toArray, List.set_cons_zero, List.set_cons_succ, List.getElem_toArray, List.getElem_cons_zero, List.getElem_cons_succ]
  refine wpAnyH_done (by kernel_rfl) ?_ _
  have hBe := hHeld.2.2.2
  clear hHeld
  go_wp2_with fail
  go_ret
  exact ⟨rfl, hBe⟩
end Go.Proofs.YtghcpfcomhfppaaDoor
