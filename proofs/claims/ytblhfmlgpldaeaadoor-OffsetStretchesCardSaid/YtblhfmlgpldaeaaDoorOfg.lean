/-
  The check of the documentation's examples of layer 10 returns true. No condition but what the table of S-boxes holds; what was there stays as it was.
-/
import Derived.Test.YtblhfmlgpldaeaaDoorOfw
import Derived.Deep.RegionHeld3
namespace Go.Proofs.YtblhfmlgpldaeaaDoor
open Go.RowKit
set_option linter.unusedVariables false
set_option maxRecDepth 100000

set_option maxHeartbeats 4000000 in
theorem oawake  (w : World)  (hs : Boxes w) :
    Calls Tryd.prog 8 #[] w fun e w' => e = .returned (.bool true) ∧ Below w.heap.size w w' := by
  have HX := Lib.hid hs
  have hz := zero16b
  have hz12 := zero12
  have z0 := Lib.hid run_zero16
  have N255 := Lib.hid run_n255
  have hBw : Below w.heap.size w w := Below.refl _ _
  clear  hs 
  go_enter Tryd.func8, Tryd.ntmps8
  obtain ⟨s, hs0⟩ : ∃ s : Nat → Nat, enF zF zF = s := ⟨_, rfl⟩
  have HS0 := Lib.hid hs0
  have HSL := Lib.hid (show B16 s by rw [← hs0]; exact enR_lt zF_lt zF_lt 10)
  clear hs0
  go_wp2_with (refine wpList_build_by rfl _ _ rfl [] rfl _ (z0.out _) ?_)
  refine (fnew zF _ zF_lt (HX.out.keep hBw)).mono ?_
  rintro e x1 ⟨gC, rfl, hgC, hCx1, hq⟩
  have hBx1 := hBw.trans (hq.mono hBw.size)
  clear hq  hBw
  go_wp2_with fail
  refine (tnew (some ⟨gC, 0, none⟩) zF _ zF_lt (exp_made gC zF _ hCx1) (HX.out.keep hBx1)).mono ?_
  rintro e x2 ⟨gT, rfl, hgT, hTx2, hq⟩
  rw [HS0.out] at hTx2
  have hCx2 := (hCx1).to hq
  have hBx2 := hBx1.trans (hq.mono hBx1.size)
  clear hq hCx1 hBx1
  obtain ⟨t, ht0⟩ : ∃ t : Nat → Nat, enF zF (nbF (nF 255)) = t := ⟨_, rfl⟩
  have HT0 := Lib.hid ht0
  have HT1 := Lib.hid (show enF zF (nbF (nF 192)) = t by rw [nF_nb]; exact ht0)
  obtain ⟨o, ho0⟩ : ∃ o : Nat → Nat, o0F (enF zF (nbF (nF 255))) (nF 255 11) = o := ⟨_, rfl⟩
  have HO := Lib.hid ho0
  clear ht0 ho0
  obtain ⟨N, hN⟩ : ∃ N : Nat → Nat, nF 255 = N := ⟨_, rfl⟩
  have HNB := Lib.hid (show B12 N by rw [← hN]; exact nF_lt 255 (by omega))
  have HBOT := Lib.hid wbot
  rw [hN] at N255 HT0 HO HBOT
  clear hN
  obtain ⟨M, hM⟩ : ∃ M : Nat → Nat, nF 192 = M := ⟨_, rfl⟩
  have HMB := Lib.hid (show B12 M by rw [← hM]; exact nF_lt 192 (by omega))
  have N192 := Lib.hid run_n192
  rw [hM] at N192 HT1
  clear hM
  obtain ⟨gn, hgn⟩ : ∃ g : Nat, x2.heap.size = g := ⟨_, rfl⟩
  have hlCn : gC < gn := by rw [← hgn]; exact hCx2.lt
  have hlTn : gT < gn := by rw [← hgn]; exact hTx2.lt
  have hlwn : w.heap.size ≤ gn := by rw [← hgn]; exact hBx2.size
  have hq : Below x2.heap.size x2 (x2.alloc (.cells (arL 12 fun _ => 0).toArray 23)) := (Below.refl _ _).alloc (Nat.le_refl _) _
  have hCx3a := (hCx2).to hq
  have hTx3a := (hTx2).to hq
  have hnx3a := Ar.new x2 12 (fun _ => 0) 23
  have hBx3a := hBx2.alloc hBx2.size (.cells (arL 12 fun _ => 0).toArray 23)
  rw [hgn] at hnx3a
  clear hq hCx2 hTx2 hBx2
  go_upto_region 3 with (first | (refine wpList_build_by rfl _ _ rfl [(11, .int .u8 255)] rfl _ (N255.out _) ?_) | (refine wpList_store_ar rfl _ _ _ rfl _ _ _ N rfl rfl hnx3a (size12 _) ?_; intro x3 hnx3 bel siz kee) | fail)
  have hCx3 := (hCx3a).keep hlCn bel
  have hTx3 := (hTx3a).keep hlTn bel
  have hBx3 := hBx3a.trans (bel.mono hlwn)
  clear hCx3a hTx3a hnx3a hBx3a bel siz kee hgn
  try dsimp only [Act.put]
  have z0 := run_zero16
  have O16 := Lib.hid run_o16
  have O24 := Lib.hid run_o24
  have heq24 := eq24_true e_st
  have hgd24 := Tryd.eqg24
  have heq := fun X => eq16_true (f := X) (g := X) (fun _ _ => rfl)
  have hgd := Tryd.eqg16
  refine wp_region_held_drew (S := fun W => Ar W gn 12 (N) ∧ Ci W gC (zF) ∧ Ti W gT (some ⟨gC, 0, none⟩) (s) ∧ Below w.heap.size w W) (by kernel_rfl) ⟨hnx3.drew, hCx3.drew, hTx3.drew, hBx3.drew⟩ (fun hHeld => ?_)
  clear hnx3 hCx3 hTx3 hBx3 
  generalize World.drew x3 = qd at *
  refine wpAnyH_take (i := 0) (v := .agg (arL 12 (N)).toArray) rfl (by kernel_rfl) (by kernel_rfl) (by kernel_rfl) (fun _ _ _ h => h) (yieldsIf_load_mid (by rfl) _ _ rfl gn (0) rfl (arL 12 (N)) _ (fun W hSw => hSw.1.range) Tryd.arr12 rfl (size12 _)) (by assumption) ?_
  simp only [Act.put, List.setIfInBounds_toArray, List.set_cons_zero, List.set_cons_succ, List.getElem_toArray, List.getElem_cons_zero]
  refine wpAnyH_ready (rs := [1]) (by kernel_rfl) (by simp) ?_
  refine AllReadyH.cons rfl (fun K hK => ?_) AllReadyH.nil
  go_simp
  refine (HBOT.out _).mono ?_
  rintro e q1 ⟨rfl, hq⟩
  go_wp2_with fail
  refine hK.out _ _ ⟨(hHeld.1).to (by omega) hq, (hHeld.2.1).to hq, (hHeld.2.2.1).to hq, (hHeld.2.2.2).trans (hq.mono (hHeld.2.2.2).size)⟩ (fun hHeld2 => ?_)
  clear hK K hHeld hq
  have hHeld := hHeld2
  clear hHeld2
  try simp only [Act.put, List.setIfInBounds_toArray, List.set_cons_zero, List.set_cons_succ, List.getElem_toArray, List.getElem_cons_zero, List.getElem_cons_succ]
  refine wpAnyH_take (i := 2) (v := ?vq2) rfl (by kernel_rfl) (by kernel_rfl) (by kernel_rfl) (fun _ _ _ h => h) (Or.inl ⟨by rfl, ?hyq2⟩) (by assumption) ?restq2
  case hyq2 =>
    intro W hSw
    go_simp
    try with_reducible rfl
  simp only [Act.put, List.setIfInBounds_toArray, List.set_cons_zero, List.set_cons_succ, List.getElem_toArray, List.getElem_cons_zero, List.getElem_cons_succ]
  refine wpAnyH_take (i := 3) (v := ?vq3) rfl (by kernel_rfl) (by kernel_rfl) (by kernel_rfl) (fun _ _ _ h => h) (Or.inl ⟨by rfl, ?hyq3⟩) (by assumption) ?restq3
  case hyq3 =>
    intro W hSw
    go_simp
    try with_reducible rfl
  simp only [Act.put, List.setIfInBounds_toArray, List.set_cons_zero, List.set_cons_succ, List.getElem_toArray, List.getElem_cons_zero, List.getElem_cons_succ]
  refine wpAnyH_take (i := 4) (v := .agg (arL 16 e16).toArray) rfl (by kernel_rfl) (by kernel_rfl) (by kernel_rfl) (fun _ _ _ h => h) (yieldsIf_build_by (by rfl) _ _ rfl [(0, .int .u8 1)] rfl (arL 16 e16).toArray O16.out) (by assumption) ?_
  simp only [Act.put, List.setIfInBounds_toArray, List.set_cons_zero, List.set_cons_succ, List.getElem_toArray, List.getElem_cons_zero, List.getElem_cons_succ]
  refine wpAnyH_take (i := 6) (v := .agg (arL 24 e24).toArray) rfl (by kernel_rfl) (by kernel_rfl) (by kernel_rfl) (fun _ _ _ h => h) (yieldsIf_build_by (by rfl) _ _ rfl [(0, .int .u8 1), (16, .int .u8 1)] rfl (arL 24 e24).toArray O24.out) (by assumption) ?_
  simp only [Act.put, List.setIfInBounds_toArray, List.set_cons_zero, List.set_cons_succ, List.getElem_toArray, List.getElem_cons_zero, List.getElem_cons_succ]
  refine wpAnyH_ready (rs := [5]) (by kernel_rfl) (by simp) ?_
  refine AllReadyH.cons rfl (fun K hK => ?_) AllReadyH.nil
  go_simp
  refine (ostretch e16 _ e16_lt).mono ?_
  rintro e q4 ⟨rfl, hq⟩
  go_wp2_with fail
  refine hK.out _ _ ⟨(hHeld.1).to (by omega) hq, (hHeld.2.1).to hq, (hHeld.2.2.1).to hq, (hHeld.2.2.2).trans (hq.mono (hHeld.2.2.2).size)⟩ (fun hHeld2 => ?_)
  clear hK K hHeld hq
  have hHeld := hHeld2
  clear hHeld2
  try simp only [Act.put, List.setIfInBounds_toArray, List.set_cons_zero, List.set_cons_succ, List.getElem_toArray, List.getElem_cons_zero, List.getElem_cons_succ]
  refine wpAnyH_take (i := 7) (v := ?vq5) rfl (by kernel_rfl) (by kernel_rfl) (by kernel_rfl) (fun _ _ _ h => h) (Or.inl ⟨by rfl, ?hyq5⟩) (by assumption) ?restq5
  case hyq5 =>
    intro W hSw
    go_simp
    try with_reducible rfl
  simp only [Act.put, List.setIfInBounds_toArray, List.set_cons_zero, List.set_cons_succ, List.getElem_toArray, List.getElem_cons_zero, List.getElem_cons_succ]
  refine wpAnyH_take (i := 8) (v := ?vq6) rfl (by kernel_rfl) (by kernel_rfl) (by kernel_rfl) (fun _ _ _ h => h) (Or.inl ⟨by rfl, ?hyq6⟩) (by assumption) ?restq6
  case hyq6 =>
    intro W hSw
    go_simp
    try with_reducible rfl
  simp only [Act.put, List.setIfInBounds_toArray, List.set_cons_zero, List.set_cons_succ, List.getElem_toArray, List.getElem_cons_zero, List.getElem_cons_succ]
  refine wpAnyH_take (i := 9) (v := ?vq7) rfl (by kernel_rfl) (by kernel_rfl) (by kernel_rfl) (fun _ _ _ h => h) (Or.inl ⟨by rfl, ?hyq7⟩) (by assumption) ?restq7
  case hyq7 =>
    intro W hSw
    go_simp
    try with_reducible rfl
  simp only [Act.put, List.setIfInBounds_toArray, List.set_cons_zero, List.set_cons_succ, List.getElem_toArray, List.getElem_cons_zero, List.getElem_cons_succ]
  refine wpAnyH_take (i := 10) (v := ?vq8) rfl (by kernel_rfl) (by kernel_rfl) (by kernel_rfl) (fun _ _ _ h => h) (Or.inl ⟨by rfl, ?hyq8⟩) (by assumption) ?restq8
  case hyq8 =>
    intro W hSw
    go_simp
    try with_reducible rfl
  simp only [Act.put, List.setIfInBounds_toArray, List.set_cons_zero, List.set_cons_succ, List.getElem_toArray, List.getElem_cons_zero, List.getElem_cons_succ]
  refine wpAnyH_take (i := 11) (v := .agg (arL 12 (N)).toArray) rfl (by kernel_rfl) (by kernel_rfl) (by kernel_rfl) (fun _ _ _ h => h) (yieldsIf_load_mid (by rfl) _ _ rfl gn (0) rfl (arL 12 (N)) _ (fun W hSw => hSw.1.range) Tryd.arr12 rfl (size12 _)) (by assumption) ?_
  simp only [Act.put, List.setIfInBounds_toArray, List.set_cons_zero, List.set_cons_succ, List.getElem_toArray, List.getElem_cons_zero, List.getElem_cons_succ]
  refine wpAnyH_take (i := 13) (v := ?vq9) rfl (by kernel_rfl) (by kernel_rfl) (by kernel_rfl) (fun _ _ _ h => h) (Or.inl ⟨by rfl, ?hyq9⟩) (by assumption) ?restq9
  case hyq9 =>
    intro W hSw
    go_simp
    try with_reducible rfl
  simp only [Act.put, List.setIfInBounds_toArray, List.set_cons_zero, List.set_cons_succ, List.getElem_toArray, List.getElem_cons_zero, List.getElem_cons_succ]
  refine wpAnyH_take (i := 14) (v := .agg (arL 12 (N)).toArray) rfl (by kernel_rfl) (by kernel_rfl) (by kernel_rfl) (fun _ _ _ h => h) (yieldsIf_load_mid (by rfl) _ _ rfl gn (0) rfl (arL 12 (N)) _ (fun W hSw => hSw.1.range) Tryd.arr12 rfl (size12 _)) (by assumption) ?_
  simp only [Act.put, List.setIfInBounds_toArray, List.set_cons_zero, List.set_cons_succ, List.getElem_toArray, List.getElem_cons_zero, List.getElem_cons_succ]
  refine wpAnyH_ready (rs := [12]) (by kernel_rfl) (by simp) ?_
  refine AllReadyH.cons rfl (fun K hK => ?_) AllReadyH.nil
  go_simp
  refine (wstart (.pointer (some ⟨gT, 0, none⟩)) zF N o _ HO.out zF_lt HNB.out (wtab gT gC zF s _ HS0.out (hHeld.2.2.1) (hHeld.2.1)) (HX.out.keep (hHeld.2.2.2))).mono ?_
  rintro e q10 ⟨rfl, hq⟩
  go_wp2_with fail
  refine hK.out _ _ ⟨(hHeld.1).to (by omega) hq, (hHeld.2.1).to hq, (hHeld.2.2.1).to hq, (hHeld.2.2.2).trans (hq.mono (hHeld.2.2.2).size)⟩ (fun hHeld2 => ?_)
  clear hK K hHeld hq
  have hHeld := hHeld2
  clear hHeld2
  try simp only [Act.put, List.setIfInBounds_toArray, List.set_cons_zero, List.set_cons_succ, List.getElem_toArray, List.getElem_cons_zero, List.getElem_cons_succ]
  refine wpAnyH_ready (rs := [15]) (by kernel_rfl) (by simp) ?_
  refine AllReadyH.cons rfl (fun K hK => ?_) AllReadyH.nil
  go_simp
  refine (wat0 (.pointer (some ⟨gT, 0, none⟩)) zF N o _ HO.out zF_lt HNB.out (wtab gT gC zF s _ HS0.out (hHeld.2.2.1) (hHeld.2.1)) (HX.out.keep (hHeld.2.2.2))).mono ?_
  rintro e q11 ⟨rfl, hq⟩
  go_wp2_with fail
  refine hK.out _ _ ⟨(hHeld.1).to (by omega) hq, (hHeld.2.1).to hq, (hHeld.2.2.1).to hq, (hHeld.2.2.2).trans (hq.mono (hHeld.2.2.2).size)⟩ (fun hHeld2 => ?_)
  clear hK K hHeld hq
  have hHeld := hHeld2
  clear hHeld2
  try simp only [Act.put, List.setIfInBounds_toArray, List.set_cons_zero, List.set_cons_succ, List.getElem_toArray, List.getElem_cons_zero, List.getElem_cons_succ]
  refine wpAnyH_take (i := 16) (v := ?vq12) rfl (by kernel_rfl) (by kernel_rfl) (by kernel_rfl) (fun _ _ _ h => h) (Or.inl ⟨by rfl, ?hyq12⟩) (by assumption) ?restq12
  case hyq12 =>
    intro W hSw
    go_simp
    try with_reducible rfl
  simp only [Act.put, List.setIfInBounds_toArray, List.set_cons_zero, List.set_cons_succ, List.getElem_toArray, List.getElem_cons_zero, List.getElem_cons_succ]
  refine wpAnyH_take (i := 17) (v := ?vq13) rfl (by kernel_rfl) (by kernel_rfl) (by kernel_rfl) (fun _ _ _ h => h) (Or.inl ⟨by rfl, ?hyq13⟩) (by assumption) ?restq13
  case hyq13 =>
    intro W hSw
    go_simp
    try with_reducible rfl
  simp only [Act.put, List.setIfInBounds_toArray, List.set_cons_zero, List.set_cons_succ, List.getElem_toArray, List.getElem_cons_zero, List.getElem_cons_succ]
  refine wpAnyH_take (i := 18) (v := ?vq14) rfl (by kernel_rfl) (by kernel_rfl) (by kernel_rfl) (fun _ _ _ h => h) (Or.inl ⟨by rfl, ?hyq14⟩) (by assumption) ?restq14
  case hyq14 =>
    intro W hSw
    go_simp
    try with_reducible rfl
  simp only [Act.put, List.setIfInBounds_toArray, List.set_cons_zero, List.set_cons_succ, List.getElem_toArray, List.getElem_cons_zero, List.getElem_cons_succ]
  refine wpAnyH_take (i := 19) (v := ?vq15) rfl (by kernel_rfl) (by kernel_rfl) (by kernel_rfl) (fun _ _ _ h => h) (Or.inl ⟨by rfl, ?hyq15⟩) (by assumption) ?restq15
  case hyq15 =>
    intro W hSw
    go_simp
    try with_reducible rfl
  simp only [Act.put, List.setIfInBounds_toArray, List.set_cons_zero, List.set_cons_succ, List.getElem_toArray, List.getElem_cons_zero, List.getElem_cons_succ]
  refine wpAnyH_take (i := 20) (v := ?vq16) rfl (by kernel_rfl) (by kernel_rfl) (by kernel_rfl) (fun _ _ _ h => h) (Or.inl ⟨by rfl, ?hyq16⟩) (by assumption) ?restq16
  case hyq16 =>
    intro W hSw
    go_simp
    try with_reducible rfl
  simp only [Act.put, List.setIfInBounds_toArray, List.set_cons_zero, List.set_cons_succ, List.getElem_toArray, List.getElem_cons_zero, List.getElem_cons_succ]
  refine wpAnyH_take (i := 22) (v := ?vq17) rfl (by kernel_rfl) (by kernel_rfl) (by kernel_rfl) (fun _ _ _ h => h) (Or.inl ⟨by rfl, ?hyq17⟩) (by assumption) ?restq17
  case hyq17 =>
    intro W hSw
    go_simp
    try with_reducible rfl
  simp only [Act.put, List.setIfInBounds_toArray, List.set_cons_zero, List.set_cons_succ, List.getElem_toArray, List.getElem_cons_zero, List.getElem_cons_succ]
  refine wpAnyH_ready (rs := [21]) (by kernel_rfl) (by simp) ?_
  refine AllReadyH.cons rfl (fun K hK => ?_) AllReadyH.nil
  go_simp
  refine (wfirst (.pointer (some ⟨gT, 0, none⟩)) zF s _ HS0.out zF_lt (wtab gT gC zF s _ HS0.out (hHeld.2.2.1) (hHeld.2.1))).mono ?_
  rintro e q18 ⟨rfl, hq⟩
  go_wp2_with fail
  refine hK.out _ _ ⟨(hHeld.1).to (by omega) hq, (hHeld.2.1).to hq, (hHeld.2.2.1).to hq, (hHeld.2.2.2).trans (hq.mono (hHeld.2.2.2).size)⟩ (fun hHeld2 => ?_)
  clear hK K hHeld hq
  have hHeld := hHeld2
  clear hHeld2
  try simp only [Act.put, List.setIfInBounds_toArray, List.set_cons_zero, List.set_cons_succ, List.getElem_toArray, List.getElem_cons_zero, List.getElem_cons_succ]
  refine wpAnyH_ready (rs := [23]) (by kernel_rfl) (by simp) ?_
  refine AllReadyH.cons rfl (fun K hK => ?_) AllReadyH.nil
  go_simp
  refine (tat0 _ _ s _ (tab_made _ _ _ _ (hHeld.2.2.1))).mono ?_
  rintro e q19 ⟨rfl, hq⟩
  go_wp2_with fail
  refine hK.out _ _ ⟨(hHeld.1).to (by omega) hq, (hHeld.2.1).to hq, (hHeld.2.2.1).to hq, (hHeld.2.2.2).trans (hq.mono (hHeld.2.2.2).size)⟩ (fun hHeld2 => ?_)
  clear hK K hHeld hq
  have hHeld := hHeld2
  clear hHeld2
  try simp only [Act.put, List.setIfInBounds_toArray, List.set_cons_zero, List.set_cons_succ, List.getElem_toArray, List.getElem_cons_zero, List.getElem_cons_succ]
  refine wpAnyH_take (i := 24) (v := ?vq20) rfl (by kernel_rfl) (by kernel_rfl) (by kernel_rfl) (fun _ _ _ h => h) (Or.inl ⟨by rfl, ?hyq20⟩) (by assumption) ?restq20
  case hyq20 =>
    intro W hSw
    go_simp
    try with_reducible rfl
  simp only [Act.put, List.setIfInBounds_toArray, List.set_cons_zero, List.set_cons_succ, List.getElem_toArray, List.getElem_cons_zero, List.getElem_cons_succ]
  refine wpAnyH_take (i := 25) (v := ?vq21) rfl (by kernel_rfl) (by kernel_rfl) (by kernel_rfl) (fun _ _ _ h => h) (Or.inl ⟨by rfl, ?hyq21⟩) (by assumption) ?restq21
  case hyq21 =>
    intro W hSw
    go_simp
    try with_reducible rfl
  simp only [Act.put, List.setIfInBounds_toArray, List.set_cons_zero, List.set_cons_succ, List.getElem_toArray, List.getElem_cons_zero, List.getElem_cons_succ]
  refine wpAnyH_take (i := 26) (v := ?vq22) rfl (by kernel_rfl) (by kernel_rfl) (by kernel_rfl) (fun _ _ _ h => h) (Or.inl ⟨by rfl, ?hyq22⟩) (by assumption) ?restq22
  case hyq22 =>
    intro W hSw
    go_simp
    try with_reducible rfl
  simp only [Act.put, List.setIfInBounds_toArray, List.set_cons_zero, List.set_cons_succ, List.getElem_toArray, List.getElem_cons_zero, List.getElem_cons_succ]
  refine wpAnyH_take (i := 27) (v := ?vq23) rfl (by kernel_rfl) (by kernel_rfl) (by kernel_rfl) (fun _ _ _ h => h) (Or.inl ⟨by rfl, ?hyq23⟩) (by assumption) ?restq23
  case hyq23 =>
    intro W hSw
    go_simp
    try with_reducible rfl
  simp only [Act.put, List.setIfInBounds_toArray, List.set_cons_zero, List.set_cons_succ, List.getElem_toArray, List.getElem_cons_zero, List.getElem_cons_succ]
  refine wpAnyH_take (i := 28) (v := .agg (arL 12 (N)).toArray) rfl (by kernel_rfl) (by kernel_rfl) (by kernel_rfl) (fun _ _ _ h => h) (yieldsIf_load_mid (by rfl) _ _ rfl gn (0) rfl (arL 12 (N)) _ (fun W hSw => hSw.1.range) Tryd.arr12 rfl (size12 _)) (by assumption) ?_
  simp only [Act.put, List.setIfInBounds_toArray, List.set_cons_zero, List.set_cons_succ, List.getElem_toArray, List.getElem_cons_zero, List.getElem_cons_succ]
  refine wpAnyH_take (i := 30) (v := ?vq24) rfl (by kernel_rfl) (by kernel_rfl) (by kernel_rfl) (fun _ _ _ h => h) (Or.inl ⟨by rfl, ?hyq24⟩) (by assumption) ?restq24
  case hyq24 =>
    intro W hSw
    go_simp
    try with_reducible rfl
  simp only [Act.put, List.setIfInBounds_toArray, List.set_cons_zero, List.set_cons_succ, List.getElem_toArray, List.getElem_cons_zero, List.getElem_cons_succ]
  refine wpAnyH_take (i := 31) (v := .agg (arL 12 M).toArray) rfl (by kernel_rfl) (by kernel_rfl) (by kernel_rfl) (fun _ _ _ h => h) (yieldsIf_build_by (by rfl) _ _ rfl [(11, .int .u8 192)] rfl (arL 12 M).toArray N192.out) (by assumption) ?_
  simp only [Act.put, List.setIfInBounds_toArray, List.set_cons_zero, List.set_cons_succ, List.getElem_toArray, List.getElem_cons_zero, List.getElem_cons_succ]
  refine wpAnyH_ready (rs := [29]) (by kernel_rfl) (by simp) ?_
  refine AllReadyH.cons rfl (fun K hK => ?_) AllReadyH.nil
  go_simp
  refine (wtop (.pointer (some ⟨gT, 0, none⟩)) zF N t _ HT0.out zF_lt HNB.out (wtab gT gC zF s _ HS0.out (hHeld.2.2.1) (hHeld.2.1)) (HX.out.keep (hHeld.2.2.2))).mono ?_
  rintro e q25 ⟨rfl, hq⟩
  go_wp2_with fail
  refine hK.out _ _ ⟨(hHeld.1).to (by omega) hq, (hHeld.2.1).to hq, (hHeld.2.2.1).to hq, (hHeld.2.2.2).trans (hq.mono (hHeld.2.2.2).size)⟩ (fun hHeld2 => ?_)
  clear hK K hHeld hq
  have hHeld := hHeld2
  clear hHeld2
  try simp only [Act.put, List.setIfInBounds_toArray, List.set_cons_zero, List.set_cons_succ, List.getElem_toArray, List.getElem_cons_zero, List.getElem_cons_succ]
  refine wpAnyH_ready (rs := [32]) (by kernel_rfl) (by simp) ?_
  refine AllReadyH.cons rfl (fun K hK => ?_) AllReadyH.nil
  go_simp
  refine (wtop (.pointer (some ⟨gT, 0, none⟩)) zF M t _ HT1.out zF_lt HMB.out (wtab gT gC zF s _ HS0.out (hHeld.2.2.1) (hHeld.2.1)) (HX.out.keep (hHeld.2.2.2))).mono ?_
  rintro e q26 ⟨rfl, hq⟩
  go_wp2_with fail
  refine hK.out _ _ ⟨(hHeld.1).to (by omega) hq, (hHeld.2.1).to hq, (hHeld.2.2.1).to hq, (hHeld.2.2.2).trans (hq.mono (hHeld.2.2.2).size)⟩ (fun hHeld2 => ?_)
  clear hK K hHeld hq
  have hHeld := hHeld2
  clear hHeld2
  try simp only [Act.put, List.setIfInBounds_toArray, List.set_cons_zero, List.set_cons_succ, List.getElem_toArray, List.getElem_cons_zero, List.getElem_cons_succ]
  refine wpAnyH_take (i := 33) (v := ?vq27) rfl (by kernel_rfl) (by kernel_rfl) (by kernel_rfl) (fun _ _ _ h => h) (Or.inl ⟨by rfl, ?hyq27⟩) (by assumption) ?restq27
  case hyq27 =>
    intro W hSw
    go_simp
    try with_reducible rfl
  simp only [Act.put, List.setIfInBounds_toArray, List.set_cons_zero, List.set_cons_succ, List.getElem_toArray, List.getElem_cons_zero, List.getElem_cons_succ]
  refine wpAnyH_take (i := 34) (v := ?vq28) rfl (by kernel_rfl) (by kernel_rfl) (by kernel_rfl) (fun _ _ _ h => h) (Or.inl ⟨by rfl, ?hyq28⟩) (by assumption) ?restq28
  case hyq28 =>
    intro W hSw
    go_simp
    try with_reducible rfl
  simp only [Act.put, List.setIfInBounds_toArray, List.set_cons_zero, List.set_cons_succ, List.getElem_toArray, List.getElem_cons_zero, List.getElem_cons_succ]
  refine wpAnyH_take (i := 35) (v := ?vq29) rfl (by kernel_rfl) (by kernel_rfl) (by kernel_rfl) (fun _ _ _ h => h) (Or.inl ⟨by rfl, ?hyq29⟩) (by assumption) ?restq29
  case hyq29 =>
    intro W hSw
    go_simp
    try with_reducible rfl
  simp only [Act.put, List.setIfInBounds_toArray, List.set_cons_zero, List.getElem_toArray, List.getElem_cons_zero, List.getElem_cons_succ]
  refine wpAnyH_done (by kernel_rfl) ?_ _
  have hBe := hHeld.2.2.2
  clear hHeld
  go_wp2_with fail
  go_ret
  exact ⟨rfl, hBe⟩
end Go.Proofs.YtblhfmlgpldaeaaDoor
