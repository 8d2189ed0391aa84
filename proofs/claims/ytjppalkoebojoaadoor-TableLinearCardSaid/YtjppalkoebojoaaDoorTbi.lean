/-
  The walk of the law TableLinear of layer 9: for every key and any two numbers it returns true, and writes nothing that was there.
-/
import Derived.Test.YtjppalkoebojoaaDoorTbe
import Derived.Deep.RegionHeld3
namespace Go.Proofs.YtjppalkoebojoaaDoor
open Go.RowKit
set_option linter.unusedVariables false
set_option maxRecDepth 100000

set_option maxHeartbeats 8000000 in
theorem tlinear (f : Nat → Nat) (i : Nat) (k : Nat) (w : World) (hf : ∀ j, j < 16 → f j < 256) (hi : i < 256) (hk : k < 256) (hs : Boxes w) :
    Calls Tryd.prog 6 #[.agg (arL 16 f).toArray, .int .u8 i, .int .u8 k] w fun e w' => e = .returned (.bool true) ∧ Below w.heap.size w w' := by
  have HX := Lib.hid hs
  have hz := zero16b
  have z0 := run_zero16
  obtain ⟨a, ha⟩ : ∃ a : Nat, a = i % 32 := ⟨_, rfl⟩
  have ha1 : ((i : Int)).tmod 32 = (a : Int) := by rw [Int.tmod_eq_emod_of_nonneg (by omega)]; omega
  have ha2 : (i : Int) % 32 = (a : Int) := by omega
  have ha3 : a < 32 := by omega
  clear ha
  obtain ⟨m, hm⟩ : ∃ m : Nat, m = k % 32 := ⟨_, rfl⟩
  have hm1 : ((k : Int)).tmod 32 = (m : Int) := by rw [Int.tmod_eq_emod_of_nonneg (by omega)]; omega
  have hm2 : (k : Int) % 32 = (m : Int) := by omega
  have hm3 : m < 32 := by omega
  clear hm
  have Hf := Lib.hid hf
  obtain ⟨kf, hkf⟩ : ∃ k : Array Value, (arL 16 f).toArray = k := ⟨_, rfl⟩
  obtain ⟨w1, hw1⟩ : ∃ V : World, V = w.alloc (.cells (arL 16 f).toArray 22) := ⟨_, rfl⟩
  have hs1 : w1.heap.size = w.heap.size + 1 := by rw [hw1]; simp
  have hBw1 : Below w.heap.size w w1 := by rw [hw1]; exact (Below.refl _ _).alloc (Nat.le_refl _) _
  have hfw1 : Ar w1 w.heap.size 16 f := by rw [hw1]; exact Ar.new w 16 f _
  rw [hkf] at hw1
  rw [hkf]
  clear hkf hs hf
  go_enter Tryd.func6, Tryd.ntmps6
  go_upto_region 1 with fail
  rw [← hw1]
  clear hw1
  try simp only [Nat.add_assoc, Nat.reduceAdd]
  obtain ⟨gf, hgf⟩ : ∃ g : Nat, w.heap.size = g := ⟨_, rfl⟩
  rw [hgf] at hfw1
  try simp only [hgf]
  have hlf : w.heap.size ≤ gf := by omega
  clear  hs1
  go_wp2_with fail
  refine (tawake _ (HX.out.keep hBw1)).mono ?_
  rintro e x1 ⟨rfl, hq⟩
  have hfx1 := (hfw1).to (by omega) hq
  have hBx1 := hBw1.trans (hq.mono hBw1.size)
  clear hq hfw1 hBw1
  obtain ⟨F, hF⟩ : ∃ F : Nat → Nat, enF f zF = F := ⟨_, rfl⟩
  have hFl := Lib.hid (show B16 F by rw [← hF]; exact enR_lt Hf.out zF_lt 10)
  have HF := Lib.hid hF
  clear hF
  go_wp2_with (refine wpList_load_ar rfl _ _ rfl _ _ _ rfl hfx1 Tryd.arr16b (size16b _) ?_)
  refine (fnew f _ Hf.out (HX.out.keep hBx1)).mono ?_
  rintro e x2 ⟨gC, rfl, hgC, hCx2, hq⟩
  have hfx2 := (hfx1).to (by omega) hq
  have hBx2 := hBx1.trans (hq.mono hBx1.size)
  clear hq hfx1 hBx1
  go_wp2_with fail
  refine (tnew (some ⟨gC, 0, none⟩) f _ Hf.out (exp_made gC f _ hCx2) (HX.out.keep hBx2)).mono ?_
  rintro e x3 ⟨gT, rfl, hgT, hTx3, hq⟩
  rw [HF.out] at hTx3
  have hfx3 := (hfx2).to (by omega) hq
  have hCx3 := (hCx2).to hq
  have hBx3 := hBx2.trans (hq.mono hBx2.size)
  clear hq hfx2 hCx2 hBx2
  go_wp2_with fail
  refine (tat_in _ _ _ a _ (by omega) (tab_made _ _ _ _ hTx3)).mono ?_
  rintro e x4 ⟨rfl, hq⟩
  have hfx4 := (hfx3).to (by omega) hq
  have hCx4 := (hCx3).to hq
  have hTx4 := (hTx3).to hq
  have hBx4 := hBx3.trans (hq.mono hBx3.size)
  clear hq hfx3 hCx3 hTx3 hBx3
  obtain ⟨gb, hgb⟩ : ∃ g : Nat, x4.heap.size = g := ⟨_, rfl⟩
  have hlgfgb : gf < gb := by rw [← hgb]; exact hfx4.lt (by omega)
  have hlgCgb : gC < gb := by rw [← hgb]; exact hCx4.lt
  have hlgTgb : gT < gb := by rw [← hgb]; exact hTx4.lt
  have hlwgb : w.heap.size ≤ gb := by rw [← hgb]; exact hBx4.size
  have hq : Below x4.heap.size x4 (x4.alloc (.cells (arL 16 fun _ => 0).toArray 22)) := (Below.refl _ _).alloc (Nat.le_refl _) _
  have hfx5a := (hfx4).to (by omega) hq
  have hCx5a := (hCx4).to hq
  have hTx5a := (hTx4).to hq
  have hbx5a := Ar.new x4 16 (fun _ => 0) 22
  have hBx5a := hBx4.alloc hBx4.size (.cells (arL 16 fun _ => 0).toArray 22)
  rw [hgb] at hbx5a
  clear hq hfx4 hCx4 hTx4 hBx4
  go_upto_region 8 with (first | (refine wpList_store_ar rfl _ _ _ rfl _ _ _ (dk F (a + 2)) rfl rfl hbx5a (size16b _) ?_; intro x5 hbx5 belx5 sizx5 keex5) | fail)
  have hfx5 := (hfx5a).keep hlgfgb belx5
  have hCx5 := (hCx5a).keep hlgCgb belx5
  have hTx5 := (hTx5a).keep hlgTgb belx5
  have hBx5 := hBx5a.trans (belx5.mono hlwgb)
  clear hfx5a hCx5a hTx5a hbx5a hBx5a belx5 sizx5 keex5 hgb
  try dsimp only [Act.put]
  have heq := fun X => eq16_true (f := X) (g := X) (fun _ _ => rfl)
  have hgd := Tryd.eqg16
  go_wp2_with fail
  go_loopw [10] (fun j wr => ∃ r : Nat, r ≤ m ∧ j = .int .i64 r ∧ Ar wr gf 16 (f) ∧ Ci wr gC (f) ∧ Ti wr gT (some ⟨gC, 0, none⟩) (F) ∧ Ar wr gb 16 (dk F (a + 2 + r)) ∧ Below w.heap.size w wr) (fun j _ => m - (intOf j).toNat)
  case atStart => exact ⟨0, Nat.zero_le _, rfl, hfx5, hCx5, hTx5, hbx5, hBx5⟩
  case round =>
    clear hfx5 hCx5 hTx5 hbx5 hBx5
    obtain ⟨r, hr, rfl, hf0, hC0, hT0, hb0, hB0⟩ := hrel
    by_cases hlt : r < m
    · have i1 : (r : Int) < (m : Int) := by omega
      go_wp2_with (refine wpList_load_ar rfl _ _ rfl _ _ _ rfl hb0 Tryd.arr16b (size16b _) ?_)
      refine (refdk F (a + 2 + r) _ hFl.out).mono ?_
      rintro e x6 ⟨rfl, hq⟩
      have hfx6 := (hf0).to (by omega) hq
      have hCx6 := (hC0).to hq
      have hTx6 := (hT0).to hq
      have hbx6 := (hb0).to (by omega) hq
      have hBx6 := hB0.trans (hq.mono hB0.size)
      clear hq hf0 hC0 hT0 hb0 hB0
      rw [show a + 2 + r + 1 = a + 2 + (r + 1) by omega]
      go_upto_region 10 with (first | (refine wpList_store_ar rfl _ _ _ rfl _ _ _ (dk F (a + 2 + (r + 1))) rfl rfl hbx6 (size16b _) ?_; intro x7 hbx7 belx7 sizx7 keex7) | fail)
      have hfx7 := (hfx6).keep (by omega) belx7
      have hCx7 := (hCx6).keep (by omega) belx7
      have hTx7 := (hTx6).keep (by omega) belx7
      have hBx7 := hBx6.trans (belx7.mono (by omega))
      clear hfx6 hCx6 hTx6 hbx6 hBx6 belx7 sizx7 keex7
      try dsimp only [Act.put]
      go_wp2_with fail
      go_roundw
      case rel => exact ⟨r + 1, by omega, by go_num, hfx7, hCx7, hTx7, hbx7, hBx7⟩
      case measure => simp [intOf]; omega
    · obtain rfl : r = m := by omega
      go_upto_region 12 with fail
      obtain ⟨q, hq1⟩ : ∃ q : Nat, a + r = q := ⟨_, rfl⟩
      have hq64 : q < 64 := by omega
      rw [show a + 2 + r = q + 2 by omega] at hb0
      have s3 : (a : Int) + (r : Int) = (q : Int) := by omega
      clear hq1 ha1 ha2 ha3 hm2 hm3 hr hlt hi
      have HWK := Lib.hid (wrap_in k (by omega))
      have HWQ := Lib.hid (wrap_in q (by omega))
      have hfwr := hf0
      have hCwr := hC0
      have hTwr := hT0
      have hbwr := hb0
      have hBwr := hB0
      clear hf0 hC0 hT0 hb0 hB0
      refine wp_region_held_drew (S := fun W => Ar W gf 16 (f) ∧ Ar W gb 16 (dk F (q + 2)) ∧ Ci W gC (f) ∧ Ti W gT (some ⟨gC, 0, none⟩) (F) ∧ Below w.heap.size w W) (by kernel_rfl) ⟨hfwr.drew, hbwr.drew, hCwr.drew, hTwr.drew, hBwr.drew⟩ (fun hHeld => ?_)
      clear hfwr hbwr hCwr hTwr hBwr 
      generalize World.drew wr = qd at *
      refine wpAnyH_take (i := 0) (v := .agg (arL 16 (dk F (q + 2))).toArray) rfl (by kernel_rfl) (by kernel_rfl) (by kernel_rfl) (fun _ _ _ h => h) (yieldsIf_load_mid (by rfl) _ _ rfl gb (0) rfl (arL 16 (dk F (q + 2))) _ (fun W hSw => hSw.2.1.range) Tryd.arr16b rfl (size16b _)) (by assumption) ?_
      simp only [Act.put, List.setIfInBounds_toArray, List.set_cons_zero, List.set_cons_succ, List.getElem_toArray, List.getElem_cons_zero]
      refine wpAnyH_take (i := 1) (v := ?vq1) rfl (by kernel_rfl) (by kernel_rfl) (by kernel_rfl) (fun _ _ _ h => h) (Or.inl ⟨by rfl, ?hyq1⟩) (by assumption) ?restq1
      case hyq1 =>
        intro W hSw
        go_simp
        try with_reducible rfl
      simp only [Act.put, List.setIfInBounds_toArray, List.set_cons_zero, List.set_cons_succ, List.getElem_toArray, List.getElem_cons_zero, List.getElem_cons_succ]
      refine wpAnyH_take (i := 2) (v := ?vq2) rfl (by kernel_rfl) (by kernel_rfl) (by kernel_rfl) (fun _ _ _ h => h) (Or.inl ⟨by rfl, ?hyq2⟩) (by assumption) ?restq2
      case hyq2 =>
        intro W hSw
        go_simp
        try with_reducible rfl
      simp only [Act.put, List.setIfInBounds_toArray, List.set_cons_zero, List.set_cons_succ, List.getElem_toArray, List.getElem_cons_zero, List.getElem_cons_succ]
      refine wpAnyH_take (i := 3) (v := ?vq3) rfl (by kernel_rfl) (by kernel_rfl) (by kernel_rfl) (fun _ _ _ h => h) (Or.inl ⟨by rfl, ?hyq3⟩) (by assumption) ?restq3
      case hyq3 =>
        intro W hSw
        go_simp
        try with_reducible rfl
      simp only [Act.put, List.setIfInBounds_toArray, List.set_cons_zero, List.set_cons_succ, List.getElem_toArray, List.getElem_cons_zero, List.getElem_cons_succ]
      refine wpAnyH_take (i := 4) (v := ?vq4) rfl (by kernel_rfl) (by kernel_rfl) (by kernel_rfl) (fun _ _ _ h => h) (Or.inl ⟨by rfl, ?hyq4⟩) (by assumption) ?restq4
      case hyq4 =>
        intro W hSw
        have hwk := HWK.out
        go_simp
        try with_reducible rfl
      simp only [Act.put, List.setIfInBounds_toArray, List.set_cons_zero, List.set_cons_succ, List.getElem_toArray, List.getElem_cons_zero, List.getElem_cons_succ]
      refine wpAnyH_take (i := 5) (v := ?vq5) rfl (by kernel_rfl) (by kernel_rfl) (by kernel_rfl) (fun _ _ _ h => h) (Or.inl ⟨by rfl, ?hyq5⟩) (by assumption) ?restq5
      case hyq5 =>
        intro W hSw
        go_simp
        try with_reducible rfl
      simp only [Act.put, List.setIfInBounds_toArray, List.set_cons_zero, List.set_cons_succ, List.getElem_toArray, List.getElem_cons_zero, List.getElem_cons_succ]
      refine wpAnyH_take (i := 6) (v := ?vq6) rfl (by kernel_rfl) (by kernel_rfl) (by kernel_rfl) (fun _ _ _ h => h) (Or.inl ⟨by rfl, ?hyq6⟩) (by assumption) ?restq6
      case hyq6 =>
        intro W hSw
        have hwq := HWQ.out
        go_simp
        try with_reducible rfl
      simp only [Act.put, List.setIfInBounds_toArray, List.set_cons_zero, List.set_cons_succ, List.getElem_toArray, List.getElem_cons_zero, List.getElem_cons_succ]
      refine wpAnyH_ready (rs := [7]) (by kernel_rfl) (by simp) ?_
      refine AllReadyH.cons rfl (fun K hK => ?_) AllReadyH.nil
      go_simp
      refine (tat_in _ _ _ q _ hq64 (tab_made _ _ _ _ (hHeld.2.2.2.1))).mono ?_
      rintro e q7 ⟨rfl, hq⟩
      go_wp2_with fail
      refine hK.out _ _ ⟨(hHeld.1).to (by omega) hq, (hHeld.2.1).to (by omega) hq, (hHeld.2.2.1).to hq, (hHeld.2.2.2.1).to hq, (hHeld.2.2.2.2).trans (hq.mono (hHeld.2.2.2.2).size)⟩ (fun hHeld2 => ?_)
      clear hK K hHeld hq
      have hHeld := hHeld2
      clear hHeld2
      try simp only [Act.put, List.setIfInBounds_toArray, List.set_cons_zero, List.set_cons_succ, List.getElem_toArray, List.getElem_cons_zero, List.getElem_cons_succ]
      refine wpAnyH_take (i := 8) (v := ?vq8) rfl (by kernel_rfl) (by kernel_rfl) (by kernel_rfl) (fun _ _ _ h => h) (Or.inl ⟨by rfl, ?hyq8⟩) (by assumption) ?restq8
      case hyq8 =>
        intro W hSw
        go_simp
        try with_reducible rfl
      simp only [Act.put, List.setIfInBounds_toArray, List.set_cons_zero, List.set_cons_succ, List.getElem_toArray, List.getElem_cons_zero, List.getElem_cons_succ]
      refine wpAnyH_take (i := 9) (v := ?vq9) rfl (by kernel_rfl) (by kernel_rfl) (by kernel_rfl) (fun _ _ _ h => h) (Or.inl ⟨by rfl, ?hyq9⟩) (by assumption) ?restq9
      case hyq9 =>
        intro W hSw
        go_simp
        try with_reducible rfl
      simp only [Act.put, List.setIfInBounds_toArray, List.set_cons_zero, List.set_cons_succ, List.getElem_toArray, List.getElem_cons_zero, List.getElem_cons_succ]
      refine wpAnyH_take (i := 10) (v := .agg (arL 16 (dk F (q + 2))).toArray) rfl (by kernel_rfl) (by kernel_rfl) (by kernel_rfl) (fun _ _ _ h => h) (yieldsIf_load_mid (by rfl) _ _ rfl gb (0) rfl (arL 16 (dk F (q + 2))) _ (fun W hSw => hSw.2.1.range) Tryd.arr16b rfl (size16b _)) (by assumption) ?_
      simp only [Act.put, List.setIfInBounds_toArray, List.set_cons_zero, List.set_cons_succ, List.getElem_toArray, List.getElem_cons_zero, List.getElem_cons_succ]
      refine wpAnyH_take (i := 11) (v := .agg (arL 16 (f)).toArray) rfl (by kernel_rfl) (by kernel_rfl) (by kernel_rfl) (fun _ _ _ h => h) (yieldsIf_load_mid (by rfl) _ _ rfl gf (0) rfl (arL 16 (f)) _ (fun W hSw => hSw.1.range) Tryd.arr16b rfl (size16b _)) (by assumption) ?_
      simp only [Act.put, List.setIfInBounds_toArray, List.set_cons_zero, List.set_cons_succ, List.getElem_toArray, List.getElem_cons_zero, List.getElem_cons_succ]
      refine wpAnyH_take (i := 14) (v := ?vq10) rfl (by kernel_rfl) (by kernel_rfl) (by kernel_rfl) (fun _ _ _ h => h) (Or.inl ⟨by rfl, ?hyq10⟩) (by assumption) ?restq10
      case hyq10 =>
        intro W hSw
        go_simp
        try with_reducible rfl
      simp only [Act.put, List.setIfInBounds_toArray, List.set_cons_zero, List.set_cons_succ, List.getElem_toArray, List.getElem_cons_zero, List.getElem_cons_succ]
      refine wpAnyH_take (i := 15) (v := ?vq11) rfl (by kernel_rfl) (by kernel_rfl) (by kernel_rfl) (fun _ _ _ h => h) (Or.inl ⟨by rfl, ?hyq11⟩) (by assumption) ?restq11
      case hyq11 =>
        intro W hSw
        go_simp
        try with_reducible rfl
      simp only [Act.put, List.setIfInBounds_toArray, List.set_cons_zero, List.set_cons_succ, List.getElem_toArray, List.getElem_cons_zero, List.getElem_cons_succ]
      refine wpAnyH_take (i := 16) (v := ?vq12) rfl (by kernel_rfl) (by kernel_rfl) (by kernel_rfl) (fun _ _ _ h => h) (Or.inl ⟨by rfl, ?hyq12⟩) (by assumption) ?restq12
      case hyq12 =>
        intro W hSw
        have hwk := HWK.out
        go_simp
        try with_reducible rfl
      simp only [Act.put, List.setIfInBounds_toArray, List.set_cons_zero, List.set_cons_succ, List.getElem_toArray, List.getElem_cons_zero, List.getElem_cons_succ]
      refine wpAnyH_take (i := 17) (v := ?vq13) rfl (by kernel_rfl) (by kernel_rfl) (by kernel_rfl) (fun _ _ _ h => h) (Or.inl ⟨by rfl, ?hyq13⟩) (by assumption) ?restq13
      case hyq13 =>
        intro W hSw
        go_simp
        try with_reducible rfl
      simp only [Act.put, List.setIfInBounds_toArray, List.set_cons_zero, List.set_cons_succ, List.getElem_toArray, List.getElem_cons_zero, List.getElem_cons_succ]
      refine wpAnyH_take (i := 18) (v := ?vq14) rfl (by kernel_rfl) (by kernel_rfl) (by kernel_rfl) (fun _ _ _ h => h) (Or.inl ⟨by rfl, ?hyq14⟩) (by assumption) ?restq14
      case hyq14 =>
        intro W hSw
        have hwq := HWQ.out
        go_simp
        try with_reducible rfl
      simp only [Act.put, List.setIfInBounds_toArray, List.set_cons_zero, List.set_cons_succ, List.getElem_toArray, List.getElem_cons_zero, List.getElem_cons_succ]
      refine wpAnyH_ready (rs := [12]) (by kernel_rfl) (by simp) ?_
      refine AllReadyH.cons rfl (fun K hK => ?_) AllReadyH.nil
      go_simp
      refine (refprepare f _ Hf.out).mono ?_
      rintro e q15 ⟨rfl, hq⟩
      go_wp2_with fail
      refine hK.out _ _ ⟨(hHeld.1).to (by omega) hq, (hHeld.2.1).to (by omega) hq, (hHeld.2.2.1).to hq, (hHeld.2.2.2.1).to hq, (hHeld.2.2.2.2).trans (hq.mono (hHeld.2.2.2.2).size)⟩ (fun hHeld2 => ?_)
      clear hK K hHeld hq
      have hHeld := hHeld2
      clear hHeld2
      try simp only [Act.put, List.setIfInBounds_toArray, List.set_cons_zero, List.set_cons_succ, List.getElem_toArray, List.getElem_cons_zero, List.getElem_cons_succ]
      refine wpAnyH_ready (rs := [13]) (by kernel_rfl) (by simp) ?_
      refine AllReadyH.cons rfl (fun K hK => ?_) AllReadyH.nil
      go_simp
      refine (refstar f _ Hf.out zF_lt).mono ?_
      rintro e q16 ⟨rfl, hq⟩
      rw [HF.out]
      go_wp2_with fail
      refine hK.out _ _ ⟨(hHeld.1).to (by omega) hq, (hHeld.2.1).to (by omega) hq, (hHeld.2.2.1).to hq, (hHeld.2.2.2.1).to hq, (hHeld.2.2.2.2).trans (hq.mono (hHeld.2.2.2.2).size)⟩ (fun hHeld2 => ?_)
      clear hK K hHeld hq
      have hHeld := hHeld2
      clear hHeld2
      try simp only [Act.put, List.setIfInBounds_toArray, List.set_cons_zero, List.set_cons_succ, List.getElem_toArray, List.getElem_cons_zero, List.getElem_cons_succ]
      refine wpAnyH_ready (rs := [19]) (by kernel_rfl) (by simp) ?_
      refine AllReadyH.cons rfl (fun K hK => ?_) AllReadyH.nil
      go_simp
      refine (refatk F q _ hFl.out hq64).mono ?_
      rintro e q17 ⟨rfl, hq⟩
      go_wp2_with fail
      refine hK.out _ _ ⟨(hHeld.1).to (by omega) hq, (hHeld.2.1).to (by omega) hq, (hHeld.2.2.1).to hq, (hHeld.2.2.2.1).to hq, (hHeld.2.2.2.2).trans (hq.mono (hHeld.2.2.2.2).size)⟩ (fun hHeld2 => ?_)
      clear hK K hHeld hq
      have hHeld := hHeld2
      clear hHeld2
      try simp only [Act.put, List.setIfInBounds_toArray, List.set_cons_zero, List.set_cons_succ, List.getElem_toArray, List.getElem_cons_zero, List.getElem_cons_succ]
      refine wpAnyH_take (i := 20) (v := ?vq18) rfl (by kernel_rfl) (by kernel_rfl) (by kernel_rfl) (fun _ _ _ h => h) (Or.inl ⟨by rfl, ?hyq18⟩) (by assumption) ?restq18
      case hyq18 =>
        intro W hSw
        go_simp
        try with_reducible rfl
      simp only [Act.put, List.setIfInBounds_toArray, List.set_cons_zero, List.set_cons_succ, List.getElem_toArray, List.getElem_cons_zero, List.getElem_cons_succ]
      refine wpAnyH_take (i := 21) (v := ?vq19) rfl (by kernel_rfl) (by kernel_rfl) (by kernel_rfl) (fun _ _ _ h => h) (Or.inl ⟨by rfl, ?hyq19⟩) (by assumption) ?restq19
      case hyq19 =>
        intro W hSw
        go_simp
        try with_reducible rfl
      simp only [Act.put, List.setIfInBounds_toArray, List.set_cons_zero, List.set_cons_succ, List.getElem_toArray, List.getElem_cons_zero, List.getElem_cons_succ]
      refine wpAnyH_take (i := 22) (v := ?vq20) rfl (by kernel_rfl) (by kernel_rfl) (by kernel_rfl) (fun _ _ _ h => h) (Or.inl ⟨by rfl, ?hyq20⟩) (by assumption) ?restq20
      case hyq20 =>
        intro W hSw
        go_simp
        try with_reducible rfl
      simp only [Act.put, List.setIfInBounds_toArray, List.set_cons_zero, List.set_cons_succ, List.getElem_toArray, List.getElem_cons_zero, List.getElem_cons_succ]
      refine wpAnyH_done (by kernel_rfl) ?_ _
      have hBe := hHeld.2.2.2.2
      clear hHeld
      go_wp2_with fail
      go_ret
      exact ⟨rfl, hBe⟩
end Go.Proofs.YtjppalkoebojoaaDoor
