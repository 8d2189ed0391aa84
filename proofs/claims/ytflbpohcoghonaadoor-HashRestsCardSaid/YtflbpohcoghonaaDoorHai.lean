/-
  The walk of the law HashRests of layer 11: for every key, every block and all bytes it returns true, and writes nothing that was there.
-/
import Derived.Test.YtflbpohcoghonaaDoorHag
import Derived.Deep.RegionHeld3
namespace Go.Proofs.YtflbpohcoghonaaDoor
open Go.RowKit
set_option linter.unusedVariables false
set_option maxRecDepth 100000

set_option maxHeartbeats 8000000 in
theorem hrests (f : Nat → Nat) (o : Nat → Nat) (A : Option Addr) (n c : Nat) (l : List UInt8) (w : World) (hf : ∀ j, j < 16 → f j < 256) (ho : ∀ j, j < 16 → o j < 256) (hS : Sl w w.heap.size A n l) (hnc : n ≤ c) (hcm : c ≤ maxLen) (hs : Boxes w) :
    Calls Tryd.prog 6 #[.agg (arL 16 f).toArray, .agg (arL 16 o).toArray, .slice A n c] w fun e w' => e = .returned (.bool true) ∧ Below w.heap.size w w' := by
  have HX := Lib.hid hs
  have hz := zero16b
  have hzK := zeroK
  have z0 := run_zero16
  have hlen := hS.len
  have HLEN := Lib.hid hlen
  have HSS := Lib.hid hS
  have HNC := Lib.hid hnc
  have hn63 : n ≤ 9223372036854775807 := by have h := hcm; simp [maxLen] at h; omega
  clear hlen hS hnc hcm
  have Hf := Lib.hid hf
  have Ho := Lib.hid ho
  obtain ⟨kf, hkf⟩ : ∃ k : Array Value, (arL 16 f).toArray = k := ⟨_, rfl⟩
  obtain ⟨ko, hko⟩ : ∃ k : Array Value, (arL 16 o).toArray = k := ⟨_, rfl⟩
  obtain ⟨w1, hw1⟩ : ∃ V : World, V = w.alloc (.cells (arL 16 f).toArray 22) := ⟨_, rfl⟩
  have hs1 : w1.heap.size = w.heap.size + 1 := by rw [hw1]; simp
  have hBw1 : Below w.heap.size w w1 := by rw [hw1]; exact (Below.refl _ _).alloc (Nat.le_refl _) _
  have hfw1 : Ar w1 w.heap.size 16 f := by rw [hw1]; exact Ar.new w 16 f _
  obtain ⟨w2, hw2⟩ : ∃ V : World, V = w1.alloc (.cells (arL 16 o).toArray 22) := ⟨_, rfl⟩
  have hs2 : w2.heap.size = w.heap.size + 2 := by rw [hw2]; simp [hs1]
  have hBw2 : Below w.heap.size w w2 := by rw [hw2]; exact hBw1.alloc (by omega) _
  have hfw2 := hfw1.alloc (by omega) (.cells (arL 16 o).toArray 22)
  rw [← hw2] at hfw2
  have how2 : Ar w2 (w.heap.size + 1) 16 o := by rw [hw2, ← hs1]; exact Ar.new w1 16 o _
  rw [hkf] at hw1
  rw [hko] at hw2
  rw [hkf, hko]
  clear hkf hko hs hf ho
  go_enter Tryd.func6, Tryd.ntmps6
  go_upto_region 1 with fail
  rw [← hw1, ← hw2]
  clear hw1 hw2
  try simp only [Nat.add_assoc, Nat.reduceAdd]
  obtain ⟨gf, hgf⟩ : ∃ g : Nat, w.heap.size = g := ⟨_, rfl⟩
  obtain ⟨go, hgo⟩ : ∃ g : Nat, w.heap.size + 1 = g := ⟨_, rfl⟩
  rw [hgf] at hfw2
  rw [hgo] at how2
  try rw [hgo]
  try simp only [hgf]
  have hlf : w.heap.size ≤ gf := by omega
  have hlo : w.heap.size ≤ go := by omega
  have hlto : gf < go := by omega
  clear hgo hs1 hs2
  go_wp2_with fail
  refine (hawake _ (HX.out.keep hBw2)).mono ?_
  rintro e x1 ⟨rfl, hq⟩
  have hfx1 := (hfw2).to (by omega) hq
  have hox1 := (how2).to (by omega) hq
  have hBx1 := hBw2.trans (hq.mono hBw2.size)
  clear hq hfw2 how2 hBw2
  by_cases h100 : 100 < n
  · have h101 : (100 : Int) < (n : Int) := by omega
    go_wp2_with fail
    refine (hawake _ (HX.out.keep hBx1)).mono ?_
    rintro e x2 ⟨rfl, hq⟩
    have hfx2 := (hfx1).to (by omega) hq
    have hox2 := (hox1).to (by omega) hq
    have hBx2 := hBx1.trans (hq.mono hBx1.size)
    clear hq hfx1 hox1 hBx1
    go_wp2_with fail
    go_ret
    exact ⟨rfl, hBx2⟩
  · have h101 : ¬ (100 : Int) < (n : Int) := by omega
    clear h100
    obtain ⟨s, hs0⟩ : ∃ s : Nat → Nat, enF f zF = s := ⟨_, rfl⟩
    have HS0 := Lib.hid hs0
    have HSL := Lib.hid (show B16 s by rw [← hs0]; exact enR_lt Hf.out zF_lt 10)
    clear hs0
    go_wp2_with (refine wpList_load_ar rfl _ _ rfl _ _ _ rfl hfx1 Tryd.arr16b (size16b _) ?_)
    refine (fnew f _ Hf.out (HX.out.keep hBx1)).mono ?_
    rintro e x3 ⟨gC, rfl, hgC, hCx3, hq⟩
    have hfx3 := (hfx1).to (by omega) hq
    have hox3 := (hox1).to (by omega) hq
    have hBx3 := hBx1.trans (hq.mono hBx1.size)
    clear hq hfx1 hox1 hBx1
    go_wp2_with fail
    refine (tnew (some ⟨gC, 0, none⟩) f _ Hf.out (exp_made gC f _ hCx3) (HX.out.keep hBx3)).mono ?_
    rintro e x4 ⟨gT, rfl, hgT, hTx4, hq⟩
    rw [HS0.out] at hTx4
    have hfx4 := (hfx3).to (by omega) hq
    have hox4 := (hox3).to (by omega) hq
    have hCx4 := (hCx3).to hq
    have hBx4 := hBx3.trans (hq.mono hBx3.size)
    clear hq hfx3 hox3 hCx3 hBx3
    clear h101
    go_wp2_with (refine wpList_load_ar rfl _ _ rfl _ _ _ rfl hox4 Tryd.arr16b (size16b _) ?_)
    refine (hrest (.pointer (some ⟨gT, 0, none⟩)) f o A n c l _ Hf.out Ho.out ((HSS.out.below hBx4).more hBx4.size) (wtab gT gC f s _ HS0.out (hTx4) (hCx4)) (HX.out.keep hBx4)).mono ?_
    rintro e x5 ⟨rfl, hq⟩
    rw [HS0.out]
    have hfx5 := (hfx4).to (by omega) hq
    have hox5 := (hox4).to (by omega) hq
    have hCx5 := (hCx4).to hq
    have hTx5 := (hTx4).to hq
    have hBx5 := hBx4.trans (hq.mono hBx4.size)
    clear hq hfx4 hox4 hCx4 hTx4 hBx4
    obtain ⟨gb, hgb⟩ : ∃ g : Nat, x5.heap.size = g := ⟨_, rfl⟩
    have hlgfgb : gf < gb := by rw [← hgb]; exact hfx5.lt (by omega)
    have hlgogb : go < gb := by rw [← hgb]; exact hox5.lt (by omega)
    have hlgCgb : gC < gb := by rw [← hgb]; exact hCx5.lt
    have hlgTgb : gT < gb := by rw [← hgb]; exact hTx5.lt
    have hlwgb : w.heap.size ≤ gb := by rw [← hgb]; exact hBx5.size
    have hq : Below x5.heap.size x5 (x5.alloc (.cells (arL 16 fun _ => 0).toArray 22)) := (Below.refl _ _).alloc (Nat.le_refl _) _
    have hfx6a := (hfx5).to (by omega) hq
    have hox6a := (hox5).to (by omega) hq
    have hCx6a := (hCx5).to hq
    have hTx6a := (hTx5).to hq
    have hbx6a := Ar.new x5 16 (fun _ => 0) 22
    have hBx6a := hBx5.alloc hBx5.size (.cells (arL 16 fun _ => 0).toArray 22)
    rw [hgb] at hbx6a
    clear hq hfx5 hox5 hCx5 hTx5 hBx5
    go_upto_region 5 with (first | (refine wpList_store_ar rfl _ _ _ rfl _ _ _ (hrF f s o l) rfl rfl hbx6a (size16b _) ?_; intro x6 hbx6 belx6 sizx6 keex6) | fail)
    have hfx6 := (hfx6a).keep hlgfgb belx6
    have hox6 := (hox6a).keep hlgogb belx6
    have hCx6 := (hCx6a).keep hlgCgb belx6
    have hTx6 := (hTx6a).keep hlgTgb belx6
    have hBx6 := hBx6a.trans (belx6.mono hlwgb)
    clear hfx6a hox6a hCx6a hTx6a hbx6a hBx6a belx6 sizx6 keex6 hgb
    try dsimp only [Act.put]
    have heq := fun X => eq16_true (f := X) (g := X) (fun _ _ => rfl)
    have hgd := Tryd.eqg16
    by_cases h15 : n = 0 ∨ 15 < n
    · rw [show hrF f s o l = fun _ => 0 from hrF_no HLEN.out (by omega)] at hbx6
      rcases h15 with h15 | h15
      · have h3 : (n : Int) = 0 := by omega
        go_wp2_with (refine wpList_load_ar rfl _ _ rfl _ _ _ rfl hbx6 Tryd.arr16b (size16b _) ?_)
        go_ret
        exact ⟨rfl, hBx6⟩
      · have h3 : ¬ (n : Int) = 0 := by omega
        have h4 : (15 : Int) < (n : Int) := by omega
        go_wp2_with (refine wpList_load_ar rfl _ _ rfl _ _ _ rfl hbx6 Tryd.arr16b (size16b _) ?_)
        go_ret
        exact ⟨rfl, hBx6⟩
    · rw [hrF_yes HLEN.out (by omega) (by omega)] at hbx6
      have h3 : ¬ (n : Int) = 0 := by omega
      have h4 : ¬ (15 : Int) < (n : Int) := by omega
      have hn16 := Lib.hid (show n < 16 by omega)
      obtain ⟨P, hP⟩ : ∃ P : Nat → Nat, lF (padL l 16) = P := ⟨_, rfl⟩
      have hpb := Lib.hid (show B16 P by rw [← hP]; exact fun _ _ => lF_lt _ _)
      have HPD := Lib.hid hP
      rw [hP] at hbx6
      clear hP
      go_upto_region 7 with fail
      clear h3 h4 h15
      refine wp_region_held_drew (S := fun W => Ar W gb 16 (enF f (adF P (adF o s))) ∧ Ar W gf 16 (f) ∧ Ar W go 16 (o) ∧ Ci W gC (f) ∧ Ti W gT (some ⟨gC, 0, none⟩) (s) ∧ Below w.heap.size w W) (by kernel_rfl) ⟨hbx6.drew, hfx6.drew, hox6.drew, hCx6.drew, hTx6.drew, hBx6.drew⟩ (fun hHeld => ?_)
      clear hbx6 hfx6 hox6 hCx6 hTx6 hBx6 
      generalize World.drew x6 = qd at *
      refine wpAnyH_take (i := 0) (v := .agg (arL 16 (enF f (adF P (adF o s)))).toArray) rfl (by kernel_rfl) (by kernel_rfl) (by kernel_rfl) (fun _ _ _ h => h) (yieldsIf_load_mid (by rfl) _ _ rfl gb (0) rfl (arL 16 (enF f (adF P (adF o s)))) _ (fun W hSw => hSw.1.range) Tryd.arr16b rfl (size16b _)) (by assumption) ?_
      simp only [Act.put, List.setIfInBounds_toArray, List.set_cons_zero, List.set_cons_succ, List.getElem_toArray, List.getElem_cons_zero]
      refine wpAnyH_take (i := 1) (v := .agg (arL 16 (f)).toArray) rfl (by kernel_rfl) (by kernel_rfl) (by kernel_rfl) (fun _ _ _ h => h) (yieldsIf_load_mid (by rfl) _ _ rfl gf (0) rfl (arL 16 (f)) _ (fun W hSw => hSw.2.1.range) Tryd.arr16b rfl (size16b _)) (by assumption) ?_
      simp only [Act.put, List.setIfInBounds_toArray, List.set_cons_zero, List.set_cons_succ, List.getElem_toArray, List.getElem_cons_zero, List.getElem_cons_succ]
      refine wpAnyH_take (i := 3) (v := ?vq1) rfl (by kernel_rfl) (by kernel_rfl) (by kernel_rfl) (fun _ _ _ h => h) (Or.inl ⟨by rfl, ?hyq1⟩) (by assumption) ?restq1
      case hyq1 =>
        intro W hSw
        go_simp
        try with_reducible rfl
      simp only [Act.put, List.setIfInBounds_toArray, List.set_cons_zero, List.set_cons_succ, List.getElem_toArray, List.getElem_cons_zero, List.getElem_cons_succ]
      refine wpAnyH_take (i := 5) (v := .agg (arL 16 (o)).toArray) rfl (by kernel_rfl) (by kernel_rfl) (by kernel_rfl) (fun _ _ _ h => h) (yieldsIf_load_mid (by rfl) _ _ rfl go (0) rfl (arL 16 (o)) _ (fun W hSw => hSw.2.2.1.range) Tryd.arr16b rfl (size16b _)) (by assumption) ?_
      simp only [Act.put, List.setIfInBounds_toArray, List.set_cons_zero, List.set_cons_succ, List.getElem_toArray, List.getElem_cons_zero, List.getElem_cons_succ]
      refine wpAnyH_take (i := 6) (v := ?vq2) rfl (by kernel_rfl) (by kernel_rfl) (by kernel_rfl) (fun _ _ _ h => h) (Or.inl ⟨by rfl, ?hyq2⟩) (by assumption) ?restq2
      case hyq2 =>
        intro W hSw
        go_simp
        try with_reducible rfl
      simp only [Act.put, List.setIfInBounds_toArray, List.set_cons_zero, List.set_cons_succ, List.getElem_toArray, List.getElem_cons_zero, List.getElem_cons_succ]
      refine wpAnyH_ready (rs := [2]) (by kernel_rfl) (by simp) ?_
      refine AllReadyH.cons rfl (fun K hK => ?_) AllReadyH.nil
      go_simp
      refine (refprepare f _ Hf.out).mono ?_
      rintro e q3 ⟨rfl, hq⟩
      go_wp2_with fail
      refine hK.out _ _ ⟨(hHeld.1).to (by omega) hq, (hHeld.2.1).to (by omega) hq, (hHeld.2.2.1).to (by omega) hq, (hHeld.2.2.2.1).to hq, (hHeld.2.2.2.2.1).to hq, (hHeld.2.2.2.2.2).trans (hq.mono (hHeld.2.2.2.2.2).size)⟩ (fun hHeld2 => ?_)
      clear hK K hHeld hq
      have hHeld := hHeld2
      clear hHeld2
      try simp only [Act.put, List.setIfInBounds_toArray, List.set_cons_zero, List.set_cons_succ, List.getElem_toArray, List.getElem_cons_zero, List.getElem_cons_succ]
      refine wpAnyH_ready (rs := [4]) (by kernel_rfl) (by simp) ?_
      refine AllReadyH.cons rfl (fun K hK => ?_) AllReadyH.nil
      go_simp
      refine (refpad A n c l _ ((HSS.out.below (hHeld.2.2.2.2.2)).more (hHeld.2.2.2.2.2).size) hn16.out).mono ?_
      rintro e q4 ⟨rfl, hq⟩
      rw [HPD.out]
      go_wp2_with fail
      refine hK.out _ _ ⟨(hHeld.1).to (by omega) hq, (hHeld.2.1).to (by omega) hq, (hHeld.2.2.1).to (by omega) hq, (hHeld.2.2.2.1).to hq, (hHeld.2.2.2.2.1).to hq, (hHeld.2.2.2.2.2).trans (hq.mono (hHeld.2.2.2.2.2).size)⟩ (fun hHeld2 => ?_)
      clear hK K hHeld hq
      have hHeld := hHeld2
      clear hHeld2
      try simp only [Act.put, List.setIfInBounds_toArray, List.set_cons_zero, List.set_cons_succ, List.getElem_toArray, List.getElem_cons_zero, List.getElem_cons_succ]
      refine wpAnyH_ready (rs := [7]) (by kernel_rfl) (by simp) ?_
      refine AllReadyH.cons rfl (fun K hK => ?_) AllReadyH.nil
      go_simp
      refine (tstar (.pointer (some ⟨gT, 0, none⟩)) (some ⟨gC, 0, none⟩) s _ (tab_made _ _ _ _ (hHeld.2.2.2.2.1))).mono ?_
      rintro e q5 ⟨rfl, hq⟩
      go_wp2_with fail
      refine hK.out _ _ ⟨(hHeld.1).to (by omega) hq, (hHeld.2.1).to (by omega) hq, (hHeld.2.2.1).to (by omega) hq, (hHeld.2.2.2.1).to hq, (hHeld.2.2.2.2.1).to hq, (hHeld.2.2.2.2.2).trans (hq.mono (hHeld.2.2.2.2.2).size)⟩ (fun hHeld2 => ?_)
      clear hK K hHeld hq
      have hHeld := hHeld2
      clear hHeld2
      try simp only [Act.put, List.setIfInBounds_toArray, List.set_cons_zero, List.set_cons_succ, List.getElem_toArray, List.getElem_cons_zero, List.getElem_cons_succ]
      refine wpAnyH_ready (rs := [8]) (by kernel_rfl) (by simp) ?_
      refine AllReadyH.cons rfl (fun K hK => ?_) AllReadyH.nil
      go_simp
      refine (refxor8 o s _ Ho.out HSL.out).mono ?_
      rintro e q6 ⟨rfl, hq⟩
      go_wp2_with fail
      refine hK.out _ _ ⟨(hHeld.1).to (by omega) hq, (hHeld.2.1).to (by omega) hq, (hHeld.2.2.1).to (by omega) hq, (hHeld.2.2.2.1).to hq, (hHeld.2.2.2.2.1).to hq, (hHeld.2.2.2.2.2).trans (hq.mono (hHeld.2.2.2.2.2).size)⟩ (fun hHeld2 => ?_)
      clear hK K hHeld hq
      have hHeld := hHeld2
      clear hHeld2
      try simp only [Act.put, List.setIfInBounds_toArray, List.set_cons_zero, List.set_cons_succ, List.getElem_toArray, List.getElem_cons_zero, List.getElem_cons_succ]
      refine wpAnyH_ready (rs := [9]) (by kernel_rfl) (by simp) ?_
      refine AllReadyH.cons rfl (fun K hK => ?_) AllReadyH.nil
      go_simp
      refine (refxor8 P (adF o s) _ hpb.out (adF_lt Ho.out HSL.out)).mono ?_
      rintro e q7 ⟨rfl, hq⟩
      go_wp2_with fail
      refine hK.out _ _ ⟨(hHeld.1).to (by omega) hq, (hHeld.2.1).to (by omega) hq, (hHeld.2.2.1).to (by omega) hq, (hHeld.2.2.2.1).to hq, (hHeld.2.2.2.2.1).to hq, (hHeld.2.2.2.2.2).trans (hq.mono (hHeld.2.2.2.2.2).size)⟩ (fun hHeld2 => ?_)
      clear hK K hHeld hq
      have hHeld := hHeld2
      clear hHeld2
      try simp only [Act.put, List.setIfInBounds_toArray, List.set_cons_zero, List.set_cons_succ, List.getElem_toArray, List.getElem_cons_zero, List.getElem_cons_succ]
      refine wpAnyH_ready (rs := [10]) (by kernel_rfl) (by simp) ?_
      refine AllReadyH.cons rfl (fun K hK => ?_) AllReadyH.nil
      go_simp
      refine (refencrypt f (adF P (adF o s)) _ Hf.out (adF_lt hpb.out (adF_lt Ho.out HSL.out))).mono ?_
      rintro e q8 ⟨rfl, hq⟩
      go_wp2_with fail
      refine hK.out _ _ ⟨(hHeld.1).to (by omega) hq, (hHeld.2.1).to (by omega) hq, (hHeld.2.2.1).to (by omega) hq, (hHeld.2.2.2.1).to hq, (hHeld.2.2.2.2.1).to hq, (hHeld.2.2.2.2.2).trans (hq.mono (hHeld.2.2.2.2.2).size)⟩ (fun hHeld2 => ?_)
      clear hK K hHeld hq
      have hHeld := hHeld2
      clear hHeld2
      try simp only [Act.put, List.setIfInBounds_toArray, List.set_cons_zero, List.set_cons_succ, List.getElem_toArray, List.getElem_cons_zero, List.getElem_cons_succ]
      refine wpAnyH_take (i := 11) (v := ?vq9) rfl (by kernel_rfl) (by kernel_rfl) (by kernel_rfl) (fun _ _ _ h => h) (Or.inl ⟨by rfl, ?hyq9⟩) (by assumption) ?restq9
      case hyq9 =>
        intro W hSw
        go_simp
        try with_reducible rfl
      simp only [Act.put, List.setIfInBounds_toArray, List.set_cons_zero, List.set_cons_succ, List.getElem_toArray, List.getElem_cons_zero, List.getElem_cons_succ]
      refine wpAnyH_take (i := 12) (v := ?vq10) rfl (by kernel_rfl) (by kernel_rfl) (by kernel_rfl) (fun _ _ _ h => h) (Or.inl ⟨by rfl, ?hyq10⟩) (by assumption) ?restq10
      case hyq10 =>
        intro W hSw
        go_simp
        try with_reducible rfl
      simp only [Act.put, List.setIfInBounds_toArray, List.set_cons_zero, List.set_cons_succ, List.getElem_toArray, List.getElem_cons_zero, List.getElem_cons_succ]
      refine wpAnyH_done (by kernel_rfl) ?_ _
      have hBe := hHeld.2.2.2.2.2
      clear hHeld
      go_wp2_with fail
      go_ret
      exact ⟨rfl, hBe⟩
end Go.Proofs.YtflbpohcoghonaaDoor
