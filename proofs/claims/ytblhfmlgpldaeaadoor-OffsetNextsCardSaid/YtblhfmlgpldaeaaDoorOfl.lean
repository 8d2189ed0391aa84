/-
  The walk of the law OffsetNexts of layer 10: for every key, every block and every number it returns true, and writes nothing that was there.
-/
import Derived.Test.YtblhfmlgpldaeaaDoorOfg
import Derived.Deep.RegionHeld3
namespace Go.Proofs.YtblhfmlgpldaeaaDoor
open Go.RowKit
set_option linter.unusedVariables false
set_option maxRecDepth 100000

set_option maxHeartbeats 8000000 in
theorem onexts (f : Nat → Nat) (l : Nat → Nat) (i : Nat) (w : World) (hf : ∀ j, j < 16 → f j < 256) (hl : ∀ j, j < 16 → l j < 256) (hi : i < 18446744073709551616) (hs : Boxes w) :
    Calls Tryd.prog 7 #[.agg (arL 16 f).toArray, .agg (arL 16 l).toArray, .int .u64 i] w fun e w' => e = .returned (.bool true) ∧ Below w.heap.size w w' := by
  have HX := Lib.hid hs
  have hz := zero16b
  have hz12 := zero12
  have hzK := zeroK
  have z0 := run_zero16
  have Hf := Lib.hid hf
  have Hl := Lib.hid hl
  obtain ⟨kf, hkf⟩ : ∃ k : Array Value, (arL 16 f).toArray = k := ⟨_, rfl⟩
  obtain ⟨kl, hkl⟩ : ∃ k : Array Value, (arL 16 l).toArray = k := ⟨_, rfl⟩
  obtain ⟨w1, hw1⟩ : ∃ V : World, V = w.alloc (.cells (arL 16 f).toArray 22) := ⟨_, rfl⟩
  have hs1 : w1.heap.size = w.heap.size + 1 := by rw [hw1]; simp
  have hBw1 : Below w.heap.size w w1 := by rw [hw1]; exact (Below.refl _ _).alloc (Nat.le_refl _) _
  have hfw1 : Ar w1 w.heap.size 16 f := by rw [hw1]; exact Ar.new w 16 f _
  obtain ⟨w2, hw2⟩ : ∃ V : World, V = w1.alloc (.cells (arL 16 l).toArray 22) := ⟨_, rfl⟩
  have hs2 : w2.heap.size = w.heap.size + 2 := by rw [hw2]; simp [hs1]
  have hBw2 : Below w.heap.size w w2 := by rw [hw2]; exact hBw1.alloc (by omega) _
  have hfw2 := hfw1.alloc (by omega) (.cells (arL 16 l).toArray 22)
  rw [← hw2] at hfw2
  have hlw2 : Ar w2 (w.heap.size + 1) 16 l := by rw [hw2, ← hs1]; exact Ar.new w1 16 l _
  rw [hkf] at hw1
  rw [hkl] at hw2
  rw [hkf, hkl]
  clear hkf hkl hs hf hl
  go_enter Tryd.func7, Tryd.ntmps7
  go_upto_region 1 with fail
  rw [← hw1, ← hw2]
  clear hw1 hw2
  try simp only [Nat.add_assoc, Nat.reduceAdd]
  obtain ⟨gf, hgf⟩ : ∃ g : Nat, w.heap.size = g := ⟨_, rfl⟩
  obtain ⟨gl, hgl⟩ : ∃ g : Nat, w.heap.size + 1 = g := ⟨_, rfl⟩
  rw [hgf] at hfw2
  rw [hgl] at hlw2
  try rw [hgl]
  try simp only [hgf]
  have hlf : w.heap.size ≤ gf := by omega
  have hll : w.heap.size ≤ gl := by omega
  have hltl : gf < gl := by omega
  clear hgl hs1 hs2
  go_wp2_with fail
  refine (oawake _ (HX.out.keep hBw2)).mono ?_
  rintro e x1 ⟨rfl, hq⟩
  have hfx1 := (hfw2).to (by omega) hq
  have hlx1 := (hlw2).to (by omega) hq
  have hBx1 := hBw2.trans (hq.mono hBw2.size)
  clear hq hfw2 hlw2 hBw2
  obtain ⟨s, hs0⟩ : ∃ s : Nat → Nat, enF f zF = s := ⟨_, rfl⟩
  have HS0 := Lib.hid hs0
  have HSL := Lib.hid (show B16 s by rw [← hs0]; exact enR_lt Hf.out zF_lt 10)
  clear hs0
  go_wp2_with (refine wpList_load_ar rfl _ _ rfl _ _ _ rfl hfx1 Tryd.arr16b (size16b _) ?_)
  refine (fnew f _ Hf.out (HX.out.keep hBx1)).mono ?_
  rintro e x2 ⟨gC, rfl, hgC, hCx2, hq⟩
  have hfx2 := (hfx1).to (by omega) hq
  have hlx2 := (hlx1).to (by omega) hq
  have hBx2 := hBx1.trans (hq.mono hBx1.size)
  clear hq hfx1 hlx1 hBx1
  go_wp2_with fail
  refine (tnew (some ⟨gC, 0, none⟩) f _ Hf.out (exp_made gC f _ hCx2) (HX.out.keep hBx2)).mono ?_
  rintro e x3 ⟨gT, rfl, hgT, hTx3, hq⟩
  rw [HS0.out] at hTx3
  have hfx3 := (hfx2).to (by omega) hq
  have hlx3 := (hlx2).to (by omega) hq
  have hCx3 := (hCx2).to hq
  have hBx3 := hBx2.trans (hq.mono hBx2.size)
  clear hq hfx2 hlx2 hCx2 hBx2
  by_cases h0 : i = 0
  · subst h0
    go_wp2_with (refine wpList_load_ar rfl _ _ rfl _ _ _ rfl hlx3 Tryd.arr16b (size16b _) ?_)
    refine (wnext0 (.pointer (some ⟨gT, 0, none⟩)) f l _ Hf.out Hl.out (wtab gT gC f s _ HS0.out (hTx3) (hCx3))).mono ?_
    rintro e x4 ⟨rfl, hq⟩
    have hfx4 := (hfx3).to (by omega) hq
    have hlx4 := (hlx3).to (by omega) hq
    have hCx4 := (hCx3).to hq
    have hTx4 := (hTx3).to hq
    have hBx4 := hBx3.trans (hq.mono hBx3.size)
    clear hq hfx3 hlx3 hCx3 hTx3 hBx3
    obtain ⟨gm, hgm⟩ : ∃ g : Nat, x4.heap.size = g := ⟨_, rfl⟩
    have hlgfgm : gf < gm := by rw [← hgm]; exact hfx4.lt (by omega)
    have hlglgm : gl < gm := by rw [← hgm]; exact hlx4.lt (by omega)
    have hlgCgm : gC < gm := by rw [← hgm]; exact hCx4.lt
    have hlgTgm : gT < gm := by rw [← hgm]; exact hTx4.lt
    have hlwgm : w.heap.size ≤ gm := by rw [← hgm]; exact hBx4.size
    have hq : Below x4.heap.size x4 (x4.alloc (.cells (arL 16 fun _ => 0).toArray 22)) := (Below.refl _ _).alloc (Nat.le_refl _) _
    have hfx5a := (hfx4).to (by omega) hq
    have hlx5a := (hlx4).to (by omega) hq
    have hCx5a := (hCx4).to hq
    have hTx5a := (hTx4).to hq
    have hmx5a := Ar.new x4 16 (fun _ => 0) 22
    have hBx5a := hBx4.alloc hBx4.size (.cells (arL 16 fun _ => 0).toArray 22)
    rw [hgm] at hmx5a
    clear hq hfx4 hlx4 hCx4 hTx4 hBx4
    go_upto_region 5 with (first | (refine wpList_store_ar rfl _ _ _ rfl _ _ _ (l) rfl rfl hmx5a (size16b _) ?_; intro x5 hmx5 belx5 sizx5 keex5) | fail)
    have hfx5 := (hfx5a).keep hlgfgm belx5
    have hlx5 := (hlx5a).keep hlglgm belx5
    have hCx5 := (hCx5a).keep hlgCgm belx5
    have hTx5 := (hTx5a).keep hlgTgm belx5
    have hBx5 := hBx5a.trans (belx5.mono hlwgm)
    clear hfx5a hlx5a hCx5a hTx5a hmx5a hBx5a belx5 sizx5 keex5 hgm
    try dsimp only [Act.put]
    have heq := fun X => eq16_true (f := X) (g := X) (fun _ _ => rfl)
    have hgd := Tryd.eqg16
    go_wp2_with (first | (refine wpList_load_ar rfl _ _ rfl _ _ _ rfl hmx5 Tryd.arr16b (size16b _) ?_) | (refine wpList_load_ar rfl _ _ rfl _ _ _ rfl hlx5 Tryd.arr16b (size16b _) ?_))
    go_ret
    exact ⟨rfl, hBx5⟩
  · have h0i : ¬ (i : Int) = 0 := by omega
    obtain ⟨d, hd0⟩ : ∃ d : Nat → Nat, dk s (zer i + 2) = d := ⟨_, rfl⟩
    have HD := Lib.hid hd0
    have HDL := Lib.hid (show B16 d by rw [← hd0]; exact dk_lt HSL.out _)
    clear hd0
    go_wp2_with (refine wpList_load_ar rfl _ _ rfl _ _ _ rfl hlx3 Tryd.arr16b (size16b _) ?_)
    refine (wnext (.pointer (some ⟨gT, 0, none⟩)) f l s d i _ HS0.out HD.out h0 hi Hf.out Hl.out (wtab gT gC f s _ HS0.out (hTx3) (hCx3))).mono ?_
    rintro e x6 ⟨rfl, hq⟩
    have hfx6 := (hfx3).to (by omega) hq
    have hlx6 := (hlx3).to (by omega) hq
    have hCx6 := (hCx3).to hq
    have hTx6 := (hTx3).to hq
    have hBx6 := hBx3.trans (hq.mono hBx3.size)
    clear hq hfx3 hlx3 hCx3 hTx3 hBx3
    obtain ⟨gm, hgm⟩ : ∃ g : Nat, x6.heap.size = g := ⟨_, rfl⟩
    have hlgfgm : gf < gm := by rw [← hgm]; exact hfx6.lt (by omega)
    have hlglgm : gl < gm := by rw [← hgm]; exact hlx6.lt (by omega)
    have hlgCgm : gC < gm := by rw [← hgm]; exact hCx6.lt
    have hlgTgm : gT < gm := by rw [← hgm]; exact hTx6.lt
    have hlwgm : w.heap.size ≤ gm := by rw [← hgm]; exact hBx6.size
    have hq : Below x6.heap.size x6 (x6.alloc (.cells (arL 16 fun _ => 0).toArray 22)) := (Below.refl _ _).alloc (Nat.le_refl _) _
    have hfx7a := (hfx6).to (by omega) hq
    have hlx7a := (hlx6).to (by omega) hq
    have hCx7a := (hCx6).to hq
    have hTx7a := (hTx6).to hq
    have hmx7a := Ar.new x6 16 (fun _ => 0) 22
    have hBx7a := hBx6.alloc hBx6.size (.cells (arL 16 fun _ => 0).toArray 22)
    rw [hgm] at hmx7a
    clear hq hfx6 hlx6 hCx6 hTx6 hBx6
    go_upto_region 5 with (first | (refine wpList_store_ar rfl _ _ _ rfl _ _ _ (adF l d) rfl rfl hmx7a (size16b _) ?_; intro x7 hmx7 belx7 sizx7 keex7) | fail)
    have hfx7 := (hfx7a).keep hlgfgm belx7
    have hlx7 := (hlx7a).keep hlglgm belx7
    have hCx7 := (hCx7a).keep hlgCgm belx7
    have hTx7 := (hTx7a).keep hlgTgm belx7
    have hBx7 := hBx7a.trans (belx7.mono hlwgm)
    clear hfx7a hlx7a hCx7a hTx7a hmx7a hBx7a belx7 sizx7 keex7 hgm
    try dsimp only [Act.put]
    have heq := fun X => eq16_true (f := X) (g := X) (fun _ _ => rfl)
    have hgd := Tryd.eqg16
    go_upto_region 7 with fail
    refine wp_region_held_drew (S := fun W => Ar W gm 16 (adF l d) ∧ Ar W gl 16 (l) ∧ Ar W gf 16 (f) ∧ Ci W gC (f) ∧ Ti W gT (some ⟨gC, 0, none⟩) (s) ∧ Below w.heap.size w W) (by kernel_rfl) ⟨hmx7.drew, hlx7.drew, hfx7.drew, hCx7.drew, hTx7.drew, hBx7.drew⟩ (fun hHeld => ?_)
    clear hmx7 hlx7 hfx7 hCx7 hTx7 hBx7 
    generalize World.drew x7 = qd at *
    refine wpAnyH_take (i := 0) (v := .agg (arL 16 (adF l d)).toArray) rfl (by kernel_rfl) (by kernel_rfl) (by kernel_rfl) (fun _ _ _ h => h) (yieldsIf_load_mid (by rfl) _ _ rfl gm (0) rfl (arL 16 (adF l d)) _ (fun W hSw => hSw.1.range) Tryd.arr16b rfl (size16b _)) (by assumption) ?_
    simp only [Act.put, List.setIfInBounds_toArray, List.set_cons_zero, List.set_cons_succ, List.getElem_toArray, List.getElem_cons_zero]
    refine wpAnyH_take (i := 1) (v := .agg (arL 16 (l)).toArray) rfl (by kernel_rfl) (by kernel_rfl) (by kernel_rfl) (fun _ _ _ h => h) (yieldsIf_load_mid (by rfl) _ _ rfl gl (0) rfl (arL 16 (l)) _ (fun W hSw => hSw.2.1.range) Tryd.arr16b rfl (size16b _)) (by assumption) ?_
    simp only [Act.put, List.setIfInBounds_toArray, List.set_cons_zero, List.set_cons_succ, List.getElem_toArray, List.getElem_cons_zero, List.getElem_cons_succ]
    refine wpAnyH_take (i := 2) (v := .agg (arL 16 (f)).toArray) rfl (by kernel_rfl) (by kernel_rfl) (by kernel_rfl) (fun _ _ _ h => h) (yieldsIf_load_mid (by rfl) _ _ rfl gf (0) rfl (arL 16 (f)) _ (fun W hSw => hSw.2.2.1.range) Tryd.arr16b rfl (size16b _)) (by assumption) ?_
    simp only [Act.put, List.setIfInBounds_toArray, List.set_cons_zero, List.set_cons_succ, List.getElem_toArray, List.getElem_cons_zero, List.getElem_cons_succ]
    refine wpAnyH_take (i := 5) (v := ?vq1) rfl (by kernel_rfl) (by kernel_rfl) (by kernel_rfl) (fun _ _ _ h => h) (Or.inl ⟨by rfl, ?hyq1⟩) (by assumption) ?restq1
    case hyq1 =>
      intro W hSw
      go_simp
      try with_reducible rfl
    simp only [Act.put, List.setIfInBounds_toArray, List.set_cons_zero, List.set_cons_succ, List.getElem_toArray, List.getElem_cons_zero, List.getElem_cons_succ]
    refine wpAnyH_ready (rs := [3]) (by kernel_rfl) (by simp) ?_
    refine AllReadyH.cons rfl (fun K hK => ?_) AllReadyH.nil
    go_simp
    refine (refprepare f _ Hf.out).mono ?_
    rintro e q2 ⟨rfl, hq⟩
    go_wp2_with fail
    refine hK.out _ _ ⟨(hHeld.1).to (by omega) hq, (hHeld.2.1).to (by omega) hq, (hHeld.2.2.1).to (by omega) hq, (hHeld.2.2.2.1).to hq, (hHeld.2.2.2.2.1).to hq, (hHeld.2.2.2.2.2).trans (hq.mono (hHeld.2.2.2.2.2).size)⟩ (fun hHeld2 => ?_)
    clear hK K hHeld hq
    have hHeld := hHeld2
    clear hHeld2
    try simp only [Act.put, List.setIfInBounds_toArray, List.set_cons_zero, List.set_cons_succ, List.getElem_toArray, List.getElem_cons_zero, List.getElem_cons_succ]
    refine wpAnyH_ready (rs := [4]) (by kernel_rfl) (by simp) ?_
    refine AllReadyH.cons rfl (fun K hK => ?_) AllReadyH.nil
    go_simp
    refine (refstar f _ Hf.out zF_lt).mono ?_
    rintro e q3 ⟨rfl, hq⟩
    rw [HS0.out]
    go_wp2_with fail
    refine hK.out _ _ ⟨(hHeld.1).to (by omega) hq, (hHeld.2.1).to (by omega) hq, (hHeld.2.2.1).to (by omega) hq, (hHeld.2.2.2.1).to hq, (hHeld.2.2.2.2.1).to hq, (hHeld.2.2.2.2.2).trans (hq.mono (hHeld.2.2.2.2.2).size)⟩ (fun hHeld2 => ?_)
    clear hK K hHeld hq
    have hHeld := hHeld2
    clear hHeld2
    try simp only [Act.put, List.setIfInBounds_toArray, List.set_cons_zero, List.set_cons_succ, List.getElem_toArray, List.getElem_cons_zero, List.getElem_cons_succ]
    refine wpAnyH_ready (rs := [6]) (by kernel_rfl) (by simp) ?_
    refine AllReadyH.cons rfl (fun K hK => ?_) AllReadyH.nil
    go_simp
    refine (reffor s i _ HSL.out hi).mono ?_
    rintro e q4 ⟨rfl, hq⟩
    rw [HD.out]
    go_wp2_with fail
    refine hK.out _ _ ⟨(hHeld.1).to (by omega) hq, (hHeld.2.1).to (by omega) hq, (hHeld.2.2.1).to (by omega) hq, (hHeld.2.2.2.1).to hq, (hHeld.2.2.2.2.1).to hq, (hHeld.2.2.2.2.2).trans (hq.mono (hHeld.2.2.2.2.2).size)⟩ (fun hHeld2 => ?_)
    clear hK K hHeld hq
    have hHeld := hHeld2
    clear hHeld2
    try simp only [Act.put, List.setIfInBounds_toArray, List.set_cons_zero, List.set_cons_succ, List.getElem_toArray, List.getElem_cons_zero, List.getElem_cons_succ]
    refine wpAnyH_ready (rs := [7]) (by kernel_rfl) (by simp) ?_
    refine AllReadyH.cons rfl (fun K hK => ?_) AllReadyH.nil
    go_simp
    refine (refxor8 l d _ Hl.out HDL.out).mono ?_
    rintro e q5 ⟨rfl, hq⟩
    go_wp2_with fail
    refine hK.out _ _ ⟨(hHeld.1).to (by omega) hq, (hHeld.2.1).to (by omega) hq, (hHeld.2.2.1).to (by omega) hq, (hHeld.2.2.2.1).to hq, (hHeld.2.2.2.2.1).to hq, (hHeld.2.2.2.2.2).trans (hq.mono (hHeld.2.2.2.2.2).size)⟩ (fun hHeld2 => ?_)
    clear hK K hHeld hq
    have hHeld := hHeld2
    clear hHeld2
    try simp only [Act.put, List.setIfInBounds_toArray, List.set_cons_zero, List.set_cons_succ, List.getElem_toArray, List.getElem_cons_zero, List.getElem_cons_succ]
    refine wpAnyH_take (i := 8) (v := ?vq6) rfl (by kernel_rfl) (by kernel_rfl) (by kernel_rfl) (fun _ _ _ h => h) (Or.inl ⟨by rfl, ?hyq6⟩) (by assumption) ?restq6
    case hyq6 =>
      intro W hSw
      go_simp
      try with_reducible rfl
    simp only [Act.put, List.setIfInBounds_toArray, List.set_cons_zero, List.set_cons_succ, List.getElem_toArray, List.getElem_cons_zero, List.getElem_cons_succ]
    refine wpAnyH_take (i := 9) (v := ?vq7) rfl (by kernel_rfl) (by kernel_rfl) (by kernel_rfl) (fun _ _ _ h => h) (Or.inl ⟨by rfl, ?hyq7⟩) (by assumption) ?restq7
    case hyq7 =>
      intro W hSw
      go_simp
      try with_reducible rfl
    simp only [Act.put, List.setIfInBounds_toArray, List.set_cons_zero, List.set_cons_succ, List.getElem_toArray, List.getElem_cons_zero, List.getElem_cons_succ]
    refine wpAnyH_take (i := 10) (v := ?vq8) rfl (by kernel_rfl) (by kernel_rfl) (by kernel_rfl) (fun _ _ _ h => h) (Or.inl ⟨by rfl, ?hyq8⟩) (by assumption) ?restq8
    case hyq8 =>
      intro W hSw
      go_simp
      try with_reducible rfl
    simp only [Act.put, List.setIfInBounds_toArray, List.set_cons_zero, List.set_cons_succ, List.getElem_toArray, List.getElem_cons_zero, List.getElem_cons_succ]
    refine wpAnyH_take (i := 11) (v := .agg (arL 16 (adF l d)).toArray) rfl (by kernel_rfl) (by kernel_rfl) (by kernel_rfl) (fun _ _ _ h => h) (yieldsIf_load_mid (by rfl) _ _ rfl gm (0) rfl (arL 16 (adF l d)) _ (fun W hSw => hSw.1.range) Tryd.arr16b rfl (size16b _)) (by assumption) ?_
    simp only [Act.put, List.setIfInBounds_toArray, List.set_cons_zero, List.set_cons_succ, List.getElem_toArray, List.getElem_cons_zero, List.getElem_cons_succ]
    refine wpAnyH_take (i := 12) (v := ?vq9) rfl (by kernel_rfl) (by kernel_rfl) (by kernel_rfl) (fun _ _ _ h => h) (Or.inl ⟨by rfl, ?hyq9⟩) (by assumption) ?restq9
    case hyq9 =>
      intro W hSw
      go_simp
      try with_reducible rfl
    simp only [Act.put, List.setIfInBounds_toArray, List.set_cons_zero, List.set_cons_succ, List.getElem_toArray, List.getElem_cons_zero, List.getElem_cons_succ]
    refine wpAnyH_take (i := 14) (v := .agg (arL 16 (l)).toArray) rfl (by kernel_rfl) (by kernel_rfl) (by kernel_rfl) (fun _ _ _ h => h) (yieldsIf_load_mid (by rfl) _ _ rfl gl (0) rfl (arL 16 (l)) _ (fun W hSw => hSw.2.1.range) Tryd.arr16b rfl (size16b _)) (by assumption) ?_
    simp only [Act.put, List.setIfInBounds_toArray, List.set_cons_zero, List.set_cons_succ, List.getElem_toArray, List.getElem_cons_zero, List.getElem_cons_succ]
    refine wpAnyH_ready (rs := [13]) (by kernel_rfl) (by simp) ?_
    refine AllReadyH.cons rfl (fun K hK => ?_) AllReadyH.nil
    go_simp
    refine (wback (.pointer (some ⟨gT, 0, none⟩)) f l s d i _ HS0.out HD.out h0 hi Hf.out Hl.out HDL.out (wtab gT gC f s _ HS0.out (hHeld.2.2.2.2.1) (hHeld.2.2.2.1))).mono ?_
    rintro e q10 ⟨rfl, hq⟩
    go_wp2_with fail
    refine hK.out _ _ ⟨(hHeld.1).to (by omega) hq, (hHeld.2.1).to (by omega) hq, (hHeld.2.2.1).to (by omega) hq, (hHeld.2.2.2.1).to hq, (hHeld.2.2.2.2.1).to hq, (hHeld.2.2.2.2.2).trans (hq.mono (hHeld.2.2.2.2.2).size)⟩ (fun hHeld2 => ?_)
    clear hK K hHeld hq
    have hHeld := hHeld2
    clear hHeld2
    try simp only [Act.put, List.setIfInBounds_toArray, List.set_cons_zero, List.set_cons_succ, List.getElem_toArray, List.getElem_cons_zero, List.getElem_cons_succ]
    refine wpAnyH_take (i := 15) (v := ?vq11) rfl (by kernel_rfl) (by kernel_rfl) (by kernel_rfl) (fun _ _ _ h => h) (Or.inl ⟨by rfl, ?hyq11⟩) (by assumption) ?restq11
    case hyq11 =>
      intro W hSw
      go_simp
      try with_reducible rfl
    simp only [Act.put, List.setIfInBounds_toArray, List.set_cons_zero, List.set_cons_succ, List.getElem_toArray, List.getElem_cons_zero, List.getElem_cons_succ]
    refine wpAnyH_take (i := 16) (v := ?vq12) rfl (by kernel_rfl) (by kernel_rfl) (by kernel_rfl) (fun _ _ _ h => h) (Or.inl ⟨by rfl, ?hyq12⟩) (by assumption) ?restq12
    case hyq12 =>
      intro W hSw
      go_simp
      try with_reducible rfl
    simp only [Act.put, List.setIfInBounds_toArray, List.set_cons_zero, List.set_cons_succ, List.getElem_toArray, List.getElem_cons_zero, List.getElem_cons_succ]
    refine wpAnyH_take (i := 17) (v := ?vq13) rfl (by kernel_rfl) (by kernel_rfl) (by kernel_rfl) (fun _ _ _ h => h) (Or.inl ⟨by rfl, ?hyq13⟩) (by assumption) ?restq13
    case hyq13 =>
      intro W hSw
      go_simp
      try with_reducible rfl
    simp only [Act.put, List.setIfInBounds_toArray, List.set_cons_zero, List.set_cons_succ, List.getElem_toArray, List.getElem_cons_zero, List.getElem_cons_succ]
    refine wpAnyH_done (by kernel_rfl) ?_ _
    have hBe := hHeld.2.2.2.2.2
    clear hHeld
    go_wp2_with fail
    go_ret
    exact ⟨rfl, hBe⟩
end Go.Proofs.YtblhfmlgpldaeaaDoor
