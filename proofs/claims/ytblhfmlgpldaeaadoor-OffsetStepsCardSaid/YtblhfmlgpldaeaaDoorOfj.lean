/-
  The walk of the law OffsetSteps of layer 10: for every key, every nonce and every number it returns true, and writes nothing that was there.
-/
import Derived.Test.YtblhfmlgpldaeaaDoorOfg
import Derived.Deep.RegionHeld3
import Derived.Lib.MinMax
namespace Go.Proofs.YtblhfmlgpldaeaaDoor
open Go.RowKit
set_option linter.unusedVariables false
set_option maxRecDepth 100000

set_option maxHeartbeats 8000000 in
theorem osteps (f : Nat → Nat) (n : Nat → Nat) (i : Int) (w : World) (hf : ∀ j, j < 16 → f j < 256) (hn : ∀ j, j < 12 → n j < 256) (hi : -9223372036854775808 ≤ i ∧ i ≤ 9223372036854775807) (hs : Boxes w) :
    Calls Tryd.prog 5 #[.agg (arL 16 f).toArray, .agg (arL 12 n).toArray, .int .i64 i] w fun e w' => e = .returned (.bool true) ∧ Below w.heap.size w w' := by
  have HX := Lib.hid hs
  have hz := zero16b
  have hz12 := zero12
  have hzK := zeroK
  have z0 := run_zero16
  obtain ⟨dK, hfs, hrow⟩ := Tryd.structK
  have HS := Lib.hid hfs
  have HW := Lib.hid hrow
  clear hfs hrow
  have Hf := Lib.hid hf
  have Hn := Lib.hid hn
  obtain ⟨kf, hkf⟩ : ∃ k : Array Value, (arL 16 f).toArray = k := ⟨_, rfl⟩
  obtain ⟨kn, hkn⟩ : ∃ k : Array Value, (arL 12 n).toArray = k := ⟨_, rfl⟩
  obtain ⟨w1, hw1⟩ : ∃ V : World, V = w.alloc (.cells (arL 16 f).toArray 22) := ⟨_, rfl⟩
  have hs1 : w1.heap.size = w.heap.size + 1 := by rw [hw1]; simp
  have hBw1 : Below w.heap.size w w1 := by rw [hw1]; exact (Below.refl _ _).alloc (Nat.le_refl _) _
  have hfw1 : Ar w1 w.heap.size 16 f := by rw [hw1]; exact Ar.new w 16 f _
  obtain ⟨w2, hw2⟩ : ∃ V : World, V = w1.alloc (.cells (arL 12 n).toArray 23) := ⟨_, rfl⟩
  have hs2 : w2.heap.size = w.heap.size + 2 := by rw [hw2]; simp [hs1]
  have hBw2 : Below w.heap.size w w2 := by rw [hw2]; exact hBw1.alloc (by omega) _
  have hfw2 := hfw1.alloc (by omega) (.cells (arL 12 n).toArray 23)
  rw [← hw2] at hfw2
  have hnw2 : Ar w2 (w.heap.size + 1) 12 n := by rw [hw2, ← hs1]; exact Ar.new w1 12 n _
  rw [hkf] at hw1
  rw [hkn] at hw2
  rw [hkf, hkn]
  clear hkf hkn hs hf hn
  go_enter Tryd.func5, Tryd.ntmps5
  go_upto_region 1 with fail
  rw [← hw1, ← hw2]
  clear hw1 hw2
  try simp only [Nat.add_assoc, Nat.reduceAdd]
  obtain ⟨gf, hgf⟩ : ∃ g : Nat, w.heap.size = g := ⟨_, rfl⟩
  obtain ⟨gn, hgn⟩ : ∃ g : Nat, w.heap.size + 1 = g := ⟨_, rfl⟩
  rw [hgf] at hfw2
  rw [hgn] at hnw2
  try rw [hgn]
  try simp only [hgf]
  have hlf : w.heap.size ≤ gf := by omega
  have hln : w.heap.size ≤ gn := by omega
  have hltn : gf < gn := by omega
  clear hgn hs1 hs2
  go_wp2_with fail
  refine (oawake _ (HX.out.keep hBw2)).mono ?_
  rintro e x1 ⟨rfl, hq⟩
  have hfx1 := (hfw2).to (by omega) hq
  have hnx1 := (hnw2).to (by omega) hq
  have hBx1 := hBw2.trans (hq.mono hBw2.size)
  clear hq hfw2 hnw2 hBw2
  by_cases h300 : i > 300
  · have h301 : (300 : Int) < i := h300
    go_wp2_with fail
    refine (oawake _ (HX.out.keep hBx1)).mono ?_
    rintro e x2 ⟨rfl, hq⟩
    have hfx2 := (hfx1).to (by omega) hq
    have hnx2 := (hnx1).to (by omega) hq
    have hBx2 := hBx1.trans (hq.mono hBx1.size)
    clear hq hfx1 hnx1 hBx1
    go_wp2_with fail
    go_ret
    exact ⟨rfl, hBx2⟩
  · have h301 : ¬ (300 : Int) < i := h300
    obtain ⟨s, hs0⟩ : ∃ s : Nat → Nat, enF f zF = s := ⟨_, rfl⟩
    have HS0 := Lib.hid hs0
    have HSL := Lib.hid (show B16 s by rw [← hs0]; exact enR_lt Hf.out zF_lt 10)
    clear hs0
    go_wp2_with (refine wpList_load_ar rfl _ _ rfl _ _ _ rfl hfx1 Tryd.arr16b (size16b _) ?_)
    refine (fnew f _ Hf.out (HX.out.keep hBx1)).mono ?_
    rintro e x3 ⟨gC, rfl, hgC, hCx3, hq⟩
    have hfx3 := (hfx1).to (by omega) hq
    have hnx3 := (hnx1).to (by omega) hq
    have hBx3 := hBx1.trans (hq.mono hBx1.size)
    clear hq hfx1 hnx1 hBx1
    go_wp2_with fail
    refine (tnew (some ⟨gC, 0, none⟩) f _ Hf.out (exp_made gC f _ hCx3) (HX.out.keep hBx3)).mono ?_
    rintro e x4 ⟨gT, rfl, hgT, hTx4, hq⟩
    rw [HS0.out] at hTx4
    have hfx4 := (hfx3).to (by omega) hq
    have hnx4 := (hnx3).to (by omega) hq
    have hCx4 := (hCx3).to hq
    have hBx4 := hBx3.trans (hq.mono hBx3.size)
    clear hq hfx3 hnx3 hCx3 hBx3
    obtain ⟨t, ht0⟩ : ∃ t : Nat → Nat, enF f (nbF n) = t := ⟨_, rfl⟩
    have HT0 := Lib.hid ht0
    have HTL := Lib.hid (show B16 t by rw [← ht0]; exact enR_lt Hf.out (nbF_lt Hn.out) 10)
    obtain ⟨o, ho0⟩ : ∃ o : Nat → Nat, o0F (enF f (nbF n)) (n 11) = o := ⟨_, rfl⟩
    have HO := Lib.hid ho0
    have HOL := Lib.hid (show B16 o by rw [← ho0]; exact o0F_lt (enR_lt Hf.out (nbF_lt Hn.out) 10) _)
    clear ht0 ho0
    obtain ⟨m, hm⟩ : ∃ m : Nat, i.toNat = m := ⟨_, rfl⟩
    have HM := Lib.hid hm
    have HMX := Lib.hid (show max i 0 = (m : Int) by omega)
    have hm300 : m ≤ 300 := by omega
    have HMI := Lib.hid (show 0 ≤ i → i = (m : Int) by omega)
    clear hm
    have HI := Lib.hid hi
    clear h301 h300
    obtain ⟨am, ham⟩ : ∃ am : Nat → Nat, atF o s m = am := ⟨_, rfl⟩
    have HAM := Lib.hid ham
    clear ham
    go_wp2_with (refine wpList_load_ar rfl _ _ rfl _ _ _ rfl hnx4 Tryd.arr12 (size12 _) ?_)
    refine (wat (.pointer (some ⟨gT, 0, none⟩)) f n o s i m _ HO.out HS0.out HM.out HI.out Hf.out Hn.out (wtab gT gC f s _ HS0.out (hTx4) (hCx4)) (HX.out.keep hBx4)).mono ?_
    rintro e x5 ⟨rfl, hq⟩
    rw [HAM.out]
    have hfx5 := (hfx4).to (by omega) hq
    have hnx5 := (hnx4).to (by omega) hq
    have hCx5 := (hCx4).to hq
    have hTx5 := (hTx4).to hq
    have hBx5 := hBx4.trans (hq.mono hBx4.size)
    clear hq hfx4 hnx4 hCx4 hTx4 hBx4
    obtain ⟨ga, hga⟩ : ∃ g : Nat, x5.heap.size = g := ⟨_, rfl⟩
    have hlgfga : gf < ga := by rw [← hga]; exact hfx5.lt (by omega)
    have hlgnga : gn < ga := by rw [← hga]; exact hnx5.lt (by omega)
    have hlgCga : gC < ga := by rw [← hga]; exact hCx5.lt
    have hlgTga : gT < ga := by rw [← hga]; exact hTx5.lt
    have hlwga : w.heap.size ≤ ga := by rw [← hga]; exact hBx5.size
    have hq : Below x5.heap.size x5 (x5.alloc (.cells (arL 16 fun _ => 0).toArray 22)) := (Below.refl _ _).alloc (Nat.le_refl _) _
    have hfx6a := (hfx5).to (by omega) hq
    have hnx6a := (hnx5).to (by omega) hq
    have hCx6a := (hCx5).to hq
    have hTx6a := (hTx5).to hq
    have hax6a := Ar.new x5 16 (fun _ => 0) 22
    have hBx6a := hBx5.alloc hBx5.size (.cells (arL 16 fun _ => 0).toArray 22)
    rw [hga] at hax6a
    clear hq hfx5 hnx5 hCx5 hTx5 hBx5
    go_upto_region 5 with (first | (refine wpList_store_ar rfl _ _ _ rfl _ _ _ (am) rfl rfl hax6a (size16b _) ?_; intro x6 hax6 belx6 sizx6 keex6) | fail)
    have hfx6 := (hfx6a).keep hlgfga belx6
    have hnx6 := (hnx6a).keep hlgnga belx6
    have hCx6 := (hCx6a).keep hlgCga belx6
    have hTx6 := (hTx6a).keep hlgTga belx6
    have hBx6 := hBx6a.trans (belx6.mono hlwga)
    clear hfx6a hnx6a hCx6a hTx6a hax6a hBx6a belx6 sizx6 keex6 hga
    try dsimp only [Act.put]
    have heq := fun X => eq16_true (f := X) (g := X) (fun _ _ => rfl)
    have hgd := Tryd.eqg16
    have hmx := HMX.out
    refine wp_region_held_drew (S := fun W => Ar W gf 16 (f) ∧ Ar W gn 12 (n) ∧ Ar W ga 16 (am) ∧ Ci W gC (f) ∧ Ti W gT (some ⟨gC, 0, none⟩) (s) ∧ Below w.heap.size w W) (by kernel_rfl) ⟨hfx6.drew, hnx6.drew, hax6.drew, hCx6.drew, hTx6.drew, hBx6.drew⟩ (fun hHeld => ?_)
    clear hfx6 hnx6 hax6 hCx6 hTx6 hBx6 
    generalize World.drew x6 = qd at *
    refine wpAnyH_take (i := 0) (v := .agg (arL 16 (am)).toArray) rfl (by kernel_rfl) (by kernel_rfl) (by kernel_rfl) (fun _ _ _ h => h) (yieldsIf_load_mid (by rfl) _ _ rfl ga (0) rfl (arL 16 (am)) _ (fun W hSw => hSw.2.2.1.range) Tryd.arr16b rfl (size16b _)) (by assumption) ?_
    simp only [Act.put, List.setIfInBounds_toArray, List.set_cons_zero, List.set_cons_succ, List.getElem_toArray, List.getElem_cons_zero]
    refine wpAnyH_take (i := 1) (v := .agg (arL 16 (f)).toArray) rfl (by kernel_rfl) (by kernel_rfl) (by kernel_rfl) (fun _ _ _ h => h) (yieldsIf_load_mid (by rfl) _ _ rfl gf (0) rfl (arL 16 (f)) _ (fun W hSw => hSw.1.range) Tryd.arr16b rfl (size16b _)) (by assumption) ?_
    simp only [Act.put, List.setIfInBounds_toArray, List.set_cons_zero, List.set_cons_succ, List.getElem_toArray, List.getElem_cons_zero, List.getElem_cons_succ]
    refine wpAnyH_take (i := 3) (v := .agg (arL 12 (n)).toArray) rfl (by kernel_rfl) (by kernel_rfl) (by kernel_rfl) (fun _ _ _ h => h) (yieldsIf_load_mid (by rfl) _ _ rfl gn (0) rfl (arL 12 (n)) _ (fun W hSw => hSw.2.1.range) Tryd.arr12 rfl (size12 _)) (by assumption) ?_
    simp only [Act.put, List.setIfInBounds_toArray, List.set_cons_zero, List.set_cons_succ, List.getElem_toArray, List.getElem_cons_zero, List.getElem_cons_succ]
    refine wpAnyH_take (i := 4) (v := ?vq1) rfl (by kernel_rfl) (by kernel_rfl) (by kernel_rfl) (fun _ _ _ h => h) (Or.inl ⟨by rfl, ?hyq1⟩) (by assumption) ?restq1
    case hyq1 =>
      intro W hSw
      go_simp
      try with_reducible rfl
    simp only [Act.put, List.setIfInBounds_toArray, List.set_cons_zero, List.set_cons_succ, List.getElem_toArray, List.getElem_cons_zero, List.getElem_cons_succ]
    refine wpAnyH_take (i := 5) (v := ?vq2) rfl (by kernel_rfl) (by kernel_rfl) (by kernel_rfl) (fun _ _ _ h => h) (Or.inl ⟨by rfl, ?hyq2⟩) (by assumption) ?restq2
    case hyq2 =>
      intro W hSw
      go_simp
      try with_reducible rfl
    simp only [Act.put, List.setIfInBounds_toArray, List.set_cons_zero, List.set_cons_succ, List.getElem_toArray, List.getElem_cons_zero, List.getElem_cons_succ]
    refine wpAnyH_ready (rs := [2]) (by kernel_rfl) (by simp) ?_
    refine AllReadyH.cons rfl (fun K hK => ?_) AllReadyH.nil
    go_simp
    refine (refprepare f _ Hf.out).mono ?_
    rintro e q3 ⟨rfl, hq⟩
    go_wp2_with fail
    refine hK.out _ _ ⟨(hHeld.1).to (by omega) hq, (hHeld.2.1).to (by omega) hq, (hHeld.2.2.1).to (by omega) hq, (hHeld.2.2.2.1).to hq, (hHeld.2.2.2.2.1).to hq, (hHeld.2.2.2.2.2).trans (hq.mono (hHeld.2.2.2.2.2).size)⟩ (fun hHeld2 => ?_)
    clear hK K hHeld hq
    have hHeld := hHeld2
    clear hHeld2
    try simp only [Act.put, List.setIfInBounds_toArray, List.set_cons_zero, List.set_cons_succ, List.getElem_toArray, List.getElem_cons_zero, List.getElem_cons_succ]
    refine wpAnyH_ready (rs := [6]) (by kernel_rfl) (by simp) ?_
    refine AllReadyH.cons rfl (fun K hK => ?_) AllReadyH.nil
    go_simp
    refine (wrat f n o s m _ HO.out HS0.out (by omega) Hf.out Hn.out).mono ?_
    rintro e q4 ⟨rfl, hq⟩
    rw [HAM.out]
    go_wp2_with fail
    refine hK.out _ _ ⟨(hHeld.1).to (by omega) hq, (hHeld.2.1).to (by omega) hq, (hHeld.2.2.1).to (by omega) hq, (hHeld.2.2.2.1).to hq, (hHeld.2.2.2.2.1).to hq, (hHeld.2.2.2.2.2).trans (hq.mono (hHeld.2.2.2.2.2).size)⟩ (fun hHeld2 => ?_)
    clear hK K hHeld hq
    have hHeld := hHeld2
    clear hHeld2
    try simp only [Act.put, List.setIfInBounds_toArray, List.set_cons_zero, List.set_cons_succ, List.getElem_toArray, List.getElem_cons_zero, List.getElem_cons_succ]
    refine wpAnyH_take (i := 7) (v := ?vq5) rfl (by kernel_rfl) (by kernel_rfl) (by kernel_rfl) (fun _ _ _ h => h) (Or.inl ⟨by rfl, ?hyq5⟩) (by assumption) ?restq5
    case hyq5 =>
      intro W hSw
      go_simp
      try with_reducible rfl
    simp only [Act.put, List.setIfInBounds_toArray, List.set_cons_zero, List.set_cons_succ, List.getElem_toArray, List.getElem_cons_zero, List.getElem_cons_succ]
    refine wpAnyH_done (by kernel_rfl) ?_ _
    have hfv := hHeld.1
    have hnv := hHeld.2.1
    have hav := hHeld.2.2.1
    have hCv := hHeld.2.2.2.1
    have hTv := hHeld.2.2.2.2.1
    have hBv := hHeld.2.2.2.2.2
    clear hHeld hmx
    obtain ⟨v, hv⟩ : ∃ V : World, q4 = V := ⟨_, rfl⟩
    rw [hv] at hfv hnv hav hCv hTv hBv ⊢
    clear hv
    by_cases hneg : i < 0
    · go_upto_region 7 with fail
      refine wp_region_held_drew (S := fun W => Ar W ga 16 (am) ∧ Below w.heap.size w W) (by kernel_rfl) ⟨hav.drew, hBv.drew⟩ (fun hHeld => ?_)
      clear hav hfv hnv hCv hTv hBv 
      generalize World.drew v = ud at *
      refine wpAnyH_take (i := 0) (v := ?vu1) rfl (by kernel_rfl) (by kernel_rfl) (by kernel_rfl) (fun _ _ _ h => h) (Or.inl ⟨by rfl, ?hyu1⟩) (by assumption) ?restu1
      case hyu1 =>
        intro W hSw
        go_simp
        try with_reducible rfl
      simp only [Act.put, List.setIfInBounds_toArray, List.set_cons_zero, List.set_cons_succ, List.getElem_toArray, List.getElem_cons_zero]
      refine wpAnyH_take (i := 1) (v := ?vu2) rfl (by kernel_rfl) (by kernel_rfl) (by kernel_rfl) (fun _ _ _ h => h) (Or.inl ⟨by rfl, ?hyu2⟩) (by assumption) ?restu2
      case hyu2 =>
        intro W hSw
        go_simp
        try with_reducible rfl
      simp only [Act.put, List.setIfInBounds_toArray, List.set_cons_zero, List.set_cons_succ, List.getElem_toArray, List.getElem_cons_zero, List.getElem_cons_succ]
      refine wpAnyH_take (i := 2) (v := ?vu3) rfl (by kernel_rfl) (by kernel_rfl) (by kernel_rfl) (fun _ _ _ h => h) (Or.inl ⟨by rfl, ?hyu3⟩) (by assumption) ?restu3
      case hyu3 =>
        intro W hSw
        go_simp
        try with_reducible rfl
      simp only [Act.put, List.setIfInBounds_toArray, List.set_cons_zero, List.set_cons_succ, List.getElem_toArray, List.getElem_cons_zero, List.getElem_cons_succ]
      refine wpAnyH_take (i := 3) (v := undef) rfl (by kernel_rfl) (by kernel_rfl) (by kernel_rfl) (fun _ _ _ h => h) (Or.inr ⟨by rfl, rfl⟩) (by assumption) ?_
      simp only [Act.put, List.setIfInBounds_toArray, List.set_cons_zero, List.set_cons_succ, List.getElem_toArray, List.getElem_cons_zero, List.getElem_cons_succ]
      refine wpAnyH_take (i := 4) (v := undef) rfl (by kernel_rfl) (by kernel_rfl) (by kernel_rfl) (fun _ _ _ h => h) (Or.inr ⟨by rfl, rfl⟩) (by assumption) ?_
      simp only [Act.put, List.setIfInBounds_toArray, List.set_cons_zero, List.set_cons_succ, List.getElem_toArray, List.getElem_cons_zero, List.getElem_cons_succ]
      refine wpAnyH_take (i := 5) (v := undef) rfl (by kernel_rfl) (by kernel_rfl) (by kernel_rfl) (fun _ _ _ h => h) (Or.inr ⟨by rfl, rfl⟩) (by assumption) ?_
      simp only [Act.put, List.setIfInBounds_toArray, List.set_cons_zero, List.set_cons_succ, List.getElem_toArray, List.getElem_cons_zero, List.getElem_cons_succ]
      refine wpAnyH_take (i := 6) (v := undef) rfl (by kernel_rfl) (by kernel_rfl) (by kernel_rfl) (fun _ _ _ h => h) (Or.inr ⟨by rfl, rfl⟩) (by assumption) ?_
      simp only [Act.put, List.setIfInBounds_toArray, List.set_cons_zero, List.set_cons_succ, List.getElem_toArray, List.getElem_cons_zero, List.getElem_cons_succ]
      refine wpAnyH_take (i := 7) (v := undef) rfl (by kernel_rfl) (by kernel_rfl) (by kernel_rfl) (fun _ _ _ h => h) (Or.inr ⟨by rfl, rfl⟩) (by assumption) ?_
      simp only [Act.put, List.setIfInBounds_toArray, List.set_cons_zero, List.set_cons_succ, List.getElem_toArray, List.getElem_cons_zero, List.getElem_cons_succ]
      refine wpAnyH_take (i := 8) (v := undef) rfl (by kernel_rfl) (by kernel_rfl) (by kernel_rfl) (fun _ _ _ h => h) (Or.inr ⟨by rfl, rfl⟩) (by assumption) ?_
      simp only [Act.put, List.setIfInBounds_toArray, List.set_cons_zero, List.set_cons_succ, List.getElem_toArray, List.getElem_cons_zero, List.getElem_cons_succ]
      refine wpAnyH_take (i := 9) (v := undef) rfl (by kernel_rfl) (by kernel_rfl) (by kernel_rfl) (fun _ _ _ h => h) (Or.inr ⟨by rfl, rfl⟩) (by assumption) ?_
      simp only [Act.put, List.setIfInBounds_toArray, List.set_cons_zero, List.set_cons_succ, List.getElem_toArray, List.getElem_cons_zero, List.getElem_cons_succ]
      refine wpAnyH_take (i := 10) (v := undef) rfl (by kernel_rfl) (by kernel_rfl) (by kernel_rfl) (fun _ _ _ h => h) (Or.inr ⟨by rfl, rfl⟩) (by assumption) ?_
      simp only [Act.put, List.setIfInBounds_toArray, List.set_cons_zero, List.set_cons_succ, List.getElem_toArray, List.getElem_cons_zero, List.getElem_cons_succ]
      refine wpAnyH_take (i := 11) (v := undef) rfl (by kernel_rfl) (by kernel_rfl) (by kernel_rfl) (fun _ _ _ h => h) (Or.inr ⟨by rfl, rfl⟩) (by assumption) ?_
      simp only [Act.put, List.setIfInBounds_toArray, List.set_cons_zero, List.set_cons_succ, List.getElem_toArray, List.getElem_cons_zero, List.getElem_cons_succ]
      refine wpAnyH_take (i := 12) (v := undef) rfl (by kernel_rfl) (by kernel_rfl) (by kernel_rfl) (fun _ _ _ h => h) (Or.inr ⟨by rfl, rfl⟩) (by assumption) ?_
      simp only [Act.put, List.setIfInBounds_toArray, List.set_cons_zero, List.set_cons_succ, List.getElem_toArray, List.getElem_cons_zero, List.getElem_cons_succ]
      refine wpAnyH_take (i := 13) (v := undef) rfl (by kernel_rfl) (by kernel_rfl) (by kernel_rfl) (fun _ _ _ h => h) (Or.inr ⟨by rfl, rfl⟩) (by assumption) ?_
      simp only [Act.put, List.setIfInBounds_toArray, List.set_cons_zero, List.set_cons_succ, List.getElem_toArray, List.getElem_cons_zero, List.getElem_cons_succ]
      refine wpAnyH_take (i := 14) (v := undef) rfl (by kernel_rfl) (by kernel_rfl) (by kernel_rfl) (fun _ _ _ h => h) (Or.inr ⟨by rfl, rfl⟩) (by assumption) ?_
      simp only [Act.put, List.setIfInBounds_toArray, List.set_cons_zero, List.set_cons_succ, List.getElem_toArray, List.getElem_cons_zero, List.getElem_cons_succ]
      refine wpAnyH_take (i := 15) (v := ?vu4) rfl (by kernel_rfl) (by kernel_rfl) (by kernel_rfl) (fun _ _ _ h => h) (Or.inl ⟨by rfl, ?hyu4⟩) (by assumption) ?restu4
      case hyu4 =>
        intro W hSw
        go_simp
        try with_reducible rfl
      simp only [Act.put, List.setIfInBounds_toArray, List.set_cons_zero, List.set_cons_succ, List.getElem_toArray, List.getElem_cons_zero, List.getElem_cons_succ]
      refine wpAnyH_take (i := 16) (v := ?vu5) rfl (by kernel_rfl) (by kernel_rfl) (by kernel_rfl) (fun _ _ _ h => h) (Or.inl ⟨by rfl, ?hyu5⟩) (by assumption) ?restu5
      case hyu5 =>
        intro W hSw
        go_simp
        try with_reducible rfl
      simp only [Act.put, List.setIfInBounds_toArray, List.set_cons_zero, List.set_cons_succ, List.getElem_toArray, List.getElem_cons_zero, List.getElem_cons_succ]
      refine wpAnyH_done (by kernel_rfl) ?_ _
      have hBe := hHeld.2
      clear hHeld
      go_wp2_with fail
      go_ret
      exact ⟨rfl, hBe⟩
    · obtain rfl : i = (m : Int) := HMI.out (by omega)
      have hneg2 : ¬ (m : Int) < 0 := by omega
      obtain ⟨k, hk⟩ : ∃ k : Nat, m + 1 = k := ⟨_, rfl⟩
      have HK := Lib.hid hk
      have HK1 := Lib.hid (step_facts m k hk hm300)
      have hk301 : k ≤ 301 := by omega
      obtain ⟨ak, hak⟩ : ∃ ak : Nat → Nat, atF o s k = ak := ⟨_, rfl⟩
      have HAK := Lib.hid hak
      clear hak hk
      go_upto_region 7 with fail
      refine wp_region_held_drew (S := fun W => Ar W gn 12 (n) ∧ Ar W ga 16 (am) ∧ Ci W gC (f) ∧ Ti W gT (some ⟨gC, 0, none⟩) (s) ∧ Below w.heap.size w W) (by kernel_rfl) ⟨hnv.drew, hav.drew, hCv.drew, hTv.drew, hBv.drew⟩ (fun hHeld => ?_)
      clear hnv hav hCv hTv hfv hBv 
      generalize World.drew v = wd at *
      refine wpAnyH_take (i := 0) (v := ?vw1) rfl (by kernel_rfl) (by kernel_rfl) (by kernel_rfl) (fun _ _ _ h => h) (Or.inl ⟨by rfl, ?hyw1⟩) (by assumption) ?restw1
      case hyw1 =>
        intro W hSw
        go_simp
        try with_reducible rfl
      simp only [Act.put, List.setIfInBounds_toArray, List.set_cons_zero, List.set_cons_succ, List.getElem_toArray, List.getElem_cons_zero]
      refine wpAnyH_take (i := 1) (v := ?vw2) rfl (by kernel_rfl) (by kernel_rfl) (by kernel_rfl) (fun _ _ _ h => h) (Or.inl ⟨by rfl, ?hyw2⟩) (by assumption) ?restw2
      case hyw2 =>
        intro W hSw
        go_simp
        try with_reducible rfl
      simp only [Act.put, List.setIfInBounds_toArray, List.set_cons_zero, List.set_cons_succ, List.getElem_toArray, List.getElem_cons_zero, List.getElem_cons_succ]
      refine wpAnyH_take (i := 2) (v := ?vw3) rfl (by kernel_rfl) (by kernel_rfl) (by kernel_rfl) (fun _ _ _ h => h) (Or.inl ⟨by rfl, ?hyw3⟩) (by assumption) ?restw3
      case hyw3 =>
        intro W hSw
        go_simp
        try with_reducible rfl
      simp only [Act.put, List.setIfInBounds_toArray, List.set_cons_zero, List.set_cons_succ, List.getElem_toArray, List.getElem_cons_zero, List.getElem_cons_succ]
      refine wpAnyH_take (i := 3) (v := ?vw4) rfl (by kernel_rfl) (by kernel_rfl) (by kernel_rfl) (fun _ _ _ h => h) (Or.inl ⟨by rfl, ?hyw4⟩) (by assumption) ?restw4
      case hyw4 =>
        intro W hSw
        go_simp
        try with_reducible rfl
      simp only [Act.put, List.setIfInBounds_toArray, List.set_cons_zero, List.set_cons_succ, List.getElem_toArray, List.getElem_cons_zero, List.getElem_cons_succ]
      refine wpAnyH_take (i := 4) (v := .agg (arL 12 (n)).toArray) rfl (by kernel_rfl) (by kernel_rfl) (by kernel_rfl) (fun _ _ _ h => h) (yieldsIf_load_mid (by rfl) _ _ rfl gn (0) rfl (arL 12 (n)) _ (fun W hSw => hSw.1.range) Tryd.arr12 rfl (size12 _)) (by assumption) ?_
      simp only [Act.put, List.setIfInBounds_toArray, List.set_cons_zero, List.set_cons_succ, List.getElem_toArray, List.getElem_cons_zero, List.getElem_cons_succ]
      refine wpAnyH_take (i := 5) (v := ?vw5) rfl (by kernel_rfl) (by kernel_rfl) (by kernel_rfl) (fun _ _ _ h => h) (Or.inl ⟨by rfl, ?hyw5⟩) (by assumption) ?restw5
      case hyw5 =>
        intro W hSw
        go_simp
        try with_reducible rfl
      simp only [Act.put, List.setIfInBounds_toArray, List.set_cons_zero, List.set_cons_succ, List.getElem_toArray, List.getElem_cons_zero, List.getElem_cons_succ]
      refine wpAnyH_take (i := 6) (v := ?vw6) rfl (by kernel_rfl) (by kernel_rfl) (by kernel_rfl) (fun _ _ _ h => h) (Or.inl ⟨by rfl, ?hyw6⟩) (by assumption) ?restw6
      case hyw6 =>
        intro W hSw
        obtain ⟨j1, j2, j3, j4, j5⟩ := HK1.out
        go_simp
        try with_reducible rfl
      simp only [Act.put, List.setIfInBounds_toArray, List.set_cons_zero, List.set_cons_succ, List.getElem_toArray, List.getElem_cons_zero, List.getElem_cons_succ]
      refine wpAnyH_take (i := 8) (v := ?vw7) rfl (by kernel_rfl) (by kernel_rfl) (by kernel_rfl) (fun _ _ _ h => h) (Or.inl ⟨by rfl, ?hyw7⟩) (by assumption) ?restw7
      case hyw7 =>
        intro W hSw
        go_simp
        try with_reducible rfl
      simp only [Act.put, List.setIfInBounds_toArray, List.set_cons_zero, List.set_cons_succ, List.getElem_toArray, List.getElem_cons_zero, List.getElem_cons_succ]
      refine wpAnyH_take (i := 9) (v := .agg (arL 16 (am)).toArray) rfl (by kernel_rfl) (by kernel_rfl) (by kernel_rfl) (fun _ _ _ h => h) (yieldsIf_load_mid (by rfl) _ _ rfl ga (0) rfl (arL 16 (am)) _ (fun W hSw => hSw.2.1.range) Tryd.arr16b rfl (size16b _)) (by assumption) ?_
      simp only [Act.put, List.setIfInBounds_toArray, List.set_cons_zero, List.set_cons_succ, List.getElem_toArray, List.getElem_cons_zero, List.getElem_cons_succ]
      refine wpAnyH_take (i := 10) (v := ?vw8) rfl (by kernel_rfl) (by kernel_rfl) (by kernel_rfl) (fun _ _ _ h => h) (Or.inl ⟨by rfl, ?hyw8⟩) (by assumption) ?restw8
      case hyw8 =>
        intro W hSw
        go_simp
        try with_reducible rfl
      simp only [Act.put, List.setIfInBounds_toArray, List.set_cons_zero, List.set_cons_succ, List.getElem_toArray, List.getElem_cons_zero, List.getElem_cons_succ]
      refine wpAnyH_take (i := 11) (v := ?vw9) rfl (by kernel_rfl) (by kernel_rfl) (by kernel_rfl) (fun _ _ _ h => h) (Or.inl ⟨by rfl, ?hyw9⟩) (by assumption) ?restw9
      case hyw9 =>
        intro W hSw
        obtain ⟨j1, j2, j3, j4, j5⟩ := HK1.out
        go_simp
        try with_reducible rfl
      simp only [Act.put, List.setIfInBounds_toArray, List.set_cons_zero, List.set_cons_succ, List.getElem_toArray, List.getElem_cons_zero, List.getElem_cons_succ]
      refine wpAnyH_take (i := 12) (v := ?vw10) rfl (by kernel_rfl) (by kernel_rfl) (by kernel_rfl) (fun _ _ _ h => h) (Or.inl ⟨by rfl, ?hyw10⟩) (by assumption) ?restw10
      case hyw10 =>
        intro W hSw
        obtain ⟨j1, j2, j3, j4, j5⟩ := HK1.out
        go_simp
        try with_reducible rfl
      simp only [Act.put, List.setIfInBounds_toArray, List.set_cons_zero, List.set_cons_succ, List.getElem_toArray, List.getElem_cons_zero, List.getElem_cons_succ]
      refine wpAnyH_ready (rs := [7]) (by kernel_rfl) (by simp) ?_
      refine AllReadyH.cons rfl (fun K hK => ?_) AllReadyH.nil
      go_simp
      refine (wat (.pointer (some ⟨gT, 0, none⟩)) f n o s (k : Nat) k _ HO.out HS0.out (Int.toNat_natCast k) (by omega) Hf.out Hn.out (wtab gT gC f s _ HS0.out (hHeld.2.2.2.1) (hHeld.2.2.1)) (HX.out.keep (hHeld.2.2.2.2))).mono ?_
      rintro e w11 ⟨rfl, hq⟩
      rw [HAK.out]
      go_wp2_with fail
      refine hK.out _ _ ⟨(hHeld.1).to (by omega) hq, (hHeld.2.1).to (by omega) hq, (hHeld.2.2.1).to hq, (hHeld.2.2.2.1).to hq, (hHeld.2.2.2.2).trans (hq.mono (hHeld.2.2.2.2).size)⟩ (fun hHeld2 => ?_)
      clear hK K hHeld hq
      have hHeld := hHeld2
      clear hHeld2
      try simp only [Act.put, List.setIfInBounds_toArray, List.set_cons_zero, List.set_cons_succ, List.getElem_toArray, List.getElem_cons_zero, List.getElem_cons_succ]
      refine wpAnyH_ready (rs := [13]) (by kernel_rfl) (by simp) ?_
      refine AllReadyH.cons rfl (fun K hK => ?_) AllReadyH.nil
      go_simp
      have hcl := wstep (.pointer (some ⟨gT, 0, none⟩)) f o s m k w11 HS0.out HK.out (by omega) Hf.out HOL.out (wtab gT gC f s _ HS0.out (hHeld.2.2.2.1) (hHeld.2.2.1))
      rw [HAM.out, HAK.out] at hcl
      refine (hcl).mono ?_
      rintro e w12 ⟨rfl, hq⟩
      clear hcl
      go_wp2_with fail
      refine hK.out _ _ ⟨(hHeld.1).to (by omega) hq, (hHeld.2.1).to (by omega) hq, (hHeld.2.2.1).to hq, (hHeld.2.2.2.1).to hq, (hHeld.2.2.2.2).trans (hq.mono (hHeld.2.2.2.2).size)⟩ (fun hHeld2 => ?_)
      clear hK K hHeld hq
      have hHeld := hHeld2
      clear hHeld2
      try simp only [Act.put, List.setIfInBounds_toArray, List.set_cons_zero, List.set_cons_succ, List.getElem_toArray, List.getElem_cons_zero, List.getElem_cons_succ]
      refine wpAnyH_take (i := 14) (v := ?vw13) rfl (by kernel_rfl) (by kernel_rfl) (by kernel_rfl) (fun _ _ _ h => h) (Or.inl ⟨by rfl, ?hyw13⟩) (by assumption) ?restw13
      case hyw13 =>
        intro W hSw
        go_simp
        try with_reducible rfl
      simp only [Act.put, List.setIfInBounds_toArray, List.set_cons_zero, List.set_cons_succ, List.getElem_toArray, List.getElem_cons_zero, List.getElem_cons_succ]
      refine wpAnyH_take (i := 15) (v := ?vw14) rfl (by kernel_rfl) (by kernel_rfl) (by kernel_rfl) (fun _ _ _ h => h) (Or.inl ⟨by rfl, ?hyw14⟩) (by assumption) ?restw14
      case hyw14 =>
        intro W hSw
        go_simp
        try with_reducible rfl
      simp only [Act.put, List.setIfInBounds_toArray, List.set_cons_zero, List.set_cons_succ, List.getElem_toArray, List.getElem_cons_zero, List.getElem_cons_succ]
      refine wpAnyH_take (i := 16) (v := ?vw15) rfl (by kernel_rfl) (by kernel_rfl) (by kernel_rfl) (fun _ _ _ h => h) (Or.inl ⟨by rfl, ?hyw15⟩) (by assumption) ?restw15
      case hyw15 =>
        intro W hSw
        go_simp
        try with_reducible rfl
      simp only [Act.put, List.setIfInBounds_toArray, List.set_cons_zero, List.set_cons_succ, List.getElem_toArray, List.getElem_cons_zero, List.getElem_cons_succ]
      refine wpAnyH_done (by kernel_rfl) ?_ _
      have hBe := hHeld.2.2.2.2
      clear hHeld
      go_wp2_with fail
      go_ret
      exact ⟨rfl, hBe⟩
end Go.Proofs.YtblhfmlgpldaeaaDoor
