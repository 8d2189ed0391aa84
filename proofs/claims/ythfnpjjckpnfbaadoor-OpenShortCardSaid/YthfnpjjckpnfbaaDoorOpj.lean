/-
  The walk of the law OpenShort of layer 13: for every key and every nonce, all data and all bytes it returns true, and writes nothing that was there.
-/
import Derived.Test.YthfnpjjckpnfbaaDoorOpi
import Derived.Deep.RegionHeld3
namespace Go.Proofs.YthfnpjjckpnfbaaDoor
open Go.RowKit
set_option linter.unusedVariables false
set_option maxRecDepth 100000
set_option linter.unusedSimpArgs false

set_option maxHeartbeats 8000000 in
theorem oshort (f : Nat → Nat) (q : Nat → Nat) (D : Option Addr) (m cd : Nat) (d : List UInt8) (A : Option Addr) (n c : Nat) (l : List UInt8) (w : World) (hf : ∀ j, j < 16 → f j < 256) (hq : ∀ j, j < 12 → q j < 256) (hD : Sl w w.heap.size D m d) (hmc : m ≤ cd) (hcd : cd ≤ maxLen) (hS : Sl w w.heap.size A n l) (hnc : n ≤ c) (hcm : c ≤ maxLen) (hs : Boxes w) :
    Calls Tryd.prog 3 #[.agg (arL 16 f).toArray, .agg (arL 12 q).toArray, .slice D m cd, .slice A n c] w fun e w' => e = .returned (.bool true) ∧ Below w.heap.size w w' := by
  have HX := Lib.hid hs
  have hz := zero16b
  have hz12 := zero12
  have z0 := run_zero16
  have hlen := hS.len
  have HLEN := Lib.hid hlen
  have hdlen := hD.len
  have HDLEN := Lib.hid hdlen
  have HSS := Lib.hid hS
  have HDD := Lib.hid hD
  have HNC := Lib.hid hnc
  have HMC := Lib.hid hmc
  have hn63 : n ≤ 9223372036854775807 := by have h := hcm; simp [maxLen] at h; omega
  have hm63 : m ≤ 9223372036854775807 := by have h := hcd; simp [maxLen] at h; omega
  clear hlen hdlen hS hD hnc hmc hcm hcd
  have Hf := Lib.hid hf
  have Hq := Lib.hid hq
  obtain ⟨kf, hkf⟩ : ∃ k : Array Value, (arL 16 f).toArray = k := ⟨_, rfl⟩
  obtain ⟨kq, hkq⟩ : ∃ k : Array Value, (arL 12 q).toArray = k := ⟨_, rfl⟩
  obtain ⟨w1, hw1⟩ : ∃ V : World, V = w.alloc (.cells (arL 16 f).toArray 22) := ⟨_, rfl⟩
  have hs1 : w1.heap.size = w.heap.size + 1 := by rw [hw1]; simp
  have hBw1 : Below w.heap.size w w1 := by rw [hw1]; exact (Below.refl _ _).alloc (Nat.le_refl _) _
  have hfw1 : Ar w1 w.heap.size 16 f := by rw [hw1]; exact Ar.new w 16 f _
  obtain ⟨w2, hw2⟩ : ∃ V : World, V = w1.alloc (.cells (arL 12 q).toArray 23) := ⟨_, rfl⟩
  have hs2 : w2.heap.size = w.heap.size + 2 := by rw [hw2]; simp [hs1]
  have hBw2 : Below w.heap.size w w2 := by rw [hw2]; exact hBw1.alloc (by omega) _
  have hfw2 := hfw1.alloc (by omega) (.cells (arL 12 q).toArray 23)
  rw [← hw2] at hfw2
  have hqw2 : Ar w2 (w.heap.size + 1) 12 q := by rw [hw2, ← hs1]; exact Ar.new w1 12 q _
  rw [hkf] at hw1
  rw [hkq] at hw2
  rw [hkf, hkq]
  clear hkf hkq hs hf hq
  go_enter Tryd.func3, Tryd.ntmps3
  go_upto_region 1 with fail
  rw [← hw1, ← hw2]
  clear hw1 hw2
  try simp only [Nat.add_assoc, Nat.reduceAdd]
  obtain ⟨gf, hgf⟩ : ∃ g : Nat, w.heap.size = g := ⟨_, rfl⟩
  obtain ⟨gq, hgq⟩ : ∃ g : Nat, w.heap.size + 1 = g := ⟨_, rfl⟩
  rw [hgf] at hfw2
  rw [hgq] at hqw2
  try rw [hgq]
  try simp only [hgf]
  have hlf : w.heap.size ≤ gf := by omega
  have hlq : w.heap.size ≤ gq := by omega
  have hltq : gf < gq := by omega
  clear hgq hs1 hs2
  go_wp2_with fail
  refine (oawake13 _ (HX.out.keep hBw2)).mono ?_
  rintro e x1 ⟨rfl, hq⟩
  have hfx1 := (hfw2).to (by omega) hq
  have hqx1 := (hqw2).to (by omega) hq
  have hBx1 := hBw2.trans (hq.mono hBw2.size)
  clear hq hfw2 hqw2 hBw2
  by_cases hgm : 100 < m
  · have hhm : (100 : Int) < (m : Int) := by omega
    go_wp2_with fail
    refine (oawake13 _ (HX.out.keep hBx1)).mono ?_
    rintro e x2 ⟨rfl, hq⟩
    have hfx2 := (hfx1).to (by omega) hq
    have hqx2 := (hqx1).to (by omega) hq
    have hBx2 := hBx1.trans (hq.mono hBx1.size)
    clear hq hfx1 hqx1 hBx1
    go_wp2_with fail
    go_ret
    exact ⟨rfl, hBx2⟩
  · have hhm : ¬ (100 : Int) < (m : Int) := by omega
    by_cases hgn : 15 < n
    · have hhn : (15 : Int) < (n : Int) := by omega
      go_wp2_with fail
      refine (oawake13 _ (HX.out.keep hBx1)).mono ?_
      rintro e x3 ⟨rfl, hq⟩
      have hfx3 := (hfx1).to (by omega) hq
      have hqx3 := (hqx1).to (by omega) hq
      have hBx3 := hBx1.trans (hq.mono hBx1.size)
      clear hq hfx1 hqx1 hBx1
      go_wp2_with fail
      go_ret
      exact ⟨rfl, hBx3⟩
    · have hhn : ¬ (15 : Int) < (n : Int) := by omega
      have hn6 := Lib.hid (show n ≤ 1000000 by omega)
      have hm6 := Lib.hid (show m ≤ 1000000 by omega)
      obtain ⟨s, hs0⟩ : ∃ s : Nat → Nat, enF f zF = s := ⟨_, rfl⟩
      have HS0 := Lib.hid hs0
      have HSL := Lib.hid (show B16 s by rw [← hs0]; exact enR_lt Hf.out zF_lt 10)
      clear hs0
      obtain ⟨a, ha⟩ : ∃ a : Nat → Nat, o0F (enF f (nbF q)) (q 11) = a := ⟨_, rfl⟩
      have HA := Lib.hid ha
      have HAB := Lib.hid (show B16 a by rw [← ha]; exact o0F_lt (enR_lt Hf.out (nbF_lt Hq.out) 10) _)
      clear ha
      have HC1 := Lib.hid (opC_short (f := f) (s := s) (a := a) (d := d) HLEN.out (by omega))
      have HP1 := Lib.hid (opL_no (f := f) (s := s) (a := a) (d := d) (l := l) (by rw [HC1.out]; decide))
      go_upto_region 3 with fail
      clear hhm hhn hgm hgn hn63 hm63
      refine wp_region_held_drew (S := fun W => Ar W gf 16 (f) ∧ Ar W gq 12 (q) ∧ Below w.heap.size w W) (by kernel_rfl) ⟨hfx1.drew, hqx1.drew, hBx1.drew⟩ (fun hHeld => ?_)
      clear hfx1 hqx1 hBx1 
      generalize World.drew x1 = td at *
      refine wpAnyH_take (i := 0) (v := .agg (arL 16 (f)).toArray) rfl (by kernel_rfl) (by kernel_rfl) (by kernel_rfl) (fun _ _ _ h => h) (yieldsIf_load_mid (by rfl) _ _ rfl gf (0) rfl (arL 16 (f)) _ (fun W hSw => hSw.1.range) Tryd.arr16b rfl (size16b _)) (by assumption) ?_
      simp only [Act.put, List.setIfInBounds_toArray, List.set_cons_zero, List.set_cons_succ, List.getElem_toArray, List.getElem_cons_zero]
      refine wpAnyH_take (i := 3) (v := .agg (arL 12 (q)).toArray) rfl (by kernel_rfl) (by kernel_rfl) (by kernel_rfl) (fun _ _ _ h => h) (yieldsIf_load_mid (by rfl) _ _ rfl gq (0) rfl (arL 12 (q)) _ (fun W hSw => hSw.2.1.range) Tryd.arr12 rfl (size12 _)) (by assumption) ?_
      simp only [Act.put, List.setIfInBounds_toArray, List.set_cons_zero, List.set_cons_succ, List.getElem_toArray, List.getElem_cons_zero, List.getElem_cons_succ]
      refine wpAnyH_take (i := 4) (v := ?vt1) rfl (by kernel_rfl) (by kernel_rfl) (by kernel_rfl) (fun _ _ _ h => h) (Or.inl ⟨by rfl, ?hyt1⟩) (by assumption) ?restt1
      case hyt1 =>
        intro W hSw
        go_simp
        try with_reducible rfl
      simp only [Act.put, List.setIfInBounds_toArray, List.set_cons_zero, List.set_cons_succ, List.getElem_toArray, List.getElem_cons_zero, List.getElem_cons_succ]
      refine wpAnyH_take (i := 5) (v := ?vt2) rfl (by kernel_rfl) (by kernel_rfl) (by kernel_rfl) (fun _ _ _ h => h) (Or.inl ⟨by rfl, ?hyt2⟩) (by assumption) ?restt2
      case hyt2 =>
        intro W hSw
        go_simp
        try with_reducible rfl
      simp only [Act.put, List.setIfInBounds_toArray, List.set_cons_zero, List.set_cons_succ, List.getElem_toArray, List.getElem_cons_zero, List.getElem_cons_succ]
      refine wpAnyH_ready (rs := [1]) (by kernel_rfl) (by simp) ?_
      refine AllReadyH.cons rfl (fun K hK => ?_) AllReadyH.nil
      go_simp
      refine (fnew f _ Hf.out (HX.out.keep (hHeld.2.2))).mono ?_
      rintro e t3 ⟨gC, rfl, hgC, hCt3, hq⟩
      go_wp2_with fail
      refine hK.out _ _ ⟨(hHeld.1).to (by omega) hq, (hHeld.2.1).to (by omega) hq, (hHeld.2.2).trans (hq.mono (hHeld.2.2).size)⟩ (fun hHeld2 => ?_)
      clear hK K hHeld hq
      have hHeld := hHeld2
      clear hHeld2
      try simp only [Act.put, List.setIfInBounds_toArray, List.set_cons_zero, List.set_cons_succ, List.getElem_toArray, List.getElem_cons_zero, List.getElem_cons_succ]
      refine wpAnyH_ready (rs := [2]) (by kernel_rfl) (by simp) ?_
      refine AllReadyH.cons rfl (fun K hK => ?_) AllReadyH.nil
      go_simp
      refine (tnew (some ⟨gC, 0, none⟩) f _ Hf.out (exp_made gC f _ hCt3) (HX.out.keep (hHeld.2.2))).mono ?_
      rintro e t4 ⟨gT, rfl, hgT, hTt4, hq⟩
      rw [HS0.out] at hTt4
      go_wp2_with fail
      have hCt4 := (hCt3).to hq
      refine hK.out _ _ ⟨(hHeld.1).to (by omega) hq, (hHeld.2.1).to (by omega) hq, (hHeld.2.2).trans (hq.mono (hHeld.2.2).size)⟩ (fun hHeld2 => ?_)
      clear hK K hHeld hq hCt3
      have hHeld := hHeld2
      clear hHeld2
      try simp only [Act.put, List.setIfInBounds_toArray, List.set_cons_zero, List.set_cons_succ, List.getElem_toArray, List.getElem_cons_zero, List.getElem_cons_succ]
      refine wpAnyH_ready (rs := [6]) (by kernel_rfl) (by simp) ?_
      refine AllReadyH.cons rfl (fun K hK => ?_) AllReadyH.nil
      go_simp
      refine (oopen (some ⟨gT, 0, none⟩) f s q a D m cd d A n c l [] 1 _ Hf.out HS0.out Hq.out HA.out ((HDD.out.below (hHeld.2.2)).more (hHeld.2.2).size) HMC.out hm6.out ((HSS.out.below (hHeld.2.2)).more (hHeld.2.2).size) HNC.out hn6.out HC1.out HP1.out (wtabo gT gC f s _ HS0.out hTt4 hCt4) (HX.out.keep (hHeld.2.2))).mono ?_
      rintro e t5 ⟨A3, c3, rfl, _, _, hq⟩
      rw [errV1]
      go_wp2_with fail
      have hCt5 := (hCt4).to hq
      have hTt5 := (hTt4).to hq
      refine hK.out _ _ ⟨(hHeld.1).to (by omega) hq, (hHeld.2.1).to (by omega) hq, (hHeld.2.2).trans (hq.mono (hHeld.2.2).size)⟩ (fun hHeld2 => ?_)
      clear hK K hHeld hq hCt4 hTt4
      have hHeld := hHeld2
      clear hHeld2
      try simp only [Act.put, List.setIfInBounds_toArray, List.set_cons_zero, List.set_cons_succ, List.getElem_toArray, List.getElem_cons_zero, List.getElem_cons_succ]
      refine wpAnyH_take (i := 7) (v := ?vt6) rfl (by kernel_rfl) (by kernel_rfl) (by kernel_rfl) (fun _ _ _ h => h) (Or.inl ⟨by rfl, ?hyt6⟩) (by assumption) ?restt6
      case hyt6 =>
        intro W hSw
        go_simp
        try with_reducible rfl
      simp only [Act.put, List.setIfInBounds_toArray, List.set_cons_zero, List.set_cons_succ, List.getElem_toArray, List.getElem_cons_zero, List.getElem_cons_succ]
      refine wpAnyH_take (i := 8) (v := ?vt7) rfl (by kernel_rfl) (by kernel_rfl) (by kernel_rfl) (fun _ _ _ h => h) (Or.inl ⟨by rfl, ?hyt7⟩) (by assumption) ?restt7
      case hyt7 =>
        intro W hSw
        go_simp
        try with_reducible rfl
      simp only [Act.put, List.setIfInBounds_toArray, List.set_cons_zero, List.set_cons_succ, List.getElem_toArray, List.getElem_cons_zero, List.getElem_cons_succ]
      refine wpAnyH_take (i := 9) (v := ?vt8) rfl (by kernel_rfl) (by kernel_rfl) (by kernel_rfl) (fun _ _ _ h => h) (Or.inl ⟨by rfl, ?hyt8⟩) (by assumption) ?restt8
      case hyt8 =>
        intro W hSw
        go_simp
        try with_reducible rfl
      simp only [Act.put, List.setIfInBounds_toArray, List.set_cons_zero, List.set_cons_succ, List.getElem_toArray, List.getElem_cons_zero, List.getElem_cons_succ]
      refine wpAnyH_take (i := 10) (v := ?vt9) rfl (by kernel_rfl) (by kernel_rfl) (by kernel_rfl) (fun _ _ _ h => h) (Or.inl ⟨by rfl, ?hyt9⟩) (by assumption) ?restt9
      case hyt9 =>
        intro W hSw
        go_simp
        try with_reducible rfl
      simp only [Act.put, List.setIfInBounds_toArray, List.set_cons_zero, List.set_cons_succ, List.getElem_toArray, List.getElem_cons_zero, List.getElem_cons_succ]
      refine wpAnyH_take (i := 11) (v := ?vt10) rfl (by kernel_rfl) (by kernel_rfl) (by kernel_rfl) (fun _ _ _ h => h) (Or.inl ⟨by rfl, ?hyt10⟩) (by assumption) ?restt10
      case hyt10 =>
        intro W hSw
        go_simp
        try with_reducible rfl
      simp only [Act.put, List.setIfInBounds_toArray, List.set_cons_zero, List.set_cons_succ, List.getElem_toArray, List.getElem_cons_zero, List.getElem_cons_succ]
      refine wpAnyH_done (by kernel_rfl) ?_ _
      have hBe := hHeld.2.2
      clear hHeld
      have hq1 := eqCode1
      have hq3 := eqCode3
      go_wp2_with fail
      go_ret
      exact ⟨rfl, hBe⟩
end Go.Proofs.YthfnpjjckpnfbaaDoor
