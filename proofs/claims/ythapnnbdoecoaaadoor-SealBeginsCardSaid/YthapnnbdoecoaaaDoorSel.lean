/-
  The walk of the law SealBegins of layer 12: for every key and every nonce, all data and all bytes it returns true, and writes nothing that was there.
-/
import Derived.Test.YthapnnbdoecoaaaDoorSeg
import Derived.Deep.RegionHeld3
namespace Go.Proofs.YthapnnbdoecoaaaDoor
open Go.RowKit
set_option linter.unusedVariables false
set_option maxRecDepth 100000
set_option linter.unusedSimpArgs false

set_option maxHeartbeats 8000000 in
theorem sbegins (f : Nat → Nat) (q : Nat → Nat) (D : Option Addr) (m cd : Nat) (d : List UInt8) (A : Option Addr) (n c : Nat) (l : List UInt8) (w : World) (hf : ∀ j, j < 16 → f j < 256) (hq : ∀ j, j < 12 → q j < 256) (hD : Sl w w.heap.size D m d) (hmc : m ≤ cd) (hcd : cd ≤ maxLen) (hS : Sl w w.heap.size A n l) (hnc : n ≤ c) (hcm : c ≤ maxLen) (hs : Boxes w) :
    Calls Tryd.prog 5 #[.agg (arL 16 f).toArray, .agg (arL 12 q).toArray, .slice D m cd, .slice A n c] w fun e w' => e = .returned (.bool true) ∧ Below w.heap.size w w' := by
  have HX := Lib.hid hs
  have hz := zero16b
  have hz12 := zero12
  have hzK := zeroK
  have z0 := run_zero16
  have hlen := hS.len
  have HLEN := Lib.hid hlen
  have hdlen := hD.len
  have HDLEN := Lib.hid hdlen
  have HSS := Lib.hid hS
  have HDD := Lib.hid hD
  have HNC := Lib.hid hnc
  have HMC := Lib.hid hmc
  have hn63 : n ≤ 9223372036854775807 := by have h := hcm; simp [maxLen] at h; omega
  have hm63 : m ≤ 9223372036854775807 := by have h := hcd; simp [maxLen] at h; omega
  clear hlen hdlen hS hD hnc hmc hcm hcd
  obtain ⟨dK, hfs, hrow⟩ := Tryd.structK
  have HS := Lib.hid hfs
  have HW := Lib.hid hrow
  clear hfs hrow
  have Hf := Lib.hid hf
  have Hq := Lib.hid hq
  obtain ⟨kf, hkf⟩ : ∃ k : Array Value, (arL 16 f).toArray = k := ⟨_, rfl⟩
  obtain ⟨kq, hkq⟩ : ∃ k : Array Value, (arL 12 q).toArray = k := ⟨_, rfl⟩
  obtain ⟨w1, hw1⟩ : ∃ V : World, V = w.alloc (.cells (arL 16 f).toArray 22) := ⟨_, rfl⟩
  have hs1 : w1.heap.size = w.heap.size + 1 := by rw [hw1]; simp
  have hBw1 : Below w.heap.size w w1 := by rw [hw1]; exact (Below.refl _ _).alloc (Nat.le_refl _) _
  have hfw1 : Ar w1 w.heap.size 16 f := by rw [hw1]; exact Ar.new w 16 f _
  obtain ⟨w2, hw2⟩ : ∃ V : World, V = w1.alloc (.cells (arL 12 q).toArray 23) := ⟨_, rfl⟩
  have hs2 : w2.heap.size = w.heap.size + 2 := by rw [hw2]; simp [hs1]
  have hBw2 : Below w.heap.size w w2 := by rw [hw2]; exact hBw1.alloc (by omega) _
  have hfw2 := hfw1.alloc (by omega) (.cells (arL 12 q).toArray 23)
  rw [← hw2] at hfw2
  have hqw2 : Ar w2 (w.heap.size + 1) 12 q := by rw [hw2, ← hs1]; exact Ar.new w1 12 q _
  rw [hkf] at hw1
  rw [hkq] at hw2
  rw [hkf, hkq]
  clear hkf hkq hs hf hq
  go_enter Tryd.func5, Tryd.ntmps5
  go_upto_region 1 with fail
  rw [← hw1, ← hw2]
  clear hw1 hw2
  try simp only [Nat.add_assoc, Nat.reduceAdd]
  obtain ⟨gf, hgf⟩ : ∃ g : Nat, w.heap.size = g := ⟨_, rfl⟩
  obtain ⟨gq, hgq⟩ : ∃ g : Nat, w.heap.size + 1 = g := ⟨_, rfl⟩
  rw [hgf] at hfw2
  rw [hgq] at hqw2
  try rw [hgq]
  try simp only [hgf]
  have hlf : w.heap.size ≤ gf := by omega
  have hlq : w.heap.size ≤ gq := by omega
  have hltq : gf < gq := by omega
  clear hgq hs1 hs2
  go_wp2_with fail
  refine (sawake _ (HX.out.keep hBw2)).mono ?_
  rintro e x1 ⟨rfl, hq⟩
  have hfx1 := (hfw2).to (by omega) hq
  have hqx1 := (hqw2).to (by omega) hq
  have hBx1 := hBw2.trans (hq.mono hBw2.size)
  clear hq hfw2 hqw2 hBw2
  by_cases h100 : 100 < m
  · have h101 : (100 : Int) < (m : Int) := by omega
    go_wp2_with fail
    refine (sawake _ (HX.out.keep hBx1)).mono ?_
    rintro e x2 ⟨rfl, hq⟩
    have hfx2 := (hfx1).to (by omega) hq
    have hqx2 := (hqx1).to (by omega) hq
    have hBx2 := hBx1.trans (hq.mono hBx1.size)
    clear hq hfx1 hqx1 hBx1
    go_wp2_with fail
    go_ret
    exact ⟨rfl, hBx2⟩
  · have h101 : ¬ (100 : Int) < (m : Int) := by omega
    by_cases h150 : 150 < n
    · have h151 : (150 : Int) < (n : Int) := by omega
      go_wp2_with fail
      refine (sawake _ (HX.out.keep hBx1)).mono ?_
      rintro e x3 ⟨rfl, hq⟩
      have hfx3 := (hfx1).to (by omega) hq
      have hqx3 := (hqx1).to (by omega) hq
      have hBx3 := hBx1.trans (hq.mono hBx1.size)
      clear hq hfx1 hqx1 hBx1
      go_wp2_with fail
      go_ret
      exact ⟨rfl, hBx3⟩
    · have h151 : ¬ (150 : Int) < (n : Int) := by omega
      have hn6 := Lib.hid (show n ≤ 1000000 by omega)
      have hm6 := Lib.hid (show m ≤ 1000000 by omega)
      obtain ⟨s, hs0⟩ : ∃ s : Nat → Nat, enF f zF = s := ⟨_, rfl⟩
      have HS0 := Lib.hid hs0
      have HSL := Lib.hid (show B16 s by rw [← hs0]; exact enR_lt Hf.out zF_lt 10)
      clear hs0
      go_wp2_with (refine wpList_load_ar rfl _ _ rfl _ _ _ rfl hfx1 Tryd.arr16b (size16b _) ?_)
      refine (fnew f _ Hf.out (HX.out.keep hBx1)).mono ?_
      rintro e x4 ⟨gC, rfl, hgC, hCx4, hq⟩
      have hfx4 := (hfx1).to (by omega) hq
      have hqx4 := (hqx1).to (by omega) hq
      have hBx4 := hBx1.trans (hq.mono hBx1.size)
      clear hq hfx1 hqx1 hBx1
      go_wp2_with fail
      refine (tnew (some ⟨gC, 0, none⟩) f _ Hf.out (exp_made gC f _ hCx4) (HX.out.keep hBx4)).mono ?_
      rintro e x5 ⟨gT, rfl, hgT, hTx5, hq⟩
      rw [HS0.out] at hTx5
      have hfx5 := (hfx4).to (by omega) hq
      have hqx5 := (hqx4).to (by omega) hq
      have hCx5 := (hCx4).to hq
      have hBx5 := hBx4.trans (hq.mono hBx4.size)
      clear hq hfx4 hqx4 hCx4 hBx4
      clear h101 h151 h100 h150
      obtain ⟨a, ha⟩ : ∃ a : Nat → Nat, o0F (enF f (nbF q)) (q 11) = a := ⟨_, rfl⟩
      have HA := Lib.hid ha
      have HAB := Lib.hid (show B16 a by rw [← ha]; exact o0F_lt (enR_lt Hf.out (nbF_lt Hq.out) 10) _)
      clear ha
      obtain ⟨N, hN⟩ : ∃ N : Nat, n / 16 = N := ⟨_, rfl⟩
      obtain ⟨o, ho⟩ : ∃ o : Nat, 16 * N = o := ⟨_, rfl⟩
      have hon : o ≤ n := by omega
      have HON := Lib.hid hon
      have HFA := Lib.hid (hfacts hn6.out hN ho)
      have HPRE := Lib.hid (fun t => seL_pre (f := f) (s := s) (a := a) (t := t) HLEN.out hN ho)
      have HTL := Lib.hid (show (l.take o).length = o by have := HLEN.out; rw [List.length_take]; omega)
      have HSLT := Lib.hid (slice_to2 A n c o hon HNC.out)
      clear hN ho hon
      go_wp2_with (refine wpList_load_ar rfl _ _ rfl _ _ _ rfl hqx5 Tryd.arr12 (size12 _) ?_)
      refine (sseal (some ⟨gT, 0, none⟩) f s q a D m cd d A n c l _ Hf.out HS0.out Hq.out HA.out ((HDD.out.below hBx5).more hBx5.size) HMC.out hm6.out ((HSS.out.below hBx5).more hBx5.size) HNC.out hn6.out (wtabs gT gC f s _ HS0.out (hTx5) (hCx5)) (HX.out.keep hBx5)).mono ?_
      rintro e x6 ⟨A1, c1, rfl, hu0, hcu, hq⟩
      have HC1 := Lib.hid hcu
      clear hcu
      obtain ⟨gu, hgu⟩ : ∃ g, x6.heap.size - 1 = g := ⟨_, rfl⟩
      have hux6 : Sy x6 gu A1 (n + 16) (seL f s a l (tgF f s (csF l) (ofF s a n) d)) := by rw [← hgu]; exact Sy.new hu0 (Nat.lt_of_lt_of_le (Nat.zero_lt_of_lt (hCx5.lt)) hq.size)
      clear hu0 hgu
      have hfx6 := (hfx5).to (by omega) hq
      have hqx6 := (hqx5).to (by omega) hq
      have hCx6 := (hCx5).to hq
      have hTx6 := (hTx5).to hq
      have hBx6 := hBx5.trans (hq.mono hBx5.size)
      clear hq hfx5 hqx5 hCx5 hTx5 hBx5
      go_wp2_with (refine wpList_load_ar rfl _ _ rfl _ _ _ rfl hqx6 Tryd.arr12 (size12 _) ?_)
      refine (sseal (some ⟨gT, 0, none⟩) f s q a none 0 0 [] A n c l _ Hf.out HS0.out Hq.out HA.out (sl_nil _ _) (Nat.le_refl _) (by omega) ((HSS.out.below hBx6).more hBx6.size) HNC.out hn6.out (wtabs gT gC f s _ HS0.out (hTx6) (hCx6)) (HX.out.keep hBx6)).mono ?_
      rintro e x7 ⟨A2, c2, rfl, hx0, hcu, hq⟩
      have HC2 := Lib.hid hcu
      clear hcu
      obtain ⟨gx, hgx⟩ : ∃ g, x7.heap.size - 1 = g := ⟨_, rfl⟩
      have hxx7 : Sy x7 gx A2 (n + 16) (seL f s a l (tgF f s (csF l) (ofF s a n) [])) := by rw [← hgx]; exact Sy.new hx0 (Nat.lt_of_lt_of_le (Nat.zero_lt_of_lt (hCx6.lt)) hq.size)
      clear hx0 hgx
      have hfx7 := (hfx6).to (by omega) hq
      have hqx7 := (hqx6).to (by omega) hq
      have hCx7 := (hCx6).to hq
      have hTx7 := (hTx6).to hq
      have hux7 := (hux6).to hq
      have hBx7 := hBx6.trans (hq.mono hBx6.size)
      clear hq hfx6 hqx6 hCx6 hTx6 hux6 hBx6
      obtain ⟨j1, j2, j3, j4, j5, j6, j7⟩ := HFA.out
      go_upto_region 7 with fail
      clear j1 j2 j3 j4 j5 j6 j7
      refine wp_region_noPanic ?_
      refine wp_region_held_drew (S := fun W => Ci W gC (f) ∧ Ar W gf 16 (f) ∧ Ar W gq 12 (q) ∧ Ti W gT (some ⟨gC, 0, none⟩) (s) ∧ Sy W gu A1 (n + 16) (seL f s a l (tgF f s (csF l) (ofF s a n) d)) ∧ Sy W gx A2 (n + 16) (seL f s a l (tgF f s (csF l) (ofF s a n) [])) ∧ Below w.heap.size w W) (by kernel_rfl) ⟨hCx7.drew, hfx7.drew, hqx7.drew, hTx7.drew, hux7.drew, hxx7.drew, hBx7.drew⟩ (fun hHeld => ?_)
      clear hCx7 hfx7 hqx7 hTx7 hux7 hxx7 hBx7 
      generalize World.drew x7 = td at *
      refine wpAnyH_take (i := 0) (v := ?vt1) rfl (by kernel_rfl) (by kernel_rfl) (by kernel_rfl) (fun _ _ _ h => h) (Or.inl ⟨by rfl, ?hyt1⟩) (by assumption) ?restt1
      case hyt1 =>
        intro W hSw
        go_simp
        try with_reducible rfl
      simp only [Act.put, List.setIfInBounds_toArray, List.set_cons_zero, List.set_cons_succ, List.getElem_toArray, List.getElem_cons_zero]
      refine wpAnyH_take (i := 1) (v := .agg (arL 12 (q)).toArray) rfl (by kernel_rfl) (by kernel_rfl) (by kernel_rfl) (fun _ _ _ h => h) (yieldsIf_load_mid (by rfl) _ _ rfl gq (0) rfl (arL 12 (q)) _ (fun W hSw => hSw.2.2.1.range) Tryd.arr12 rfl (size12 _)) (by assumption) ?_
      simp only [Act.put, List.setIfInBounds_toArray, List.set_cons_zero, List.set_cons_succ, List.getElem_toArray, List.getElem_cons_zero, List.getElem_cons_succ]
      refine wpAnyH_take (i := 2) (v := ?vt2) rfl (by kernel_rfl) (by kernel_rfl) (by kernel_rfl) (fun _ _ _ h => h) (Or.inl ⟨by rfl, ?hyt2⟩) (by assumption) ?restt2
      case hyt2 =>
        intro W hSw
        go_simp
        try with_reducible rfl
      simp only [Act.put, List.setIfInBounds_toArray, List.set_cons_zero, List.set_cons_succ, List.getElem_toArray, List.getElem_cons_zero, List.getElem_cons_succ]
      refine wpAnyH_take (i := 3) (v := ?vt3) rfl (by kernel_rfl) (by kernel_rfl) (by kernel_rfl) (fun _ _ _ h => h) (Or.inl ⟨by rfl, ?hyt3⟩) (by assumption) ?restt3
      case hyt3 =>
        intro W hSw
        go_simp
        try with_reducible rfl
      simp only [Act.put, List.setIfInBounds_toArray, List.set_cons_zero, List.set_cons_succ, List.getElem_toArray, List.getElem_cons_zero, List.getElem_cons_succ]
      refine wpAnyH_take (i := 4) (v := ?vt4) rfl (by kernel_rfl) (by kernel_rfl) (by kernel_rfl) (fun _ _ _ h => h) (Or.inl ⟨by rfl, ?hyt4⟩) (by assumption) ?restt4
      case hyt4 =>
        intro W hSw
        go_simp
        try with_reducible rfl
      simp only [Act.put, List.setIfInBounds_toArray, List.set_cons_zero, List.set_cons_succ, List.getElem_toArray, List.getElem_cons_zero, List.getElem_cons_succ]
      refine wpAnyH_take (i := 5) (v := ?vt5) rfl (by kernel_rfl) (by kernel_rfl) (by kernel_rfl) (fun _ _ _ h => h) (Or.inl ⟨by rfl, ?hyt5⟩) (by assumption) ?restt5
      case hyt5 =>
        intro W hSw
        have hslt := HSLT.out W
        go_simp
        try with_reducible rfl
      simp only [Act.put, List.setIfInBounds_toArray, List.set_cons_zero, List.set_cons_succ, List.getElem_toArray, List.getElem_cons_zero, List.getElem_cons_succ]
      refine wpAnyH_ready (rs := [6]) (by kernel_rfl) (by simp) ?_
      refine AllReadyH.cons rfl (fun K hK => ?_) AllReadyH.nil
      go_simp
      refine (sseal (some ⟨gT, 0, none⟩) f s q a D m cd d A o c (l.take o) _ Hf.out HS0.out Hq.out HA.out ((HDD.out.below (hHeld.2.2.2.2.2.2)).more (hHeld.2.2.2.2.2.2).size) HMC.out hm6.out (sl_take2 ((HSS.out.below (hHeld.2.2.2.2.2.2)).more (hHeld.2.2.2.2.2.2).size) HON.out) (Nat.le_trans HON.out HNC.out) (Nat.le_trans HON.out hn6.out) (wtabs gT gC f s _ HS0.out (hHeld.2.2.2.1) (hHeld.1)) (HX.out.keep (hHeld.2.2.2.2.2.2))).mono ?_
      rintro e t6 ⟨A3, c3, rfl, hv0, hcu, hq⟩
      have HC3 := Lib.hid hcu
      clear hcu
      obtain ⟨gv, hgv⟩ : ∃ g, t6.heap.size - 1 = g := ⟨_, rfl⟩
      have hvt6 : Sy t6 gv A3 (o + 16) (seL f s a (l.take o) (tgF f s (csF (l.take o)) (ofF s a o) d)) := by rw [← hgv]; exact Sy.new hv0 (Nat.lt_of_lt_of_le (Nat.zero_lt_of_lt hHeld.1.lt) hq.size)
      clear hv0 hgv
      go_wp2_with fail
      refine hK.out _ _ ⟨(hHeld.1).to hq, (hHeld.2.1).to (by omega) hq, (hHeld.2.2.1).to (by omega) hq, (hHeld.2.2.2.1).to hq, (hHeld.2.2.2.2.1).to hq, (hHeld.2.2.2.2.2.1).to hq, (hHeld.2.2.2.2.2.2).trans (hq.mono (hHeld.2.2.2.2.2.2).size)⟩ (fun hHeld2 => ?_)
      clear hK K hHeld hq
      have hHeld := hHeld2
      clear hHeld2
      try simp only [Act.put, List.setIfInBounds_toArray, List.set_cons_zero, List.set_cons_succ, List.getElem_toArray, List.getElem_cons_zero, List.getElem_cons_succ]
      refine wpAnyH_take (i := 7) (v := ?vt7) rfl (by kernel_rfl) (by kernel_rfl) (by kernel_rfl) (fun _ _ _ h => h) (Or.inl ⟨by rfl, ?hyt7⟩) (by assumption) ?restt7
      case hyt7 =>
        intro W hSw
        go_simp
        try with_reducible rfl
      simp only [Act.put, List.setIfInBounds_toArray, List.set_cons_zero, List.set_cons_succ, List.getElem_toArray, List.getElem_cons_zero, List.getElem_cons_succ]
      refine wpAnyH_done (by kernel_rfl) ?_ _
      have hCt6 := hHeld.1
      have hft6 := hHeld.2.1
      have hqt6 := hHeld.2.2.1
      have hTt6 := hHeld.2.2.2.1
      have hut6 := hHeld.2.2.2.2.1
      have hxt6 := hHeld.2.2.2.2.2.1
      have hBt6 := hHeld.2.2.2.2.2.2
      clear hHeld
      refine NoPanic.normal ?_
      try dsimp only [Act.put]
      obtain ⟨R1, hR1⟩ : ∃ r, seL f s a l (tgF f s (csF l) (ofF s a n) d) = r := ⟨_, rfl⟩
      obtain ⟨R2, hR2⟩ : ∃ r, seL f s a l (tgF f s (csF l) (ofF s a n) []) = r := ⟨_, rfl⟩
      obtain ⟨R3, hR3⟩ : ∃ r, seL f s a (l.take o) (tgF f s (csF (l.take o)) (ofF s a o) d) = r := ⟨_, rfl⟩
      have HA1 := Lib.hid (show R1.take n = ctL f s a l by rw [← hR1]; exact seL_take f s a l _ HLEN.out)
      have HA2 := Lib.hid (show R2.take n = ctL f s a l by rw [← hR2]; exact seL_take f s a l _ HLEN.out)
      have HA3 := Lib.hid (show R1.take o = ctL f s a (l.take o) by rw [← hR1]; exact HPRE.out _)
      have HA4 := Lib.hid (show R3.take o = ctL f s a (l.take o) by rw [← hR3]; exact seL_take f s a (l.take o) _ HTL.out)
      have HR1 := Lib.hid hR1
      rw [hR1] at hut6
      rw [hR2] at hxt6
      rw [hR3] at hvt6
      clear hR1 hR2 hR3
      have HT1 := Lib.hid (slice_to2 A1 (n + 16) c1 n (by omega) HC1.out)
      have HT2 := Lib.hid (slice_to2 A2 (n + 16) c2 n (by omega) HC2.out)
      have HT3 := Lib.hid (slice_to2 A1 (n + 16) c1 o (by have := HON.out; omega) HC1.out)
      have HT4 := Lib.hid (slice_to2 A3 (o + 16) c3 o (by omega) HC3.out)
      have ho63 : o ≤ 1000000 := Nat.le_trans HON.out hn6.out
      have hn61 := hn6.out
      go_upto_region 10 with fail
      clear ho63 hn61 hn63 hm63
      refine wp_region_noPanic ?_
      refine wp_region_held_drew (S := fun W => Ci W gC (f) ∧ Ar W gf 16 (f) ∧ Ar W gq 12 (q) ∧ Ti W gT (some ⟨gC, 0, none⟩) (s) ∧ Sy W gu A1 (n + 16) (R1) ∧ Sy W gx A2 (n + 16) (R2) ∧ Sy W gv A3 (o + 16) (R3) ∧ Below w.heap.size w W) (by kernel_rfl) ⟨hCt6.drew, hft6.drew, hqt6.drew, hTt6.drew, hut6.drew, hxt6.drew, hvt6.drew, hBt6.drew⟩ (fun hHeld => ?_)
      clear hCt6 hft6 hqt6 hTt6 hut6 hxt6 hvt6 hBt6 
      generalize World.drew t6 = qd at *
      refine wpAnyH_take (i := 0) (v := ?vq1) rfl (by kernel_rfl) (by kernel_rfl) (by kernel_rfl) (fun _ _ _ h => h) (Or.inl ⟨by rfl, ?hyq1⟩) (by assumption) ?restq1
      case hyq1 =>
        intro W hSw
        go_simp
        try with_reducible rfl
      simp only [Act.put, List.setIfInBounds_toArray, List.set_cons_zero, List.set_cons_succ, List.getElem_toArray, List.getElem_cons_zero]
      refine wpAnyH_take (i := 1) (v := ?vq2) rfl (by kernel_rfl) (by kernel_rfl) (by kernel_rfl) (fun _ _ _ h => h) (Or.inl ⟨by rfl, ?hyq2⟩) (by assumption) ?restq2
      case hyq2 =>
        intro W hSw
        go_simp
        try with_reducible rfl
      simp only [Act.put, List.setIfInBounds_toArray, List.set_cons_zero, List.set_cons_succ, List.getElem_toArray, List.getElem_cons_zero, List.getElem_cons_succ]
      refine wpAnyH_take (i := 2) (v := ?vq3) rfl (by kernel_rfl) (by kernel_rfl) (by kernel_rfl) (fun _ _ _ h => h) (Or.inl ⟨by rfl, ?hyq3⟩) (by assumption) ?restq3
      case hyq3 =>
        intro W hSw
        go_simp
        try with_reducible rfl
      simp only [Act.put, List.setIfInBounds_toArray, List.set_cons_zero, List.set_cons_succ, List.getElem_toArray, List.getElem_cons_zero, List.getElem_cons_succ]
      refine wpAnyH_take (i := 3) (v := ?vq4) rfl (by kernel_rfl) (by kernel_rfl) (by kernel_rfl) (fun _ _ _ h => h) (Or.inl ⟨by rfl, ?hyq4⟩) (by assumption) ?restq4
      case hyq4 =>
        intro W hSw
        have ht := HT1.out W
        go_simp
        try with_reducible rfl
      simp only [Act.put, List.setIfInBounds_toArray, List.set_cons_zero, List.set_cons_succ, List.getElem_toArray, List.getElem_cons_zero, List.getElem_cons_succ]
      refine wpAnyH_take (i := 4) (v := ?vq5) rfl (by kernel_rfl) (by kernel_rfl) (by kernel_rfl) (fun _ _ _ h => h) (Or.inl ⟨by rfl, ?hyq5⟩) (by assumption) ?restq5
      case hyq5 =>
        intro W hSw
        go_simp
        try with_reducible rfl
      simp only [Act.put, List.setIfInBounds_toArray, List.set_cons_zero, List.set_cons_succ, List.getElem_toArray, List.getElem_cons_zero, List.getElem_cons_succ]
      refine wpAnyH_take (i := 5) (v := ?vq6) rfl (by kernel_rfl) (by kernel_rfl) (by kernel_rfl) (fun _ _ _ h => h) (Or.inl ⟨by rfl, ?hyq6⟩) (by assumption) ?restq6
      case hyq6 =>
        intro W hSw
        go_simp
        try with_reducible rfl
      simp only [Act.put, List.setIfInBounds_toArray, List.set_cons_zero, List.set_cons_succ, List.getElem_toArray, List.getElem_cons_zero, List.getElem_cons_succ]
      refine wpAnyH_take (i := 6) (v := ?vq7) rfl (by kernel_rfl) (by kernel_rfl) (by kernel_rfl) (fun _ _ _ h => h) (Or.inl ⟨by rfl, ?hyq7⟩) (by assumption) ?restq7
      case hyq7 =>
        intro W hSw
        go_simp
        try with_reducible rfl
      simp only [Act.put, List.setIfInBounds_toArray, List.set_cons_zero, List.set_cons_succ, List.getElem_toArray, List.getElem_cons_zero, List.getElem_cons_succ]
      refine wpAnyH_take (i := 7) (v := ?vq8) rfl (by kernel_rfl) (by kernel_rfl) (by kernel_rfl) (fun _ _ _ h => h) (Or.inl ⟨by rfl, ?hyq8⟩) (by assumption) ?restq8
      case hyq8 =>
        intro W hSw
        have ht := HT2.out W
        go_simp
        try with_reducible rfl
      simp only [Act.put, List.setIfInBounds_toArray, List.set_cons_zero, List.set_cons_succ, List.getElem_toArray, List.getElem_cons_zero, List.getElem_cons_succ]
      refine wpAnyH_ready (rs := [8]) (by kernel_rfl) (by simp) ?_
      refine AllReadyH.cons rfl (fun K hK => ?_) AllReadyH.nil
      go_simp
      refine (same_true A1 A2 n c1 c2 (ctL f s a l) _ (by rw [← HA1.out]; exact sl_take2 (hHeld.2.2.2.2.1).sl (by omega)) (by rw [← HA2.out]; exact sl_take2 (hHeld.2.2.2.2.2.1).sl (by omega)) (by have := hn6.out; omega)).mono ?_
      rintro e q9 ⟨rfl, hq⟩
      go_wp2_with fail
      refine hK.out _ _ ⟨(hHeld.1).to hq, (hHeld.2.1).to (by omega) hq, (hHeld.2.2.1).to (by omega) hq, (hHeld.2.2.2.1).to hq, (hHeld.2.2.2.2.1).to hq, (hHeld.2.2.2.2.2.1).to hq, (hHeld.2.2.2.2.2.2.1).to hq, (hHeld.2.2.2.2.2.2.2).trans (hq.mono (hHeld.2.2.2.2.2.2.2).size)⟩ (fun hHeld2 => ?_)
      clear hK K hHeld hq
      have hHeld := hHeld2
      clear hHeld2
      try simp only [Act.put, List.setIfInBounds_toArray, List.set_cons_zero, List.set_cons_succ, List.getElem_toArray, List.getElem_cons_zero, List.getElem_cons_succ]
      refine wpAnyH_take (i := 9) (v := ?vq10) rfl (by kernel_rfl) (by kernel_rfl) (by kernel_rfl) (fun _ _ _ h => h) (Or.inl ⟨by rfl, ?hyq10⟩) (by assumption) ?restq10
      case hyq10 =>
        intro W hSw
        go_simp
        try with_reducible rfl
      simp only [Act.put, List.setIfInBounds_toArray, List.set_cons_zero, List.set_cons_succ, List.getElem_toArray, List.getElem_cons_zero, List.getElem_cons_succ]
      refine wpAnyH_take (i := 10) (v := ?vq11) rfl (by kernel_rfl) (by kernel_rfl) (by kernel_rfl) (fun _ _ _ h => h) (Or.inl ⟨by rfl, ?hyq11⟩) (by assumption) ?restq11
      case hyq11 =>
        intro W hSw
        go_simp
        try with_reducible rfl
      simp only [Act.put, List.setIfInBounds_toArray, List.set_cons_zero, List.set_cons_succ, List.getElem_toArray, List.getElem_cons_zero, List.getElem_cons_succ]
      refine wpAnyH_take (i := 11) (v := ?vq12) rfl (by kernel_rfl) (by kernel_rfl) (by kernel_rfl) (fun _ _ _ h => h) (Or.inl ⟨by rfl, ?hyq12⟩) (by assumption) ?restq12
      case hyq12 =>
        intro W hSw
        go_simp
        try with_reducible rfl
      simp only [Act.put, List.setIfInBounds_toArray, List.set_cons_zero, List.set_cons_succ, List.getElem_toArray, List.getElem_cons_zero, List.getElem_cons_succ]
      refine wpAnyH_take (i := 12) (v := ?vq13) rfl (by kernel_rfl) (by kernel_rfl) (by kernel_rfl) (fun _ _ _ h => h) (Or.inl ⟨by rfl, ?hyq13⟩) (by assumption) ?restq13
      case hyq13 =>
        intro W hSw
        have ht := HT3.out W
        go_simp
        try with_reducible rfl
      simp only [Act.put, List.setIfInBounds_toArray, List.set_cons_zero, List.set_cons_succ, List.getElem_toArray, List.getElem_cons_zero, List.getElem_cons_succ]
      refine wpAnyH_take (i := 13) (v := ?vq14) rfl (by kernel_rfl) (by kernel_rfl) (by kernel_rfl) (fun _ _ _ h => h) (Or.inl ⟨by rfl, ?hyq14⟩) (by assumption) ?restq14
      case hyq14 =>
        intro W hSw
        go_simp
        try with_reducible rfl
      simp only [Act.put, List.setIfInBounds_toArray, List.set_cons_zero, List.set_cons_succ, List.getElem_toArray, List.getElem_cons_zero, List.getElem_cons_succ]
      refine wpAnyH_take (i := 14) (v := ?vq15) rfl (by kernel_rfl) (by kernel_rfl) (by kernel_rfl) (fun _ _ _ h => h) (Or.inl ⟨by rfl, ?hyq15⟩) (by assumption) ?restq15
      case hyq15 =>
        intro W hSw
        go_simp
        try with_reducible rfl
      simp only [Act.put, List.setIfInBounds_toArray, List.set_cons_zero, List.set_cons_succ, List.getElem_toArray, List.getElem_cons_zero, List.getElem_cons_succ]
      refine wpAnyH_take (i := 15) (v := ?vq16) rfl (by kernel_rfl) (by kernel_rfl) (by kernel_rfl) (fun _ _ _ h => h) (Or.inl ⟨by rfl, ?hyq16⟩) (by assumption) ?restq16
      case hyq16 =>
        intro W hSw
        have ht := HT4.out W
        go_simp
        try with_reducible rfl
      simp only [Act.put, List.setIfInBounds_toArray, List.set_cons_zero, List.set_cons_succ, List.getElem_toArray, List.getElem_cons_zero, List.getElem_cons_succ]
      refine wpAnyH_ready (rs := [16]) (by kernel_rfl) (by simp) ?_
      refine AllReadyH.cons rfl (fun K hK => ?_) AllReadyH.nil
      go_simp
      refine (same_true A1 A3 o c1 c3 (ctL f s a (l.take o)) _ (by rw [← HA3.out]; exact sl_take2 (hHeld.2.2.2.2.1).sl (by have := HON.out; omega)) (by rw [← HA4.out]; exact sl_take2 (hHeld.2.2.2.2.2.2.1).sl (by omega)) (by have := hn6.out; have := HON.out; omega)).mono ?_
      rintro e q17 ⟨rfl, hq⟩
      go_wp2_with fail
      refine hK.out _ _ ⟨(hHeld.1).to hq, (hHeld.2.1).to (by omega) hq, (hHeld.2.2.1).to (by omega) hq, (hHeld.2.2.2.1).to hq, (hHeld.2.2.2.2.1).to hq, (hHeld.2.2.2.2.2.1).to hq, (hHeld.2.2.2.2.2.2.1).to hq, (hHeld.2.2.2.2.2.2.2).trans (hq.mono (hHeld.2.2.2.2.2.2.2).size)⟩ (fun hHeld2 => ?_)
      clear hK K hHeld hq
      have hHeld := hHeld2
      clear hHeld2
      try simp only [Act.put, List.setIfInBounds_toArray, List.set_cons_zero, List.set_cons_succ, List.getElem_toArray, List.getElem_cons_zero, List.getElem_cons_succ]
      refine wpAnyH_take (i := 17) (v := ?vq18) rfl (by kernel_rfl) (by kernel_rfl) (by kernel_rfl) (fun _ _ _ h => h) (Or.inl ⟨by rfl, ?hyq18⟩) (by assumption) ?restq18
      case hyq18 =>
        intro W hSw
        go_simp
        try with_reducible rfl
      simp only [Act.put, List.setIfInBounds_toArray, List.set_cons_zero, List.set_cons_succ, List.getElem_toArray, List.getElem_cons_zero, List.getElem_cons_succ]
      refine wpAnyH_take (i := 18) (v := ?vq19) rfl (by kernel_rfl) (by kernel_rfl) (by kernel_rfl) (fun _ _ _ h => h) (Or.inl ⟨by rfl, ?hyq19⟩) (by assumption) ?restq19
      case hyq19 =>
        intro W hSw
        go_simp
        try with_reducible rfl
      simp only [Act.put, List.setIfInBounds_toArray, List.set_cons_zero, List.set_cons_succ, List.getElem_toArray, List.getElem_cons_zero, List.getElem_cons_succ]
      refine wpAnyH_take (i := 19) (v := ?vq20) rfl (by kernel_rfl) (by kernel_rfl) (by kernel_rfl) (fun _ _ _ h => h) (Or.inl ⟨by rfl, ?hyq20⟩) (by assumption) ?restq20
      case hyq20 =>
        intro W hSw
        go_simp
        try with_reducible rfl
      simp only [Act.put, List.setIfInBounds_toArray, List.set_cons_zero, List.set_cons_succ, List.getElem_toArray, List.getElem_cons_zero, List.getElem_cons_succ]
      refine wpAnyH_take (i := 20) (v := .agg (arL 16 (f)).toArray) rfl (by kernel_rfl) (by kernel_rfl) (by kernel_rfl) (fun _ _ _ h => h) (yieldsIf_load_mid (by rfl) _ _ rfl gf (0) rfl (arL 16 (f)) _ (fun W hSw => hSw.2.1.range) Tryd.arr16b rfl (size16b _)) (by assumption) ?_
      simp only [Act.put, List.setIfInBounds_toArray, List.set_cons_zero, List.set_cons_succ, List.getElem_toArray, List.getElem_cons_zero, List.getElem_cons_succ]
      refine wpAnyH_take (i := 22) (v := .agg (arL 12 (q)).toArray) rfl (by kernel_rfl) (by kernel_rfl) (by kernel_rfl) (fun _ _ _ h => h) (yieldsIf_load_mid (by rfl) _ _ rfl gq (0) rfl (arL 12 (q)) _ (fun W hSw => hSw.2.2.1.range) Tryd.arr12 rfl (size12 _)) (by assumption) ?_
      simp only [Act.put, List.setIfInBounds_toArray, List.set_cons_zero, List.set_cons_succ, List.getElem_toArray, List.getElem_cons_zero, List.getElem_cons_succ]
      refine wpAnyH_take (i := 23) (v := ?vq21) rfl (by kernel_rfl) (by kernel_rfl) (by kernel_rfl) (fun _ _ _ h => h) (Or.inl ⟨by rfl, ?hyq21⟩) (by assumption) ?restq21
      case hyq21 =>
        intro W hSw
        go_simp
        try with_reducible rfl
      simp only [Act.put, List.setIfInBounds_toArray, List.set_cons_zero, List.set_cons_succ, List.getElem_toArray, List.getElem_cons_zero, List.getElem_cons_succ]
      refine wpAnyH_take (i := 24) (v := ?vq22) rfl (by kernel_rfl) (by kernel_rfl) (by kernel_rfl) (fun _ _ _ h => h) (Or.inl ⟨by rfl, ?hyq22⟩) (by assumption) ?restq22
      case hyq22 =>
        intro W hSw
        go_simp
        try with_reducible rfl
      simp only [Act.put, List.setIfInBounds_toArray, List.set_cons_zero, List.set_cons_succ, List.getElem_toArray, List.getElem_cons_zero, List.getElem_cons_succ]
      refine wpAnyH_ready (rs := [21]) (by kernel_rfl) (by simp) ?_
      refine AllReadyH.cons rfl (fun K hK => ?_) AllReadyH.nil
      go_simp
      refine (refprepare f _ Hf.out).mono ?_
      rintro e q23 ⟨rfl, hq⟩
      go_wp2_with fail
      refine hK.out _ _ ⟨(hHeld.1).to hq, (hHeld.2.1).to (by omega) hq, (hHeld.2.2.1).to (by omega) hq, (hHeld.2.2.2.1).to hq, (hHeld.2.2.2.2.1).to hq, (hHeld.2.2.2.2.2.1).to hq, (hHeld.2.2.2.2.2.2.1).to hq, (hHeld.2.2.2.2.2.2.2).trans (hq.mono (hHeld.2.2.2.2.2.2.2).size)⟩ (fun hHeld2 => ?_)
      clear hK K hHeld hq
      have hHeld := hHeld2
      clear hHeld2
      try simp only [Act.put, List.setIfInBounds_toArray, List.set_cons_zero, List.set_cons_succ, List.getElem_toArray, List.getElem_cons_zero, List.getElem_cons_succ]
      refine wpAnyH_ready (rs := [25]) (by kernel_rfl) (by simp) ?_
      refine AllReadyH.cons rfl (fun K hK => ?_) AllReadyH.nil
      go_simp
      refine (rseal f q s a D m cd d A n c l _ Hf.out Hq.out HS0.out HA.out ((HDD.out.below (hHeld.2.2.2.2.2.2.2)).more (hHeld.2.2.2.2.2.2.2).size) HMC.out hm6.out ((HSS.out.below (hHeld.2.2.2.2.2.2.2)).more (hHeld.2.2.2.2.2.2.2).size) HNC.out hn6.out).mono ?_
      rintro e q24 ⟨A8, c8, rfl, hO8, hq⟩
      have hz0 := Sl.of_own hO8
      rw [HR1.out] at hz0
      obtain ⟨gz, hgz⟩ : ∃ g, q24.heap.size - 1 = g := ⟨_, rfl⟩
      have hzq24 : Sy q24 gz A8 (n + 16) R1 := by rw [← hgz]; exact Sy.new hz0 (Nat.lt_of_lt_of_le (Nat.zero_lt_of_lt hHeld.1.lt) hq.size)
      clear hz0 hO8 hgz
      go_wp2_with fail
      refine hK.out _ _ ⟨(hHeld.1).to hq, (hHeld.2.1).to (by omega) hq, (hHeld.2.2.1).to (by omega) hq, (hHeld.2.2.2.1).to hq, (hHeld.2.2.2.2.1).to hq, (hHeld.2.2.2.2.2.1).to hq, (hHeld.2.2.2.2.2.2.1).to hq, (hHeld.2.2.2.2.2.2.2).trans (hq.mono (hHeld.2.2.2.2.2.2.2).size)⟩ (fun hHeld2 => ?_)
      clear hK K hHeld hq
      have hHeld := hHeld2
      clear hHeld2
      try simp only [Act.put, List.setIfInBounds_toArray, List.set_cons_zero, List.set_cons_succ, List.getElem_toArray, List.getElem_cons_zero, List.getElem_cons_succ]
      refine wpAnyH_ready (rs := [26]) (by kernel_rfl) (by simp) ?_
      refine AllReadyH.cons rfl (fun K hK => ?_) AllReadyH.nil
      go_simp
      refine (same_true A1 A8 (n + 16) c1 c8 R1 _ (hHeld.2.2.2.2.1).sl hzq24.sl (by have := hn6.out; omega)).mono ?_
      rintro e q25 ⟨rfl, hq⟩
      go_wp2_with fail
      have hzq25 := (hzq24).to hq
      refine hK.out _ _ ⟨(hHeld.1).to hq, (hHeld.2.1).to (by omega) hq, (hHeld.2.2.1).to (by omega) hq, (hHeld.2.2.2.1).to hq, (hHeld.2.2.2.2.1).to hq, (hHeld.2.2.2.2.2.1).to hq, (hHeld.2.2.2.2.2.2.1).to hq, (hHeld.2.2.2.2.2.2.2).trans (hq.mono (hHeld.2.2.2.2.2.2.2).size)⟩ (fun hHeld2 => ?_)
      clear hK K hHeld hq hzq24
      have hHeld := hHeld2
      clear hHeld2
      try simp only [Act.put, List.setIfInBounds_toArray, List.set_cons_zero, List.set_cons_succ, List.getElem_toArray, List.getElem_cons_zero, List.getElem_cons_succ]
      refine wpAnyH_take (i := 27) (v := ?vq26) rfl (by kernel_rfl) (by kernel_rfl) (by kernel_rfl) (fun _ _ _ h => h) (Or.inl ⟨by rfl, ?hyq26⟩) (by assumption) ?restq26
      case hyq26 =>
        intro W hSw
        go_simp
        try with_reducible rfl
      simp only [Act.put, List.setIfInBounds_toArray, List.set_cons_zero, List.set_cons_succ, List.getElem_toArray, List.getElem_cons_zero, List.getElem_cons_succ]
      refine wpAnyH_take (i := 28) (v := ?vq27) rfl (by kernel_rfl) (by kernel_rfl) (by kernel_rfl) (fun _ _ _ h => h) (Or.inl ⟨by rfl, ?hyq27⟩) (by assumption) ?restq27
      case hyq27 =>
        intro W hSw
        go_simp
        try with_reducible rfl
      simp only [Act.put, List.setIfInBounds_toArray, List.set_cons_zero, List.set_cons_succ, List.getElem_toArray, List.getElem_cons_zero, List.getElem_cons_succ]
      refine wpAnyH_done (by kernel_rfl) ?_ _
      have hBe := hHeld.2.2.2.2.2.2.2
      clear hHeld
      refine NoPanic.normal ?_
      go_wp2_with fail
      go_ret
      exact ⟨rfl, hBe⟩
end Go.Proofs.YthapnnbdoecoaaaDoor
