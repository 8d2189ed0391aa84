/-
  The walk of the law SealMatchesReference of layer 12: for every key and every nonce, all data and all bytes it returns true, and writes nothing that was there.
-/
import Derived.Test.YthapnnbdoecoaaaDoorSeg
import Derived.Deep.RegionHeld3
namespace Go.Proofs.YthapnnbdoecoaaaDoor
open Go.RowKit
set_option linter.unusedVariables false
set_option maxRecDepth 100000
set_option linter.unusedSimpArgs false
theorem ssizen (n : Nat) (w : World) (h : n ≤ 1000000) : Calls Tryd.prog 15 #[.int .i64 (n : Int)] w fun e w' => e = .returned (.int .i64 ((n : Int) + 16)) ∧ w' = w := by
  have h1 := ssize (n : Int) w (by omega) (by omega)
  rw [if_neg (by omega)] at h1
  exact h1

set_option maxHeartbeats 8000000 in
theorem smatches (f : Nat → Nat) (q : Nat → Nat) (D : Option Addr) (m cd : Nat) (d : List UInt8) (A : Option Addr) (n c : Nat) (l : List UInt8) (w : World) (hf : ∀ j, j < 16 → f j < 256) (hq : ∀ j, j < 12 → q j < 256) (hD : Sl w w.heap.size D m d) (hmc : m ≤ cd) (hcd : cd ≤ maxLen) (hS : Sl w w.heap.size A n l) (hnc : n ≤ c) (hcm : c ≤ maxLen) (hs : Boxes w) :
    Calls Tryd.prog 3 #[.agg (arL 16 f).toArray, .agg (arL 12 q).toArray, .slice D m cd, .slice A n c] w fun e w' => e = .returned (.bool true) ∧ Below w.heap.size w w' := by
  have HX := Lib.hid hs
  have hz := zero16b
  have hz12 := zero12
  have hzK := zeroK
  have z0 := run_zero16
  have hlen := hS.len
  have HLEN := Lib.hid hlen
  have hdlen := hD.len
  have HDLEN := Lib.hid hdlen
  have HSS := Lib.hid hS
  have HDD := Lib.hid hD
  have HNC := Lib.hid hnc
  have HMC := Lib.hid hmc
  have hn63 : n ≤ 9223372036854775807 := by have h := hcm; simp [maxLen] at h; omega
  have hm63 : m ≤ 9223372036854775807 := by have h := hcd; simp [maxLen] at h; omega
  clear hlen hdlen hS hD hnc hmc hcm hcd
  obtain ⟨dK, hfs, hrow⟩ := Tryd.structK
  have HS := Lib.hid hfs
  have HW := Lib.hid hrow
  clear hfs hrow
  obtain ⟨i0, hi0, hz0, hz1, hz2⟩ := info_parts info8x
  have HI0 := Lib.hid hi0
  have HZ0 := Lib.hid hz0
  have HZ1 := Lib.hid hz1
  have HZ2 := Lib.hid hz2
  clear hi0 hz0 hz1 hz2
  have Hf := Lib.hid hf
  have Hq := Lib.hid hq
  obtain ⟨kf, hkf⟩ : ∃ k : Array Value, (arL 16 f).toArray = k := ⟨_, rfl⟩
  obtain ⟨kq, hkq⟩ : ∃ k : Array Value, (arL 12 q).toArray = k := ⟨_, rfl⟩
  obtain ⟨w1, hw1⟩ : ∃ V : World, V = w.alloc (.cells (arL 16 f).toArray 22) := ⟨_, rfl⟩
  have hs1 : w1.heap.size = w.heap.size + 1 := by rw [hw1]; simp
  have hBw1 : Below w.heap.size w w1 := by rw [hw1]; exact (Below.refl _ _).alloc (Nat.le_refl _) _
  have hfw1 : Ar w1 w.heap.size 16 f := by rw [hw1]; exact Ar.new w 16 f _
  obtain ⟨w2, hw2⟩ : ∃ V : World, V = w1.alloc (.cells (arL 12 q).toArray 23) := ⟨_, rfl⟩
  have hs2 : w2.heap.size = w.heap.size + 2 := by rw [hw2]; simp [hs1]
  have hBw2 : Below w.heap.size w w2 := by rw [hw2]; exact hBw1.alloc (by omega) _
  have hfw2 := hfw1.alloc (by omega) (.cells (arL 12 q).toArray 23)
  rw [← hw2] at hfw2
  have hqw2 : Ar w2 (w.heap.size + 1) 12 q := by rw [hw2, ← hs1]; exact Ar.new w1 12 q _
  rw [hkf] at hw1
  rw [hkq] at hw2
  rw [hkf, hkq]
  clear hkf hkq hs hf hq
  go_enter Tryd.func3, Tryd.ntmps3
  go_upto_region 1 with fail
  rw [← hw1, ← hw2]
  clear hw1 hw2
  try simp only [Nat.add_assoc, Nat.reduceAdd]
  obtain ⟨gf, hgf⟩ : ∃ g : Nat, w.heap.size = g := ⟨_, rfl⟩
  obtain ⟨gq, hgq⟩ : ∃ g : Nat, w.heap.size + 1 = g := ⟨_, rfl⟩
  rw [hgf] at hfw2
  rw [hgq] at hqw2
  try rw [hgq]
  try simp only [hgf]
  have hlf : w.heap.size ≤ gf := by omega
  have hlq : w.heap.size ≤ gq := by omega
  have hltq : gf < gq := by omega
  clear hgq hs1 hs2
  go_wp2_with fail
  refine (sawake _ (HX.out.keep hBw2)).mono ?_
  rintro e x1 ⟨rfl, hq⟩
  have hfx1 := (hfw2).to (by omega) hq
  have hqx1 := (hqw2).to (by omega) hq
  have hBx1 := hBw2.trans (hq.mono hBw2.size)
  clear hq hfw2 hqw2 hBw2
  by_cases h100 : 100 < m
  · have h101 : (100 : Int) < (m : Int) := by omega
    go_wp2_with fail
    refine (sawake _ (HX.out.keep hBx1)).mono ?_
    rintro e x2 ⟨rfl, hq⟩
    have hfx2 := (hfx1).to (by omega) hq
    have hqx2 := (hqx1).to (by omega) hq
    have hBx2 := hBx1.trans (hq.mono hBx1.size)
    clear hq hfx1 hqx1 hBx1
    go_wp2_with fail
    go_ret
    exact ⟨rfl, hBx2⟩
  · have h101 : ¬ (100 : Int) < (m : Int) := by omega
    by_cases h150 : 150 < n
    · have h151 : (150 : Int) < (n : Int) := by omega
      go_wp2_with fail
      refine (sawake _ (HX.out.keep hBx1)).mono ?_
      rintro e x3 ⟨rfl, hq⟩
      have hfx3 := (hfx1).to (by omega) hq
      have hqx3 := (hqx1).to (by omega) hq
      have hBx3 := hBx1.trans (hq.mono hBx1.size)
      clear hq hfx1 hqx1 hBx1
      go_wp2_with fail
      go_ret
      exact ⟨rfl, hBx3⟩
    · have h151 : ¬ (150 : Int) < (n : Int) := by omega
      have hn6 := Lib.hid (show n ≤ 1000000 by omega)
      have hm6 := Lib.hid (show m ≤ 1000000 by omega)
      obtain ⟨s, hs0⟩ : ∃ s : Nat → Nat, enF f zF = s := ⟨_, rfl⟩
      have HS0 := Lib.hid hs0
      have HSL := Lib.hid (show B16 s by rw [← hs0]; exact enR_lt Hf.out zF_lt 10)
      clear hs0
      go_wp2_with (refine wpList_load_ar rfl _ _ rfl _ _ _ rfl hfx1 Tryd.arr16b (size16b _) ?_)
      refine (fnew f _ Hf.out (HX.out.keep hBx1)).mono ?_
      rintro e x4 ⟨gC, rfl, hgC, hCx4, hq⟩
      have hfx4 := (hfx1).to (by omega) hq
      have hqx4 := (hqx1).to (by omega) hq
      have hBx4 := hBx1.trans (hq.mono hBx1.size)
      clear hq hfx1 hqx1 hBx1
      go_wp2_with fail
      refine (tnew (some ⟨gC, 0, none⟩) f _ Hf.out (exp_made gC f _ hCx4) (HX.out.keep hBx4)).mono ?_
      rintro e x5 ⟨gT, rfl, hgT, hTx5, hq⟩
      rw [HS0.out] at hTx5
      have hfx5 := (hfx4).to (by omega) hq
      have hqx5 := (hqx4).to (by omega) hq
      have hCx5 := (hCx4).to hq
      have hBx5 := hBx4.trans (hq.mono hBx4.size)
      clear hq hfx4 hqx4 hCx4 hBx4
      clear h101 h151 h100 h150
      obtain ⟨a, ha⟩ : ∃ a : Nat → Nat, o0F (enF f (nbF q)) (q 11) = a := ⟨_, rfl⟩
      have HA := Lib.hid ha
      have HAB := Lib.hid (show B16 a by rw [← ha]; exact o0F_lt (enR_lt Hf.out (nbF_lt Hq.out) 10) _)
      clear ha
      have hOx := World.ownsRow_lit (base := x5.heap.size) (e := 5) (size := 1) x5 #[] 0 (Nat.le_refl _) (by simp [maxLen]) rfl
      have hslx := ((HDD.out.below hBx5).more hBx5.size).alloc (Nat.le_refl _) (.cells #[] 5)
      go_upto_region 5 with (first | (at_builtin; refine wpList_append_sl _ rfl _ _ 24 rfl x5.heap.size 5 i0 (.int .u8 0) Tryd.underlying24 HI0.out HZ0.out HZ1.out HZ2.out rfl _ 0 _ rfl hOx x5.heap.size D m cd d rfl hslx (by omega) (by simp) ?_; intro v6 k6 hown6 hgrow6 _) | fail)
      have hq : Below x5.heap.size x5 k6 := ((Below.refl _ x5).alloc (Nat.le_refl _) _).grown hgrow6 (by simp) (fun g hg => own_block hOx hg)
      obtain ⟨Ax, cx, rfl⟩ := own_shape hown6
      have hown7 : k6.ownsRow x5.heap.size 5 1 (.slice Ax m cx) m ((d).map b8) := by simpa using hown6
      have HCx := Lib.hid (own_capS hown7)
      have hx0 := Sl.of_own hown7
      simp only [Nat.zero_add]
      obtain ⟨gx, hgx⟩ : ∃ g, k6.heap.size - 1 = g := ⟨_, rfl⟩
      have hxk6 : Sy k6 gx Ax (m) (d) := by rw [← hgx]; exact Sy.new hx0 (Nat.lt_of_lt_of_le (Nat.zero_lt_of_lt (hCx5.lt)) hq.size)
      clear hx0 hgx
      have hfk6 := (hfx5).to (by omega) hq
      have hqk6 := (hqx5).to (by omega) hq
      have hCk6 := (hCx5).to hq
      have hTk6 := (hTx5).to hq
      have hBk6 := hBx5.trans (hq.mono hBx5.size)
      clear hq hown6 hown7 hgrow6 hOx hslx hfx5 hqx5 hCx5 hTx5 hBx5
      have hOy := World.ownsRow_lit (base := k6.heap.size) (e := 5) (size := 1) k6 #[] 0 (Nat.le_refl _) (by simp [maxLen]) rfl
      have hsly := ((HSS.out.below hBk6).more hBk6.size).alloc (Nat.le_refl _) (.cells #[] 5)
      go_upto_region 6 with (first | (at_builtin; refine wpList_append_sl _ rfl _ _ 24 rfl k6.heap.size 5 i0 (.int .u8 0) Tryd.underlying24 HI0.out HZ0.out HZ1.out HZ2.out rfl _ 0 _ rfl hOy k6.heap.size A n c l rfl hsly (by omega) (by simp) ?_; intro v6 k7 hown6 hgrow6 _) | fail)
      have hq : Below k6.heap.size k6 k7 := ((Below.refl _ k6).alloc (Nat.le_refl _) _).grown hgrow6 (by simp) (fun g hg => own_block hOy hg)
      obtain ⟨Ay, cy, rfl⟩ := own_shape hown6
      have hown7 : k7.ownsRow k6.heap.size 5 1 (.slice Ay n cy) n ((l).map b8) := by simpa using hown6
      have HCy := Lib.hid (own_capS hown7)
      have hy0 := Sl.of_own hown7
      simp only [Nat.zero_add]
      obtain ⟨gy, hgy⟩ : ∃ g, k7.heap.size - 1 = g := ⟨_, rfl⟩
      have hyk7 : Sy k7 gy Ay (n) (l) := by rw [← hgy]; exact Sy.new hy0 (Nat.lt_of_lt_of_le (Nat.zero_lt_of_lt (hCk6.lt)) hq.size)
      clear hy0 hgy
      have hfk7 := (hfk6).to (by omega) hq
      have hqk7 := (hqk6).to (by omega) hq
      have hCk7 := (hCk6).to hq
      have hTk7 := (hTk6).to hq
      have hxk7 := (hxk6).to hq
      have hBk7 := hBk6.trans (hq.mono hBk6.size)
      clear hq hown6 hown7 hgrow6 hOy hsly hfk6 hqk6 hCk6 hTk6 hxk6 hBk6
      go_wp2_with (refine wpList_load_ar rfl _ _ rfl _ _ _ rfl hqk7 Tryd.arr12 (size12 _) ?_)
      refine (sseal (some ⟨gT, 0, none⟩) f s q a Ax m cx d Ay n cy l _ Hf.out HS0.out Hq.out HA.out hxk7.sl HCx.out hm6.out hyk7.sl HCy.out hn6.out (wtabs gT gC f s _ HS0.out (hTk7) (hCk7)) (HX.out.keep hBk7)).mono ?_
      rintro e x8 ⟨A3, c3, rfl, hu0, hcu, hq⟩
      clear hcu
      obtain ⟨gu, hgu⟩ : ∃ g, x8.heap.size - 1 = g := ⟨_, rfl⟩
      have hux8 : Sy x8 gu A3 (n + 16) (seL f s a l (tgF f s (csF l) (ofF s a n) d)) := by rw [← hgu]; exact Sy.new hu0 (Nat.lt_of_lt_of_le (Nat.zero_lt_of_lt (hCk7.lt)) hq.size)
      clear hu0 hgu
      have hfx8 := (hfk7).to (by omega) hq
      have hqx8 := (hqk7).to (by omega) hq
      have hCx8 := (hCk7).to hq
      have hTx8 := (hTk7).to hq
      have hxx8 := (hxk7).to hq
      have hyx8 := (hyk7).to hq
      have hBx8 := hBk7.trans (hq.mono hBk7.size)
      clear hq hfk7 hqk7 hCk7 hTk7 hxk7 hyk7 hBk7
      obtain ⟨R9, hR9⟩ : ∃ r, seL f s a l (tgF f s (csF l) (ofF s a n) d) = r := ⟨_, rfl⟩
      have HR9 := Lib.hid hR9
      rw [hR9] at hux8
      clear hR9
      go_upto_region 7 with fail
      clear hn63 hm63
      refine wp_region_held_drew (S := fun W => Ci W gC (f) ∧ Ar W gf 16 (f) ∧ Ar W gq 12 (q) ∧ Ti W gT (some ⟨gC, 0, none⟩) (s) ∧ Sy W gx Ax (m) (d) ∧ Sy W gy Ay (n) (l) ∧ Sy W gu A3 (n + 16) (R9) ∧ Below w.heap.size w W) (by kernel_rfl) ⟨hCx8.drew, hfx8.drew, hqx8.drew, hTx8.drew, hxx8.drew, hyx8.drew, hux8.drew, hBx8.drew⟩ (fun hHeld => ?_)
      clear hCx8 hfx8 hqx8 hTx8 hxx8 hyx8 hux8 hBx8 
      generalize World.drew x8 = qd at *
      refine wpAnyH_take (i := 0) (v := ?vq1) rfl (by kernel_rfl) (by kernel_rfl) (by kernel_rfl) (fun _ _ _ h => h) (Or.inl ⟨by rfl, ?hyq1⟩) (by assumption) ?restq1
      case hyq1 =>
        intro W hSw
        go_simp
        try with_reducible rfl
      simp only [Act.put, List.setIfInBounds_toArray, List.set_cons_zero, List.set_cons_succ, List.getElem_toArray, List.getElem_cons_zero]
      refine wpAnyH_take (i := 1) (v := .agg (arL 16 (f)).toArray) rfl (by kernel_rfl) (by kernel_rfl) (by kernel_rfl) (fun _ _ _ h => h) (yieldsIf_load_mid (by rfl) _ _ rfl gf (0) rfl (arL 16 (f)) _ (fun W hSw => hSw.2.1.range) Tryd.arr16b rfl (size16b _)) (by assumption) ?_
      simp only [Act.put, List.setIfInBounds_toArray, List.set_cons_zero, List.set_cons_succ, List.getElem_toArray, List.getElem_cons_zero, List.getElem_cons_succ]
      refine wpAnyH_take (i := 3) (v := .agg (arL 12 (q)).toArray) rfl (by kernel_rfl) (by kernel_rfl) (by kernel_rfl) (fun _ _ _ h => h) (yieldsIf_load_mid (by rfl) _ _ rfl gq (0) rfl (arL 12 (q)) _ (fun W hSw => hSw.2.2.1.range) Tryd.arr12 rfl (size12 _)) (by assumption) ?_
      simp only [Act.put, List.setIfInBounds_toArray, List.set_cons_zero, List.set_cons_succ, List.getElem_toArray, List.getElem_cons_zero, List.getElem_cons_succ]
      refine wpAnyH_take (i := 4) (v := ?vq2) rfl (by kernel_rfl) (by kernel_rfl) (by kernel_rfl) (fun _ _ _ h => h) (Or.inl ⟨by rfl, ?hyq2⟩) (by assumption) ?restq2
      case hyq2 =>
        intro W hSw
        go_simp
        try with_reducible rfl
      simp only [Act.put, List.setIfInBounds_toArray, List.set_cons_zero, List.set_cons_succ, List.getElem_toArray, List.getElem_cons_zero, List.getElem_cons_succ]
      refine wpAnyH_take (i := 5) (v := ?vq3) rfl (by kernel_rfl) (by kernel_rfl) (by kernel_rfl) (fun _ _ _ h => h) (Or.inl ⟨by rfl, ?hyq3⟩) (by assumption) ?restq3
      case hyq3 =>
        intro W hSw
        go_simp
        try with_reducible rfl
      simp only [Act.put, List.setIfInBounds_toArray, List.set_cons_zero, List.set_cons_succ, List.getElem_toArray, List.getElem_cons_zero, List.getElem_cons_succ]
      refine wpAnyH_ready (rs := [2]) (by kernel_rfl) (by simp) ?_
      refine AllReadyH.cons rfl (fun K hK => ?_) AllReadyH.nil
      go_simp
      refine (refprepare f _ Hf.out).mono ?_
      rintro e q4 ⟨rfl, hq⟩
      go_wp2_with fail
      refine hK.out _ _ ⟨(hHeld.1).to hq, (hHeld.2.1).to (by omega) hq, (hHeld.2.2.1).to (by omega) hq, (hHeld.2.2.2.1).to hq, (hHeld.2.2.2.2.1).to hq, (hHeld.2.2.2.2.2.1).to hq, (hHeld.2.2.2.2.2.2.1).to hq, (hHeld.2.2.2.2.2.2.2).trans (hq.mono (hHeld.2.2.2.2.2.2.2).size)⟩ (fun hHeld2 => ?_)
      clear hK K hHeld hq
      have hHeld := hHeld2
      clear hHeld2
      try simp only [Act.put, List.setIfInBounds_toArray, List.set_cons_zero, List.set_cons_succ, List.getElem_toArray, List.getElem_cons_zero, List.getElem_cons_succ]
      refine wpAnyH_ready (rs := [6]) (by kernel_rfl) (by simp) ?_
      refine AllReadyH.cons rfl (fun K hK => ?_) AllReadyH.nil
      go_simp
      refine (rseal f q s a D m cd d A n c l _ Hf.out Hq.out HS0.out HA.out ((HDD.out.below (hHeld.2.2.2.2.2.2.2)).more (hHeld.2.2.2.2.2.2.2).size) HMC.out hm6.out ((HSS.out.below (hHeld.2.2.2.2.2.2.2)).more (hHeld.2.2.2.2.2.2.2).size) HNC.out hn6.out).mono ?_
      rintro e q5 ⟨A8, c8, rfl, hO8, hq⟩
      have hv0 := Sl.of_own hO8
      rw [HR9.out] at hv0
      obtain ⟨gv, hgv⟩ : ∃ g, q5.heap.size - 1 = g := ⟨_, rfl⟩
      have hvq5 : Sy q5 gv A8 (n + 16) R9 := by rw [← hgv]; exact Sy.new hv0 (Nat.lt_of_lt_of_le (Nat.zero_lt_of_lt hHeld.1.lt) hq.size)
      clear hv0 hO8 hgv
      go_wp2_with fail
      refine hK.out _ _ ⟨(hHeld.1).to hq, (hHeld.2.1).to (by omega) hq, (hHeld.2.2.1).to (by omega) hq, (hHeld.2.2.2.1).to hq, (hHeld.2.2.2.2.1).to hq, (hHeld.2.2.2.2.2.1).to hq, (hHeld.2.2.2.2.2.2.1).to hq, (hHeld.2.2.2.2.2.2.2).trans (hq.mono (hHeld.2.2.2.2.2.2.2).size)⟩ (fun hHeld2 => ?_)
      clear hK K hHeld hq
      have hHeld := hHeld2
      clear hHeld2
      try simp only [Act.put, List.setIfInBounds_toArray, List.set_cons_zero, List.set_cons_succ, List.getElem_toArray, List.getElem_cons_zero, List.getElem_cons_succ]
      refine wpAnyH_ready (rs := [7]) (by kernel_rfl) (by simp) ?_
      refine AllReadyH.cons rfl (fun K hK => ?_) AllReadyH.nil
      go_simp
      refine (same_true A3 A8 (n + 16) c3 c8 R9 _ (hHeld.2.2.2.2.2.2.1).sl hvq5.sl (by have := hn6.out; omega)).mono ?_
      rintro e q6 ⟨rfl, hq⟩
      go_wp2_with fail
      have hvq6 := (hvq5).to hq
      refine hK.out _ _ ⟨(hHeld.1).to hq, (hHeld.2.1).to (by omega) hq, (hHeld.2.2.1).to (by omega) hq, (hHeld.2.2.2.1).to hq, (hHeld.2.2.2.2.1).to hq, (hHeld.2.2.2.2.2.1).to hq, (hHeld.2.2.2.2.2.2.1).to hq, (hHeld.2.2.2.2.2.2.2).trans (hq.mono (hHeld.2.2.2.2.2.2.2).size)⟩ (fun hHeld2 => ?_)
      clear hK K hHeld hq hvq5
      have hHeld := hHeld2
      clear hHeld2
      try simp only [Act.put, List.setIfInBounds_toArray, List.set_cons_zero, List.set_cons_succ, List.getElem_toArray, List.getElem_cons_zero, List.getElem_cons_succ]
      refine wpAnyH_take (i := 8) (v := ?vq7) rfl (by kernel_rfl) (by kernel_rfl) (by kernel_rfl) (fun _ _ _ h => h) (Or.inl ⟨by rfl, ?hyq7⟩) (by assumption) ?restq7
      case hyq7 =>
        intro W hSw
        go_simp
        try with_reducible rfl
      simp only [Act.put, List.setIfInBounds_toArray, List.set_cons_zero, List.set_cons_succ, List.getElem_toArray, List.getElem_cons_zero, List.getElem_cons_succ]
      refine wpAnyH_take (i := 9) (v := ?vq8) rfl (by kernel_rfl) (by kernel_rfl) (by kernel_rfl) (fun _ _ _ h => h) (Or.inl ⟨by rfl, ?hyq8⟩) (by assumption) ?restq8
      case hyq8 =>
        intro W hSw
        go_simp
        try with_reducible rfl
      simp only [Act.put, List.setIfInBounds_toArray, List.set_cons_zero, List.set_cons_succ, List.getElem_toArray, List.getElem_cons_zero, List.getElem_cons_succ]
      refine wpAnyH_take (i := 10) (v := ?vq9) rfl (by kernel_rfl) (by kernel_rfl) (by kernel_rfl) (fun _ _ _ h => h) (Or.inl ⟨by rfl, ?hyq9⟩) (by assumption) ?restq9
      case hyq9 =>
        intro W hSw
        go_simp
        try with_reducible rfl
      simp only [Act.put, List.setIfInBounds_toArray, List.set_cons_zero, List.set_cons_succ, List.getElem_toArray, List.getElem_cons_zero, List.getElem_cons_succ]
      refine wpAnyH_ready (rs := [11]) (by kernel_rfl) (by simp) ?_
      refine AllReadyH.cons rfl (fun K hK => ?_) AllReadyH.nil
      go_simp
      refine (same_true Ax D m cx cd d _ (hHeld.2.2.2.2.1).sl ((HDD.out.below (hHeld.2.2.2.2.2.2.2)).more (hHeld.2.2.2.2.2.2.2).size) (by have := hm6.out; omega)).mono ?_
      rintro e q10 ⟨rfl, hq⟩
      go_wp2_with fail
      have hvq10 := (hvq6).to hq
      refine hK.out _ _ ⟨(hHeld.1).to hq, (hHeld.2.1).to (by omega) hq, (hHeld.2.2.1).to (by omega) hq, (hHeld.2.2.2.1).to hq, (hHeld.2.2.2.2.1).to hq, (hHeld.2.2.2.2.2.1).to hq, (hHeld.2.2.2.2.2.2.1).to hq, (hHeld.2.2.2.2.2.2.2).trans (hq.mono (hHeld.2.2.2.2.2.2.2).size)⟩ (fun hHeld2 => ?_)
      clear hK K hHeld hq hvq6
      have hHeld := hHeld2
      clear hHeld2
      try simp only [Act.put, List.setIfInBounds_toArray, List.set_cons_zero, List.set_cons_succ, List.getElem_toArray, List.getElem_cons_zero, List.getElem_cons_succ]
      refine wpAnyH_take (i := 12) (v := ?vq11) rfl (by kernel_rfl) (by kernel_rfl) (by kernel_rfl) (fun _ _ _ h => h) (Or.inl ⟨by rfl, ?hyq11⟩) (by assumption) ?restq11
      case hyq11 =>
        intro W hSw
        go_simp
        try with_reducible rfl
      simp only [Act.put, List.setIfInBounds_toArray, List.set_cons_zero, List.set_cons_succ, List.getElem_toArray, List.getElem_cons_zero, List.getElem_cons_succ]
      refine wpAnyH_take (i := 13) (v := ?vq12) rfl (by kernel_rfl) (by kernel_rfl) (by kernel_rfl) (fun _ _ _ h => h) (Or.inl ⟨by rfl, ?hyq12⟩) (by assumption) ?restq12
      case hyq12 =>
        intro W hSw
        go_simp
        try with_reducible rfl
      simp only [Act.put, List.setIfInBounds_toArray, List.set_cons_zero, List.set_cons_succ, List.getElem_toArray, List.getElem_cons_zero, List.getElem_cons_succ]
      refine wpAnyH_take (i := 14) (v := ?vq13) rfl (by kernel_rfl) (by kernel_rfl) (by kernel_rfl) (fun _ _ _ h => h) (Or.inl ⟨by rfl, ?hyq13⟩) (by assumption) ?restq13
      case hyq13 =>
        intro W hSw
        go_simp
        try with_reducible rfl
      simp only [Act.put, List.setIfInBounds_toArray, List.set_cons_zero, List.set_cons_succ, List.getElem_toArray, List.getElem_cons_zero, List.getElem_cons_succ]
      refine wpAnyH_take (i := 15) (v := ?vq14) rfl (by kernel_rfl) (by kernel_rfl) (by kernel_rfl) (fun _ _ _ h => h) (Or.inl ⟨by rfl, ?hyq14⟩) (by assumption) ?restq14
      case hyq14 =>
        intro W hSw
        go_simp
        try with_reducible rfl
      simp only [Act.put, List.setIfInBounds_toArray, List.set_cons_zero, List.set_cons_succ, List.getElem_toArray, List.getElem_cons_zero, List.getElem_cons_succ]
      refine wpAnyH_ready (rs := [16]) (by kernel_rfl) (by simp) ?_
      refine AllReadyH.cons rfl (fun K hK => ?_) AllReadyH.nil
      go_simp
      refine (same_true Ay A n cy c l _ (hHeld.2.2.2.2.2.1).sl ((HSS.out.below (hHeld.2.2.2.2.2.2.2)).more (hHeld.2.2.2.2.2.2.2).size) (by have := hn6.out; omega)).mono ?_
      rintro e q15 ⟨rfl, hq⟩
      go_wp2_with fail
      have hvq15 := (hvq10).to hq
      refine hK.out _ _ ⟨(hHeld.1).to hq, (hHeld.2.1).to (by omega) hq, (hHeld.2.2.1).to (by omega) hq, (hHeld.2.2.2.1).to hq, (hHeld.2.2.2.2.1).to hq, (hHeld.2.2.2.2.2.1).to hq, (hHeld.2.2.2.2.2.2.1).to hq, (hHeld.2.2.2.2.2.2.2).trans (hq.mono (hHeld.2.2.2.2.2.2.2).size)⟩ (fun hHeld2 => ?_)
      clear hK K hHeld hq hvq10
      have hHeld := hHeld2
      clear hHeld2
      try simp only [Act.put, List.setIfInBounds_toArray, List.set_cons_zero, List.set_cons_succ, List.getElem_toArray, List.getElem_cons_zero, List.getElem_cons_succ]
      refine wpAnyH_take (i := 17) (v := ?vq16) rfl (by kernel_rfl) (by kernel_rfl) (by kernel_rfl) (fun _ _ _ h => h) (Or.inl ⟨by rfl, ?hyq16⟩) (by assumption) ?restq16
      case hyq16 =>
        intro W hSw
        go_simp
        try with_reducible rfl
      simp only [Act.put, List.setIfInBounds_toArray, List.set_cons_zero, List.set_cons_succ, List.getElem_toArray, List.getElem_cons_zero, List.getElem_cons_succ]
      refine wpAnyH_take (i := 18) (v := ?vq17) rfl (by kernel_rfl) (by kernel_rfl) (by kernel_rfl) (fun _ _ _ h => h) (Or.inl ⟨by rfl, ?hyq17⟩) (by assumption) ?restq17
      case hyq17 =>
        intro W hSw
        go_simp
        try with_reducible rfl
      simp only [Act.put, List.setIfInBounds_toArray, List.set_cons_zero, List.set_cons_succ, List.getElem_toArray, List.getElem_cons_zero, List.getElem_cons_succ]
      refine wpAnyH_take (i := 19) (v := ?vq18) rfl (by kernel_rfl) (by kernel_rfl) (by kernel_rfl) (fun _ _ _ h => h) (Or.inl ⟨by rfl, ?hyq18⟩) (by assumption) ?restq18
      case hyq18 =>
        intro W hSw
        go_simp
        try with_reducible rfl
      simp only [Act.put, List.setIfInBounds_toArray, List.set_cons_zero, List.set_cons_succ, List.getElem_toArray, List.getElem_cons_zero, List.getElem_cons_succ]
      refine wpAnyH_take (i := 20) (v := ?vq19) rfl (by kernel_rfl) (by kernel_rfl) (by kernel_rfl) (fun _ _ _ h => h) (Or.inl ⟨by rfl, ?hyq19⟩) (by assumption) ?restq19
      case hyq19 =>
        intro W hSw
        go_simp
        try with_reducible rfl
      simp only [Act.put, List.setIfInBounds_toArray, List.set_cons_zero, List.set_cons_succ, List.getElem_toArray, List.getElem_cons_zero, List.getElem_cons_succ]
      refine wpAnyH_take (i := 21) (v := ?vq20) rfl (by kernel_rfl) (by kernel_rfl) (by kernel_rfl) (fun _ _ _ h => h) (Or.inl ⟨by rfl, ?hyq20⟩) (by assumption) ?restq20
      case hyq20 =>
        intro W hSw
        go_simp
        try with_reducible rfl
      simp only [Act.put, List.setIfInBounds_toArray, List.set_cons_zero, List.set_cons_succ, List.getElem_toArray, List.getElem_cons_zero, List.getElem_cons_succ]
      refine wpAnyH_take (i := 22) (v := ?vq21) rfl (by kernel_rfl) (by kernel_rfl) (by kernel_rfl) (fun _ _ _ h => h) (Or.inl ⟨by rfl, ?hyq21⟩) (by assumption) ?restq21
      case hyq21 =>
        intro W hSw
        go_simp
        try with_reducible rfl
      simp only [Act.put, List.setIfInBounds_toArray, List.set_cons_zero, List.set_cons_succ, List.getElem_toArray, List.getElem_cons_zero, List.getElem_cons_succ]
      refine wpAnyH_ready (rs := [23]) (by kernel_rfl) (by simp) ?_
      refine AllReadyH.cons rfl (fun K hK => ?_) AllReadyH.nil
      go_simp
      refine (ssizen n _ hn6.out).mono ?_
      rintro e q22 ⟨rfl, rfl⟩
      go_wp2_with fail
      have hvq22 := hvq15
      refine hK.out _ _ hHeld (fun hHeld2 => ?_)
      clear hK K hHeld hvq15
      have hHeld := hHeld2
      clear hHeld2
      try simp only [Act.put, List.setIfInBounds_toArray, List.set_cons_zero, List.set_cons_succ, List.getElem_toArray, List.getElem_cons_zero, List.getElem_cons_succ]
      refine wpAnyH_take (i := 24) (v := ?vq23) rfl (by kernel_rfl) (by kernel_rfl) (by kernel_rfl) (fun _ _ _ h => h) (Or.inl ⟨by rfl, ?hyq23⟩) (by assumption) ?restq23
      case hyq23 =>
        intro W hSw
        go_simp
        try with_reducible rfl
      simp only [Act.put, List.setIfInBounds_toArray, List.set_cons_zero, List.set_cons_succ, List.getElem_toArray, List.getElem_cons_zero, List.getElem_cons_succ]
      refine wpAnyH_take (i := 25) (v := ?vq24) rfl (by kernel_rfl) (by kernel_rfl) (by kernel_rfl) (fun _ _ _ h => h) (Or.inl ⟨by rfl, ?hyq24⟩) (by assumption) ?restq24
      case hyq24 =>
        intro W hSw
        go_simp
        try with_reducible rfl
      simp only [Act.put, List.setIfInBounds_toArray, List.set_cons_zero, List.set_cons_succ, List.getElem_toArray, List.getElem_cons_zero, List.getElem_cons_succ]
      refine wpAnyH_take (i := 26) (v := ?vq25) rfl (by kernel_rfl) (by kernel_rfl) (by kernel_rfl) (fun _ _ _ h => h) (Or.inl ⟨by rfl, ?hyq25⟩) (by assumption) ?restq25
      case hyq25 =>
        intro W hSw
        go_simp
        try with_reducible rfl
      simp only [Act.put, List.setIfInBounds_toArray, List.set_cons_zero, List.set_cons_succ, List.getElem_toArray, List.getElem_cons_zero, List.getElem_cons_succ]
      refine wpAnyH_done (by kernel_rfl) ?_ _
      have hBe := hHeld.2.2.2.2.2.2.2
      clear hHeld
      go_wp2_with fail
      go_ret
      exact ⟨rfl, hBe⟩
end Go.Proofs.YthapnnbdoecoaaaDoor
