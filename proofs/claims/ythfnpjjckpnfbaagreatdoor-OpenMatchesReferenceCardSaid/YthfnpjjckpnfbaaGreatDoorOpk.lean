/-
 The walk of the law OpenMatchesReference of layer 13: for every key and every nonce, all data and all bytes it returns true, and writes nothing that was there.
-/
import Derived.Test.YthfnpjjckpnfbaaGreatDoorSqz
import Derived.Test.YthfnpjjckpnfbaaGreatDoorOpi
import Derived.Deep.RegionHeld3
import Derived.Test.YthfnpjjckpnfbaaGreatDoorOpe
import Derived.Test.YthfnpjjckpnfbaaGreatDoorOpq
import Derived.Test.YthfnpjjckpnfbaaGreatDoorArg
namespace Go.Proofs.YthfnpjjckpnfbaaGreatDoor
open Go.RowKit
set_option linter.unusedVariables false
set_option maxRecDepth 100000
set_option linter.unusedSimpArgs false

set_option maxHeartbeats 8000000 in
theorem omatches13 (f : Nat → Nat) (q : Nat → Nat) (D : Option Addr) (m cd : Nat) (d : List UInt8) (A : Option Addr) (n c : Nat) (l : List UInt8) (w : World) (hf : ∀ j, j < 16 → f j < 256) (hq : ∀ j, j < 12 → q j < 256) (hD : Sl w w.heap.size D m d) (hmc : m ≤ cd) (hcd : cd ≤ maxLen) (hS : Sl w w.heap.size A n l) (hnc : n ≤ c) (hcm : c ≤ maxLen) (hs : Boxes w) :
  Calls Tryz.prog 3 #[.agg (arL 16 f).toArray, .agg (arL 12 q).toArray, .slice D m cd, .slice A n c] w fun e w' => e = .returned (.bool true) ∧ Below w.heap.size w w' := by
 have HX := Lib.hid hs
 have hz := zero16b
 have hz12 := zero12
 have hzK := zeroK
 have z0 := run_zero16
 have hlen := hS.len
 have HLEN := Lib.hid hlen
 have hdlen := hD.len
 have HDLEN := Lib.hid hdlen
 have HSS := Lib.hid hS
 have HDD := Lib.hid hD
 have HNC := Lib.hid hnc
 have HMC := Lib.hid hmc
 have hn63 : n ≤ 9223372036854775807 := by have h := hcm; simp [maxLen] at h; omega
 have hm63 : m ≤ 9223372036854775807 := by have h := hcd; simp [maxLen] at h; omega
 clear hlen hdlen hS hD hnc hmc hcm hcd
 obtain ⟨dK, hfs, hrow⟩ := Tryz.structK
 have HS := Lib.hid hfs
 have HW := Lib.hid hrow
 clear hfs hrow
 have Hf := Lib.hid hf
 have Hq := Lib.hid hq
 obtain ⟨kf, hkf⟩ : ∃ k : Array Value, (arL 16 f).toArray = k := ⟨_, rfl⟩
 obtain ⟨kq, hkq⟩ : ∃ k : Array Value, (arL 12 q).toArray = k := ⟨_, rfl⟩
 obtain ⟨w1, hw1⟩ : ∃ V : World, V = w.alloc (.cells (arL 16 f).toArray 22) := ⟨_, rfl⟩
 have hs1 : w1.heap.size = w.heap.size + 1 := by rw [hw1]; simp
 have hBw1 : Below w.heap.size w w1 := by rw [hw1]; exact (Below.refl _ _).alloc (Nat.le_refl _) _
 have hfw1 : Ar w1 w.heap.size 16 f := by rw [hw1]; exact Ar.new w 16 f _
 obtain ⟨w2, hw2⟩ : ∃ V : World, V = w1.alloc (.cells (arL 12 q).toArray 23) := ⟨_, rfl⟩
 have hs2 : w2.heap.size = w.heap.size + 2 := by rw [hw2]; simp [hs1]
 have hBw2 : Below w.heap.size w w2 := by rw [hw2]; exact hBw1.alloc (by omega) _
 have hfw2 := hfw1.alloc (by omega) (.cells (arL 12 q).toArray 23)
 rw [← hw2] at hfw2
 have hqw2 : Ar w2 (w.heap.size + 1) 12 q := by rw [hw2, ← hs1]; exact Ar.new w1 12 q _
 rw [hkf] at hw1
 rw [hkq] at hw2
 rw [hkf, hkq]
 clear hkf hkq hs hf hq
 go_enter Tryz.func3, Tryz.ntmps3
 go_upto_region 1 with fail
 rw [← hw1, ← hw2]
 clear hw1 hw2
 try simp only [Nat.add_assoc, Nat.reduceAdd]
 obtain ⟨gf, hgf⟩ : ∃ g : Nat, w.heap.size = g := ⟨_, rfl⟩
 obtain ⟨gq, hgq⟩ : ∃ g : Nat, w.heap.size + 1 = g := ⟨_, rfl⟩
 rw [hgf] at hfw2
 rw [hgq] at hqw2
 try rw [hgq]
 try simp only [hgf]
 have hlf : w.heap.size ≤ gf := by omega
 have hlq : w.heap.size ≤ gq := by omega
 have hltq : gf < gq := by omega
 clear hgq hs1 hs2
 go_wp2_with fail
 refine (oawake13 _ (HX.out.keep hBw2)).mono ?_
 rintro e x1 ⟨rfl, hq⟩
 have hfx1 := (hfw2).to (by omega) hq
 have hqx1 := (hqw2).to (by omega) hq
 have hBx1 := hBw2.trans (hq.mono hBw2.size)
 clear hq hfw2 hqw2 hBw2
 by_cases hgm : 100 < m
 ·have hhm : (100 : Int) < (m : Int) := by omega
  go_wp2_with fail
  refine (oawake13 _ (HX.out.keep hBx1)).mono ?_
  rintro e x2 ⟨rfl, hq⟩
  have hfx2 := (hfx1).to (by omega) hq
  have hqx2 := (hqx1).to (by omega) hq
  have hBx2 := hBx1.trans (hq.mono hBx1.size)
  clear hq hfx1 hqx1 hBx1
  go_wp2_with fail
  go_ret
  exact ⟨rfl, hBx2⟩
 ·have hhm : ¬ (100 : Int) < (m : Int) := by omega
  by_cases hgn : 150 < n
  ·have hhn : (150 : Int) < (n : Int) := by omega
   go_wp2_with fail
   refine (oawake13 _ (HX.out.keep hBx1)).mono ?_
   rintro e x3 ⟨rfl, hq⟩
   have hfx3 := (hfx1).to (by omega) hq
   have hqx3 := (hqx1).to (by omega) hq
   have hBx3 := hBx1.trans (hq.mono hBx1.size)
   clear hq hfx1 hqx1 hBx1
   go_wp2_with fail
   go_ret
   exact ⟨rfl, hBx3⟩
  ·have hhn : ¬ (150 : Int) < (n : Int) := by omega
   have hn6 := Lib.hid (show n ≤ 1000000 by omega)
   have hm6 := Lib.hid (show m ≤ 1000000 by omega)
   obtain ⟨s, hs0⟩ : ∃ s : Nat → Nat, enF f zF = s := ⟨_, rfl⟩
   have HS0 := Lib.hid hs0
   have HSL := Lib.hid (show B16 s by rw [← hs0]; exact enR_lt Hf.out zF_lt 10)
   clear hs0
   go_wp2_with (refine wpList_load_ar rfl _ _ rfl _ _ _ rfl hfx1 Tryz.arr16b (size16b _) ?_)
   refine (fnew f _ Hf.out (HX.out.keep hBx1)).mono ?_
   rintro e x4 ⟨gC, rfl, hgC, hCx4, hq⟩
   have hfx4 := (hfx1).to (by omega) hq
   have hqx4 := (hqx1).to (by omega) hq
   have hBx4 := hBx1.trans (hq.mono hBx1.size)
   clear hq hfx1 hqx1 hBx1
   go_wp2_with fail
   refine (tnew (some ⟨gC, 0, none⟩) f _ Hf.out (exp_made gC f _ hCx4) (HX.out.keep hBx4)).mono ?_
   rintro e x5 ⟨gT, rfl, hgT, hTx5, hq⟩
   rw [HS0.out] at hTx5
   have hfx5 := (hfx4).to (by omega) hq
   have hqx5 := (hqx4).to (by omega) hq
   have hCx5 := (hCx4).to hq
   have hBx5 := hBx4.trans (hq.mono hBx4.size)
   clear hq hfx4 hqx4 hCx4 hBx4
   clear hhm hhn hgm hgn hn63 hm63
   obtain ⟨a, ha⟩ : ∃ a : Nat → Nat, o0F (enF f (nbF q)) (q 11) = a := ⟨_, rfl⟩
   have HA := Lib.hid ha
   have HAB := Lib.hid (show B16 a by rw [← ha]; exact o0F_lt (enR_lt Hf.out (nbF_lt Hq.out) 10) _)
   clear ha
   have HOT := Lib.hid (opC_three f s a d l)
   obtain ⟨C, hC⟩ : ∃ C, opC f s a d l = C := ⟨_, rfl⟩
   obtain ⟨PL, hPL⟩ : ∃ P, opL f s a d l = P := ⟨_, rfl⟩
   have HC := Lib.hid hC
   have HPL := Lib.hid hPL
   have HPN := Lib.hid (show PL.length ≤ n by rw [← hPL]; exact opL_le HLEN.out)
   clear hC hPL
   go_wp2_with (refine wpList_load_ar rfl _ _ rfl _ _ _ rfl hqx5 Tryz.arr12 (size12 _) ?_)
   refine (oopen (some ⟨gT, 0, none⟩) f s q a D m cd d A n c l PL C _ Hf.out HS0.out Hq.out HA.out ((HDD.out.below hBx5).more hBx5.size) HMC.out hm6.out ((HSS.out.below hBx5).more hBx5.size) HNC.out hn6.out HC.out HPL.out (wtabo gT gC f s _ HS0.out (hTx5) (hCx5)) (HX.out.keep hBx5)).mono ?_
   rintro e x6 ⟨A3, c3, rfl, hu0, hcu, hq⟩
   have HCP := Lib.hid hcu
   clear hcu
   obtain ⟨gu, hgu⟩ : ∃ g, x6.heap.size - 1 = g := ⟨_, rfl⟩
   have hux6 : Sy x6 gu A3 (PL.length) (PL) := by rw [← hgu]; exact Sy.new hu0 (Nat.lt_of_lt_of_le (Nat.zero_lt_of_lt (hCx5.lt)) hq.size)
   clear hu0 hgu
   have hfx6 := (hfx5).to (by omega) hq
   have hqx6 := (hqx5).to (by omega) hq
   have hCx6 := (hCx5).to hq
   have hTx6 := (hTx5).to hq
   have hBx6 := hBx5.trans (hq.mono hBx5.size)
   clear hq hfx5 hqx5 hCx5 hTx5 hBx5
   go_upto_region 5 with fail
   refine wp_region_noPanic ?_
   refine wp_region_held_drew (S := fun W => Ci W gC (f) ∧ Ar W gf 16 (f) ∧ Ar W gq 12 (q) ∧ Ti W gT (some ⟨gC, 0, none⟩) (s) ∧ Sy W gu A3 (PL.length) (PL) ∧ Below w.heap.size w W) (by kernel_rfl) ⟨hCx6.drew, hfx6.drew, hqx6.drew, hTx6.drew, hux6.drew, hBx6.drew⟩ (fun hHeld => ?_)
   clear hCx6 hfx6 hqx6 hTx6 hux6 hBx6 
   generalize World.drew x6 = td at *
   refine tk 0 (.agg (arL 16 (f)).toArray) rfl (yieldsIf_load_mid (by rfl) _ _ rfl gf (0) rfl (arL 16 (f)) _ (fun W hSw => hSw.2.1.range) Tryz.arr16b rfl (size16b _)) ?_
   simp only [Act.put, nrm]
   refine tk 2 (.agg (arL 12 (q)).toArray) rfl (yieldsIf_load_mid (by rfl) _ _ rfl gq (0) rfl (arL 12 (q)) _ (fun W hSw => hSw.2.2.1.range) Tryz.arr12 rfl (size12 _)) ?_
   simp only [Act.put, nrm]
   refine tw 3 ?vt1 rfl ?hyt1 ?restt1
   case hyt1 =>
    intro W hSw
    go_simp
    try with_reducible rfl
   simp only [Act.put, nrm]
   refine tw 4 ?vt2 rfl ?hyt2 ?restt2
   case hyt2 =>
    intro W hSw
    go_simp
    try with_reducible rfl
   simp only [Act.put, nrm]
   refine rd 1 rfl (fun K hK => ?_)
   go_simp
   refine (refprepare f _ Hf.out).mono ?_
   rintro e t3 ⟨rfl, hq⟩
   go_wp2_with fail
   refine hK.out _ _ ⟨(hHeld.1).to hq, (hHeld.2.1).to (by omega) hq, (hHeld.2.2.1).to (by omega) hq, (hHeld.2.2.2.1).to hq, (hHeld.2.2.2.2.1).to hq, (hHeld.2.2.2.2.2).trans (hq.mono (hHeld.2.2.2.2.2).size)⟩ ?_
   clear hK K hHeld hq
   intro hHeld
   try simp only [Act.put, nrm]
   refine rd 5 rfl (fun K hK => ?_)
   go_simp
   refine (ropen f q s a D m cd d A n c l PL C _ Hf.out Hq.out HS0.out HA.out ((HDD.out.below (hHeld.2.2.2.2.2)).more (hHeld.2.2.2.2.2).size) HMC.out hm6.out ((HSS.out.below (hHeld.2.2.2.2.2)).more (hHeld.2.2.2.2.2).size) HNC.out hn6.out HC.out HPL.out).mono ?_
   rintro e t4 ⟨A8, c8, rfl, hv0, _, hq⟩
   obtain ⟨gv, hgv⟩ : ∃ g, t4.heap.size - 1 = g := ⟨_, rfl⟩
   have hvt4 : Sy t4 gv A8 PL.length PL := by rw [← hgv]; exact Sy.new hv0 (Nat.lt_of_lt_of_le (Nat.zero_lt_of_lt hHeld.1.lt) hq.size)
   clear hv0 hgv
   go_wp2_with fail
   refine hK.out _ _ ⟨(hHeld.1).to hq, (hHeld.2.1).to (by omega) hq, (hHeld.2.2.1).to (by omega) hq, (hHeld.2.2.2.1).to hq, (hHeld.2.2.2.2.1).to hq, (hHeld.2.2.2.2.2).trans (hq.mono (hHeld.2.2.2.2.2).size)⟩ ?_
   clear hK K hHeld hq
   intro hHeld
   try simp only [Act.put, nrm]
   refine tw 6 ?vt5 rfl ?hyt5 ?restt5
   case hyt5 =>
    intro W hSw
    go_simp
    try with_reducible rfl
   simp only [Act.put, nrm]
   refine tw 7 ?vt6 rfl ?hyt6 ?restt6
   case hyt6 =>
    intro W hSw
    go_simp
    try with_reducible rfl
   simp only [Act.put, nrm]
   refine tw 8 ?vt7 rfl ?hyt7 ?restt7
   case hyt7 =>
    intro W hSw
    go_simp
    try with_reducible rfl
   simp only [Act.put, nrm]
   refine tw 9 ?vt8 rfl ?hyt8 ?restt8
   case hyt8 =>
    intro W hSw
    go_simp
    try with_reducible rfl
   simp only [Act.put, nrm]
   refine tw 10 ?vt9 rfl ?hyt9 ?restt9
   case hyt9 =>
    intro W hSw
    go_simp
    try with_reducible rfl
   simp only [Act.put, nrm]
   refine wpAnyH_done (by kernel_rfl) ?_ _
   have hCz5 := hHeld.1
   have hfz5 := hHeld.2.1
   have hqz5 := hHeld.2.2.1
   have hTz5 := hHeld.2.2.2.1
   have huz5 := hHeld.2.2.2.2.1
   have hBz5 := hHeld.2.2.2.2.2
   have hvz5 := hvt4
   clear hHeld hvt4
   refine NoPanic.normal ?_
   try dsimp only [Act.put]
   go_wp2_with fail
   refine (same_true A3 A8 PL.length c3 c8 PL _ huz5.sl hvz5.sl (by have := HPN.out; have := hn6.out; omega)).mono ?_
   rintro e x7 ⟨rfl, hq⟩
   have hfx7 := (hfz5).to (by omega) hq
   have hqx7 := (hqz5).to (by omega) hq
   have hCx7 := (hCz5).to hq
   have hTx7 := (hTz5).to hq
   have hux7 := (huz5).to hq
   have hvx7 := (hvz5).to hq
   have hBx7 := hBz5.trans (hq.mono hBz5.size)
   clear hq hfz5 hqz5 hCz5 hTz5 huz5 hvz5 hBz5
   clear hvx7
   by_cases h0 : C = 0
   ·subst h0
    try simp only [errV0]
    have HLN := Lib.hid (show PL.length + 16 = n by rw [← HPL.out]; exact opL_len HLEN.out HC.out)
    have HSE := Lib.hid (show seL f s a PL (tgF f s (csF PL) (ofF s a PL.length) d) = l by rw [← HPL.out]; exact seal_op Hf.out HSL.out HAB.out HLEN.out HC.out)
    go_wp2_with (refine wpList_load_ar0W rfl _ _ rfl _ _ _ rfl hqx7 Tryz.arr12 (size12 _) ?_)
    refine (oright (some ⟨gT, 0, none⟩) f s q a D m cd d A n c l PL 0 _ Hf.out HS0.out Hq.out HA.out ((HDD.out.below hBx7).more hBx7.size) HMC.out hm6.out ((HSS.out.below hBx7).more hBx7.size) HNC.out hn6.out HC.out HPL.out (wtabo gT gC f s _ HS0.out (hTx7) (hCx7)) (HX.out.keep hBx7)).mono ?_
    rintro e x8 ⟨rfl, hq⟩
    rw [decide_eq_true rfl]
    have hfx8 := (hfx7).to (by omega) hq
    have hqx8 := (hqx7).to (by omega) hq
    have hCx8 := (hCx7).to hq
    have hTx8 := (hTx7).to hq
    have hux8 := (hux7).to hq
    have hBx8 := hBx7.trans (hq.mono hBx7.size)
    clear hq hfx7 hqx7 hCx7 hTx7 hux7 hBx7
    go_wp2_with (refine wpList_load_ar0W rfl _ _ rfl _ _ _ rfl hqx8 Tryz.arr12 (size12 _) ?_)
    refine (sseal (some ⟨gT, 0, none⟩) f s q a D m cd d A3 PL.length c3 PL _ Hf.out HS0.out Hq.out HA.out ((HDD.out.below hBx8).more hBx8.size) HMC.out hm6.out hux8.sl HCP.out (by have := HPN.out; have := hn6.out; omega) (wtabs gT gC f s _ HS0.out (hTx8) (hCx8)) (HX.out.keep hBx8)).mono ?_
    rintro e x9 ⟨A6, c6, rfl, hs0, _, hq⟩
    rw [HSE.out, HLN.out] at hs0
    rw [HLN.out]
    obtain ⟨gs, hgs⟩ : ∃ g, x9.heap.size - 1 = g := ⟨_, rfl⟩
    have hsx9 : Sy x9 gs A6 (n) (l) := by rw [← hgs]; exact Sy.new hs0 (Nat.lt_of_lt_of_le (Nat.zero_lt_of_lt (hCx8.lt)) hq.size)
    clear hs0 hgs
    have hfx9 := (hfx8).to (by omega) hq
    have hqx9 := (hqx8).to (by omega) hq
    have hCx9 := (hCx8).to hq
    have hTx9 := (hTx8).to hq
    have hux9 := (hux8).to hq
    have hBx9 := hBx8.trans (hq.mono hBx8.size)
    clear hq hfx8 hqx8 hCx8 hTx8 hux8 hBx8
    go_wp2_with fail
    refine (same_true A6 A n c6 c l _ hsx9.sl ((HSS.out.below hBx9).more hBx9.size) (by have := hn6.out; omega)).mono ?_
    rintro e x10 ⟨rfl, hq⟩
    have hfx10 := (hfx9).to (by omega) hq
    have hqx10 := (hqx9).to (by omega) hq
    have hCx10 := (hCx9).to hq
    have hTx10 := (hTx9).to hq
    have hux10 := (hux9).to hq
    have hsx10 := (hsx9).to hq
    have hBx10 := hBx9.trans (hq.mono hBx9.size)
    clear hq hfx9 hqx9 hCx9 hTx9 hux9 hsx9 hBx9
    go_wp2_with fail
    go_ret
    exact ⟨rfl, hBx10⟩
   ·have hce := errV_is h0
    try simp only [hce]
    clear hce
    have hcn : ¬ (C : Int) = 0 := by omega
    have HCN := Lib.hid h0
    have HPE := Lib.hid (show PL = [] by rw [← HPL.out]; exact opL_no (by rw [HC.out]; exact h0))
    clear h0
    go_wp2_with (refine wpList_load_ar0W rfl _ _ rfl _ _ _ rfl hqx7 Tryz.arr12 (size12 _) ?_)
    refine (oright (some ⟨gT, 0, none⟩) f s q a D m cd d A n c l PL C _ Hf.out HS0.out Hq.out HA.out ((HDD.out.below hBx7).more hBx7.size) HMC.out hm6.out ((HSS.out.below hBx7).more hBx7.size) HNC.out hn6.out HC.out HPL.out (wtabo gT gC f s _ HS0.out (hTx7) (hCx7)) (HX.out.keep hBx7)).mono ?_
    rintro e x11 ⟨rfl, hq⟩
    rw [decide_eq_false HCN.out]
    have hfx11 := (hfx7).to (by omega) hq
    have hqx11 := (hqx7).to (by omega) hq
    have hCx11 := (hCx7).to hq
    have hTx11 := (hTx7).to hq
    have hux11 := (hux7).to hq
    have hBx11 := hBx7.trans (hq.mono hBx7.size)
    clear hq hfx7 hqx7 hCx7 hTx7 hux7 hBx7
    have hqC := eqCodeT (C : Int)
    have hl0 : PL.length = 0 := by rw [HPE.out]; rfl
    go_wp2_with fail
    go_ret
    exact ⟨rfl, hBx11⟩
end Go.Proofs.YthfnpjjckpnfbaaGreatDoor
