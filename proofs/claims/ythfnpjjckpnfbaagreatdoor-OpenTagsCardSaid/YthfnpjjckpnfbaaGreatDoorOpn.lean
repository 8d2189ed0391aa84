/-
 The walk of the law OpenTags of layer 13: for every key and every nonce, all bytes and every change of the tag it returns true, and writes nothing that was there.
-/
import Derived.Test.YthfnpjjckpnfbaaGreatDoorSqz
import Derived.Test.YthfnpjjckpnfbaaGreatDoorOpi
import Derived.Deep.RegionHeld3
import Derived.Test.YthfnpjjckpnfbaaGreatDoorOpq
import Derived.Test.YthfnpjjckpnfbaaGreatDoorArg
namespace Go.Proofs.YthfnpjjckpnfbaaGreatDoor
open Go.RowKit
set_option linter.unusedVariables false
set_option maxRecDepth 100000
set_option linter.unusedSimpArgs false

set_option maxHeartbeats 8000000 in
theorem otags (f : Nat → Nat) (q : Nat → Nat) (A : Option Addr) (n c : Nat) (l : List UInt8) (g : Nat → Nat) (w : World) (hf : ∀ j, j < 16 → f j < 256) (hq : ∀ j, j < 12 → q j < 256) (hS : Sl w w.heap.size A n l) (hnc : n ≤ c) (hcm : c ≤ maxLen) (hg : ∀ j, j < 16 → g j < 256) (hs : Boxes w) :
  Calls Tryz.prog 6 #[.agg (arL 16 f).toArray, .agg (arL 12 q).toArray, .slice A n c, .agg (arL 16 g).toArray] w fun e w' => e = .returned (.bool true) ∧ Below w.heap.size w w' := by
 have HX := Lib.hid hs
 have hz := zero16b
 have hz12 := zero12
 have hzK := zeroK
 have z0 := run_zero16
 have hlen := hS.len
 have HLEN := Lib.hid hlen
 have HSS := Lib.hid hS
 have HNC := Lib.hid hnc
 have hn63 : n ≤ 9223372036854775807 := by have h := hcm; simp [maxLen] at h; omega
 clear hlen hS hnc hcm
 obtain ⟨dK, hfs, hrow⟩ := Tryz.structK
 have HS := Lib.hid hfs
 have HW := Lib.hid hrow
 clear hfs hrow
 obtain ⟨i0, hi0, hz0, hz1, hz2⟩ := info_parts info8x
 have HI0 := Lib.hid hi0
 have HZ0 := Lib.hid hz0
 have HZ1 := Lib.hid hz1
 have HZ2 := Lib.hid hz2
 clear hi0 hz0 hz1 hz2
 have Hf := Lib.hid hf
 have Hq := Lib.hid hq
 have Hg := Lib.hid hg
 obtain ⟨kf, hkf⟩ : ∃ k : Array Value, (arL 16 f).toArray = k := ⟨_, rfl⟩
 obtain ⟨kq, hkq⟩ : ∃ k : Array Value, (arL 12 q).toArray = k := ⟨_, rfl⟩
 obtain ⟨kg, hkg⟩ : ∃ k : Array Value, (arL 16 g).toArray = k := ⟨_, rfl⟩
 obtain ⟨w1, hw1⟩ : ∃ V : World, V = w.alloc (.cells (arL 16 f).toArray 22) := ⟨_, rfl⟩
 have hs1 : w1.heap.size = w.heap.size + 1 := by rw [hw1]; simp
 have hBw1 : Below w.heap.size w w1 := by rw [hw1]; exact (Below.refl _ _).alloc (Nat.le_refl _) _
 have hfw1 : Ar w1 w.heap.size 16 f := by rw [hw1]; exact Ar.new w 16 f _
 obtain ⟨w2, hw2⟩ : ∃ V : World, V = w1.alloc (.cells (arL 12 q).toArray 23) := ⟨_, rfl⟩
 have hs2 : w2.heap.size = w.heap.size + 2 := by rw [hw2]; simp [hs1]
 have hBw2 : Below w.heap.size w w2 := by rw [hw2]; exact hBw1.alloc (by omega) _
 have hfw2 := hfw1.alloc (by omega) (.cells (arL 12 q).toArray 23)
 rw [← hw2] at hfw2
 have hqw2 : Ar w2 (w.heap.size + 1) 12 q := by rw [hw2, ← hs1]; exact Ar.new w1 12 q _
 obtain ⟨w3, hw3⟩ : ∃ V : World, V = w2.alloc (.cells (arL 16 g).toArray 22) := ⟨_, rfl⟩
 have hs3 : w3.heap.size = w.heap.size + 3 := by rw [hw3]; simp [hs2]
 have hBw3 : Below w.heap.size w w3 := by rw [hw3]; exact hBw2.alloc (by omega) _
 have hfw3 := hfw2.alloc (by omega) (.cells (arL 16 g).toArray 22)
 rw [← hw3] at hfw3
 have hqw3 := hqw2.alloc (by omega) (.cells (arL 16 g).toArray 22)
 rw [← hw3] at hqw3
 have hgw3 : Ar w3 (w.heap.size + 2) 16 g := by rw [hw3, ← hs2]; exact Ar.new w2 16 g _
 rw [hkf] at hw1
 rw [hkq] at hw2
 rw [hkg] at hw3
 rw [hkf, hkq, hkg]
 clear hkf hkq hkg hs hf hq hg
 go_enter Tryz.func6, Tryz.ntmps6
 go_upto_region 1 with fail
 rw [← hw1, ← hw2, ← hw3]
 clear hw1 hw2 hw3
 try simp only [Nat.add_assoc, Nat.reduceAdd]
 obtain ⟨gf, hgf⟩ : ∃ g : Nat, w.heap.size = g := ⟨_, rfl⟩
 obtain ⟨gq, hgq⟩ : ∃ g : Nat, w.heap.size + 1 = g := ⟨_, rfl⟩
 obtain ⟨gg, hgg⟩ : ∃ g : Nat, w.heap.size + 2 = g := ⟨_, rfl⟩
 rw [hgf] at hfw3
 rw [hgq] at hqw3
 rw [hgg] at hgw3
 try rw [hgg]
 try rw [hgq]
 try simp only [hgf]
 have hlf : w.heap.size ≤ gf := by omega
 have hlq : w.heap.size ≤ gq := by omega
 have hlg : w.heap.size ≤ gg := by omega
 have hltq : gf < gq := by omega
 have hltg : gq < gg := by omega
 clear hgq hgg hs1 hs2 hs3
 go_wp2_with fail
 refine (oawake13 _ (HX.out.keep hBw3)).mono ?_
 rintro e x1 ⟨rfl, hq⟩
 have hfx1 := (hfw3).to (by omega) hq
 have hqx1 := (hqw3).to (by omega) hq
 have hgx1 := (hgw3).to (by omega) hq
 have hBx1 := hBw3.trans (hq.mono hBw3.size)
 clear hq hfw3 hqw3 hgw3 hBw3
 by_cases hgn : 100 < n
 ·have hhn : (100 : Int) < (n : Int) := by omega
  go_wp2_with fail
  refine (oawake13 _ (HX.out.keep hBx1)).mono ?_
  rintro e x2 ⟨rfl, hq⟩
  have hfx2 := (hfx1).to (by omega) hq
  have hqx2 := (hqx1).to (by omega) hq
  have hgx2 := (hgx1).to (by omega) hq
  have hBx2 := hBx1.trans (hq.mono hBx1.size)
  clear hq hfx1 hqx1 hgx1 hBx1
  go_wp2_with fail
  go_ret
  exact ⟨rfl, hBx2⟩
 ·have hhn : ¬ (100 : Int) < (n : Int) := by omega
  have hdn : decide ((100 : Int) < (n : Int)) = false := decide_eq_false hhn
  have z9 := run_zero16
  have hgd := Tryz.eqg16
  by_cases hg0 : ∀ j, j < 16 → g j = (fun _ => 0) j
  ·have heq := eq16_true hg0
   clear hg0
   go_wp2_with (first | (refine wpList_load_ar0W rfl _ _ rfl _ _ _ rfl hgx1 Tryz.arr16b (size16b _) ?_) | (refine wpList_build_byW rfl _ _ rfl [] rfl _ (z9 _) ?_))
   refine (oawake13 _ (HX.out.keep hBx1)).mono ?_
   rintro e x3 ⟨rfl, hq⟩
   have hfx3 := (hfx1).to (by omega) hq
   have hqx3 := (hqx1).to (by omega) hq
   have hgx3 := (hgx1).to (by omega) hq
   have hBx3 := hBx1.trans (hq.mono hBx1.size)
   clear hq hfx1 hqx1 hgx1 hBx1
   go_wp2_with fail
   go_ret
   exact ⟨rfl, hBx3⟩
  ·have heq := eq16_false hg0
   have HG0 := Lib.hid hg0
   clear hg0
   have hn6 := Lib.hid (show n ≤ 1000000 by omega)
   have hn2 := Lib.hid (show n ≤ 100 by omega)
   obtain ⟨s, hs0⟩ : ∃ s : Nat → Nat, enF f zF = s := ⟨_, rfl⟩
   have HS0 := Lib.hid hs0
   have HSL := Lib.hid (show B16 s by rw [← hs0]; exact enR_lt Hf.out zF_lt 10)
   clear hs0
   go_wp2_with (first | (refine wpList_load_ar rfl _ _ rfl _ _ _ rfl hfx1 Tryz.arr16b (size16b _) ?_) | (refine wpList_load_ar0W rfl _ _ rfl _ _ _ rfl hgx1 Tryz.arr16b (size16b _) ?_) | (refine wpList_build_byW rfl _ _ rfl [] rfl _ (z9 _) ?_))
   refine (fnew f _ Hf.out (HX.out.keep hBx1)).mono ?_
   rintro e x4 ⟨gC, rfl, hgC, hCx4, hq⟩
   have hfx4 := (hfx1).to (by omega) hq
   have hqx4 := (hqx1).to (by omega) hq
   have hgx4 := (hgx1).to (by omega) hq
   have hBx4 := hBx1.trans (hq.mono hBx1.size)
   clear hq hfx1 hqx1 hgx1 hBx1
   go_wp2_with fail
   refine (tnew (some ⟨gC, 0, none⟩) f _ Hf.out (exp_made gC f _ hCx4) (HX.out.keep hBx4)).mono ?_
   rintro e x5 ⟨gT, rfl, hgT, hTx5, hq⟩
   rw [HS0.out] at hTx5
   have hfx5 := (hfx4).to (by omega) hq
   have hqx5 := (hqx4).to (by omega) hq
   have hgx5 := (hgx4).to (by omega) hq
   have hCx5 := (hCx4).to hq
   have hBx5 := hBx4.trans (hq.mono hBx4.size)
   clear hq hfx4 hqx4 hgx4 hCx4 hBx4
   clear hhn hgn heq z9 hdn
   obtain ⟨a, ha⟩ : ∃ a : Nat → Nat, o0F (enF f (nbF q)) (q 11) = a := ⟨_, rfl⟩
   have HA := Lib.hid ha
   have HAB := Lib.hid (show B16 a by rw [← ha]; exact o0F_lt (enR_lt Hf.out (nbF_lt Hq.out) 10) _)
   clear ha
   obtain ⟨N9, hN9⟩ : ∃ N : Nat, n + 16 = N := ⟨_, rfl⟩
   have HN9 := Lib.hid hN9
   have HN2 := Lib.hid (show N9 ≤ 116 ∧ 0 < N9 by have := hn2.out; omega)
   have HCO := Lib.hid (tag_no (R := seL f s a l (tgF f s (csF l) (ofF s a n) [])) Hf.out HSL.out HAB.out HLEN.out rfl (tgF_lt Hf.out HSL.out (csF_lt l) (ofF_lt HSL.out HAB.out n) []) Hg.out HG0.out rfl)
   obtain ⟨R9, hR9⟩ : ∃ r, seL f s a l (tgF f s (csF l) (ofF s a n) []) = r := ⟨_, rfl⟩
   have HR9 := Lib.hid hR9
   rw [hR9, hN9] at HCO
   clear hR9 hN9
   go_upto_region 4 with fail
   refine wp_region_noPanic ?_
   refine wp_region_held_drew (S := fun W => Ci W gC (f) ∧ Ar W gf 16 (f) ∧ Ar W gq 12 (q) ∧ Ti W gT (some ⟨gC, 0, none⟩) (s) ∧ Ar W gg 16 (g) ∧ Below w.heap.size w W) (by kernel_rfl) ⟨hCx5.drew, hfx5.drew, hqx5.drew, hTx5.drew, hgx5.drew, hBx5.drew⟩ (fun hHeld => ?_)
   clear hCx5 hfx5 hqx5 hTx5 hgx5 hBx5 
   generalize World.drew x5 = td at *
   refine tk 0 (.agg (arL 16 (f)).toArray) rfl (yieldsIf_load_mid (by rfl) _ _ rfl gf (0) rfl (arL 16 (f)) _ (fun W hSw => hSw.2.1.range) Tryz.arr16b rfl (size16b _)) ?_
   simp only [Act.put, nrm]
   refine tk 2 (.agg (arL 12 (q)).toArray) rfl (yieldsIf_load_mid (by rfl) _ _ rfl gq (0) rfl (arL 12 (q)) _ (fun W hSw => hSw.2.2.1.range) Tryz.arr12 rfl (size12 _)) ?_
   simp only [Act.put, nrm]
   refine tw 3 ?vt1 rfl ?hyt1 ?restt1
   case hyt1 =>
    intro W hSw
    go_simp
    try with_reducible rfl
   simp only [Act.put, nrm]
   refine rd 1 rfl (fun K hK => ?_)
   go_simp
   refine (refprepare f _ Hf.out).mono ?_
   rintro e t2 ⟨rfl, hq⟩
   go_wp2_with fail
   refine hK.out _ _ ⟨(hHeld.1).to hq, (hHeld.2.1).to (by omega) hq, (hHeld.2.2.1).to (by omega) hq, (hHeld.2.2.2.1).to hq, (hHeld.2.2.2.2.1).to (by omega) hq, (hHeld.2.2.2.2.2).trans (hq.mono (hHeld.2.2.2.2.2).size)⟩ ?_
   clear hK K hHeld hq
   intro hHeld
   try simp only [Act.put, nrm]
   refine rd 4 rfl (fun K hK => ?_)
   go_simp
   refine (rseal f q s a none 0 0 [] A n c l _ Hf.out Hq.out HS0.out HA.out (sl_nil _ _) (Nat.le_refl _) (by omega) ((HSS.out.below (hHeld.2.2.2.2.2)).more (hHeld.2.2.2.2.2).size) HNC.out hn6.out).mono ?_
   rintro e t3 ⟨A8, c8, rfl, hO8, hq⟩
   rw [HR9.out, HN9.out] at hO8
   rw [HN9.out]
   obtain ⟨gv, rfl, hbg, hc8, hvt3⟩ := own_ar hO8 HN2.out.2
   have hlvC : gC < gv := Nat.lt_of_lt_of_le (hHeld.1.lt) hbg
   have hlvf : gf < gv := Nat.lt_of_lt_of_le (hHeld.2.1.lt (by omega)) hbg
   have hlvq : gq < gv := Nat.lt_of_lt_of_le (hHeld.2.2.1.lt (by omega)) hbg
   have hlvT : gT < gv := Nat.lt_of_lt_of_le (hHeld.2.2.2.1.lt) hbg
   have hlvg : gg < gv := Nat.lt_of_lt_of_le (hHeld.2.2.2.2.1.lt (by omega)) hbg
   have hlvw : w.heap.size ≤ gv := Nat.le_trans (hHeld.2.2.2.2.2.size) hbg
   have HC8 := Lib.hid hc8
   clear hO8 hbg hc8
   go_wp2_with fail
   refine hK.out _ _ ⟨(hHeld.1).to hq, (hHeld.2.1).to (by omega) hq, (hHeld.2.2.1).to (by omega) hq, (hHeld.2.2.2.1).to hq, (hHeld.2.2.2.2.1).to (by omega) hq, (hHeld.2.2.2.2.2).trans (hq.mono (hHeld.2.2.2.2.2).size)⟩ ?_
   clear hK K hHeld hq
   intro hHeld
   try simp only [Act.put, nrm]
   refine tw 5 ?vt4 rfl ?hyt4 ?restt4
   case hyt4 =>
    intro W hSw
    go_simp
    try with_reducible rfl
   simp only [Act.put, nrm]
   refine wpAnyH_done (by kernel_rfl) ?_ _
   have hCz4 := hHeld.1
   have hfz4 := hHeld.2.1
   have hqz4 := hHeld.2.2.1
   have hTz4 := hHeld.2.2.2.1
   have hgz4 := hHeld.2.2.2.2.1
   have hBz4 := hHeld.2.2.2.2.2
   have hvz4 := hvt3
   clear hHeld hvt3
   refine NoPanic.normal ?_
   try dsimp only [Act.put]
   go_wp2_with fail
   have hv9 := hvz4.ext (f' := chF R9 g n 0) (fun j _ => by unfold chF; rw [if_neg (by omega)])
   clear hvz4
   go_loopw [11] (fun i wr => ∃ (i0 : Nat), i0 ≤ 16 ∧ i = .int .i64 i0 ∧ Ar wr gf 16 (f) ∧ Ar wr gq 12 (q) ∧ Ar wr gg 16 (g) ∧ Ci wr gC (f) ∧ Ti wr gT (some ⟨gC, 0, none⟩) (s) ∧ Ar wr gv N9 (chF R9 g n i0) ∧ Below w.heap.size w wr) (fun i _ => 16 - (intOf i).toNat)
   case atStart => exact ⟨0, by omega, rfl, hfz4, hqz4, hgz4, hCz4, hTz4, hv9, hBz4⟩
   case round =>
    clear hv9 hfz4 hqz4 hgz4 hCz4 hTz4 hBz4
    obtain ⟨i, hi, rfl, hfwr, hqwr, hgwr, hCwr, hTwr, hvwr, hBwr⟩ := hrel
    by_cases hlt : i < 16
    ·have i1 : (i : Int) < 16 := by omega
     obtain ⟨p, hp⟩ : ∃ p : Nat, n + i = p := ⟨_, rfl⟩
     have HAF := Lib.hid (afacts hp HN9.out hlt (by have := hn2.out; omega))
     have HLT := Lib.hid hlt
     have HXX := Lib.hid (xor_n8 _ _ (lF_lt R9 p) (Hg.out i hlt))
     have HCV := Lib.hid (show chF R9 g n i p = lF R9 p by unfold chF; rw [if_neg (by omega)])
     have HSTP := Lib.hid (fun j => chF_step R9 g n i j)
     rw [hp] at HSTP
     obtain ⟨x, hx⟩ : ∃ u, lF R9 p = u := ⟨_, rfl⟩
     rw [hx] at HXX HCV HSTP
     obtain ⟨yg, hyg⟩ : ∃ u, g i = u := ⟨_, rfl⟩
     have HGI := Lib.hid hyg
     rw [hyg] at HXX HSTP
     obtain ⟨z, hz0⟩ : ∃ u, x ^^^ yg = u := ⟨_, rfl⟩
     rw [hz0] at HXX HSTP
     have HIF := Lib.hid (rfacts (k := i) rfl (by omega))
     clear hx hyg hz0 hp
     go_upto_region 8 with fail
     refine wp_region_noPanic ?_
     have hvud := hvwr.drew
     refine wp_region_held_drew (S := fun W => Ar W gf 16 (f) ∧ Ar W gq 12 (q) ∧ Ar W gg 16 (g) ∧ Ci W gC (f) ∧ Ti W gT (some ⟨gC, 0, none⟩) (s) ∧ Below w.heap.size w W) (by kernel_rfl) ⟨hfwr.drew, hqwr.drew, hgwr.drew, hCwr.drew, hTwr.drew, hBwr.drew⟩ (fun hHeld => ?_)
     clear hfwr hqwr hgwr hCwr hTwr hBwr hvwr
     generalize World.drew wr = ud at *
     refine tw 0 ?vu1 rfl ?hyu1 ?restu1
     case hyu1 =>
      intro W hSw
      go_simp
      try with_reducible rfl
     simp only [Act.put, nrm]
     refine tw 1 ?vu2 rfl ?hyu2 ?restu2
     case hyu2 =>
      intro W hSw
      go_simp
      try with_reducible rfl
     simp only [Act.put, nrm]
     refine tw 2 ?vu3 rfl ?hyu3 ?restu3
     case hyu3 =>
      intro W hSw
      go_simp
      try with_reducible rfl
     simp only [Act.put, nrm]
     refine tw 3 ?vu4 rfl ?hyu4 ?restu4
     case hyu4 =>
      intro W hSw
      go_simp
      try with_reducible rfl
     simp only [Act.put, nrm]
     refine tw 4 ?vu5 rfl ?hyu5 ?restu5
     case hyu5 =>
      intro W hSw
      obtain ⟨m1, m2, m3, m4, m5, m6⟩ := HAF.out
      go_simp
      try with_reducible rfl
     simp only [Act.put, nrm]
     refine tw 5 ?vu6 rfl ?hyu6 ?restu6
     case hyu6 =>
      intro W hSw
      go_simp
      try with_reducible rfl
     simp only [Act.put, nrm]
     refine tw 6 ?vu7 rfl ?hyu7 ?restu7
     case hyu7 =>
      intro W hSw
      go_simp
      try with_reducible rfl
     simp only [Act.put, nrm]
     refine tw 7 ?vu8 rfl ?hyu8 ?restu8
     case hyu8 =>
      intro W hSw
      go_simp
      try with_reducible rfl
     simp only [Act.put, nrm]
     refine tw 8 ?vu9 rfl ?hyu9 ?restu9
     case hyu9 =>
      intro W hSw
      go_simp
      try with_reducible rfl
     simp only [Act.put, nrm]
     refine tw 9 ?vu10 rfl ?hyu10 ?restu10
     case hyu10 =>
      intro W hSw
      obtain ⟨m1, m2, m3, m4, m5, m6⟩ := HAF.out
      go_simp
      try with_reducible rfl
     simp only [Act.put, nrm]
     refine tw 10 ?vu11 rfl ?hyu11 ?restu11
     case hyu11 =>
      intro W hSw
      obtain ⟨m1, m2, m3, m4, m5, m6⟩ := HAF.out
      go_simp
      try with_reducible rfl
     simp only [Act.put, nrm]
     refine tw 12 ?vu12 rfl ?hyu12 ?restu12
     case hyu12 =>
      intro W hSw
      go_simp
      try with_reducible rfl
     simp only [Act.put, nrm]
     refine tw 13 ?vu13 rfl ?hyu13 ?restu13
     case hyu13 =>
      intro W hSw
      have i9 := HLT.out
      have i8 : (i : Int) < 16 := by omega
      go_simp
      try with_reducible rfl
     simp only [Act.put, nrm]
     refine tw 14 ?vu14 rfl ?hyu14 ?restu14
     case hyu14 =>
      intro W hSw
      have cG := (hSw.2.2.1 i HLT.out).1
      rw [HGI.out] at cG
      go_simp
      try with_reducible rfl
     simp only [Act.put, nrm]
     refine rd 11 rfl (fun K hK => ?_)
     have cF := (hvud p HAF.out.2.2.2.2.2).1
     rw [HCV.out] at cF
     go_simp
     refine hK.out _ _ hHeld ?_
     clear hK K hHeld cF
     intro hHeld
     try simp only [Act.put, nrm]
     refine tw 15 ?vu15 rfl ?hyu15 ?restu15
     case hyu15 =>
      intro W hSw
      have hxx := HXX.out
      go_simp
      try with_reducible rfl
     simp only [Act.put, nrm]
     refine tw 16 ?vu16 rfl ?hyu16 ?restu16
     case hyu16 =>
      intro W hSw
      obtain ⟨m1, m2, m3, m4, m5, m6⟩ := HAF.out
      go_simp
      try with_reducible rfl
     simp only [Act.put, nrm]
     refine rd 17 rfl (fun K hK => ?_)
     have cF := (hvud p HAF.out.2.2.2.2.2).1
     have fF := (hvud p HAF.out.2.2.2.2.2).2
     obtain ⟨m1, m2, m3, m4, m5, m6⟩ := HAF.out
     go_simp
     clear cF fF m1 m2 m3 m4 m5 m6
     have hvu17 := (hvud.set (j := p) (v := z) HAF.out.2.2.2.2.2 rfl).ext (f' := chF R9 g n (i + 1)) (fun j _ => HSTP.out j)
     have hSu17 := show Ar (World.setCell ud ⟨gv, p, none⟩ (.int .u8 ((z : Nat) : Int))) gf 16 (f) ∧ Ar (World.setCell ud ⟨gv, p, none⟩ (.int .u8 ((z : Nat) : Int))) gq 12 (q) ∧ Ar (World.setCell ud ⟨gv, p, none⟩ (.int .u8 ((z : Nat) : Int))) gg 16 (g) ∧ Ci (World.setCell ud ⟨gv, p, none⟩ (.int .u8 ((z : Nat) : Int))) gC (f) ∧ Ti (World.setCell ud ⟨gv, p, none⟩ (.int .u8 ((z : Nat) : Int))) gT (some ⟨gC, 0, none⟩) (s) ∧ Below w.heap.size w (World.setCell ud ⟨gv, p, none⟩ (.int .u8 ((z : Nat) : Int))) from ⟨(hHeld.1).keep (show gf < gv from hlvf) (Below.setCell (Below.refl gv ud) (p := ⟨gv, p, none⟩) (Nat.le_refl _) (.int .u8 ((z : Nat) : Int))), (hHeld.2.1).keep (show gq < gv from hlvq) (Below.setCell (Below.refl gv ud) (p := ⟨gv, p, none⟩) (Nat.le_refl _) (.int .u8 ((z : Nat) : Int))), (hHeld.2.2.1).keep (show gg < gv from hlvg) (Below.setCell (Below.refl gv ud) (p := ⟨gv, p, none⟩) (Nat.le_refl _) (.int .u8 ((z : Nat) : Int))), (hHeld.2.2.2.1).keep (show gC < gv from hlvC) (Below.setCell (Below.refl gv ud) (p := ⟨gv, p, none⟩) (Nat.le_refl _) (.int .u8 ((z : Nat) : Int))), (hHeld.2.2.2.2.1).keep (show gT < gv from hlvT) (Below.setCell (Below.refl gv ud) (p := ⟨gv, p, none⟩) (Nat.le_refl _) (.int .u8 ((z : Nat) : Int))), (hHeld.2.2.2.2.2).setCell (p := ⟨gv, p, none⟩) (show w.heap.size ≤ gv from hlvw) (.int .u8 ((z : Nat) : Int))⟩
     generalize World.setCell ud ⟨gv, p, none⟩ (.int .u8 ((z : Nat) : Int)) = u17 at *
     refine hK.out _ _ hSu17 ?_
     clear hK K hHeld hSu17 hvud
     intro hHeld
     try simp only [Act.put]
     refine wpAnyH_done (by kernel_rfl) ?_ _
     have hfz8 := hHeld.1
     have hqz8 := hHeld.2.1
     have hgz8 := hHeld.2.2.1
     have hCz8 := hHeld.2.2.2.1
     have hTz8 := hHeld.2.2.2.2.1
     have hBz8 := hHeld.2.2.2.2.2
     have hvz8 := hvu17
     clear hHeld hvu17
     refine NoPanic.normal ?_
     try dsimp only [Act.put]
     go_wp2_with fail
     go_roundw
     case rel => exact ⟨i + 1, by omega, by first | go_num | (rw [HIF.out.2.1]; rfl), hfz8, hqz8, hgz8, hCz8, hTz8, hvz8, hBz8⟩
     case measure => (try rw [HIF.out.2.1]); simp [intOf]; have := HLT.out; omega
    ·have e : i = 16 := by omega
     subst e
     have hN9p : 0 < N9 := HN2.out.2
     have i1 : ¬ (16 : Int) < 16 := by omega
     clear hi hlt
     have hvb := Lib.hid (fun j (hj : j < N9) => chF_lt (R := R9) Hg.out n 16 j (Nat.le_refl _))
     obtain ⟨F9, hF9⟩ : ∃ u, chF R9 g n 16 = u := ⟨_, rfl⟩
     rw [hF9] at HCO hvb hvwr
     clear hF9
     have HP0 := Lib.hid (opL_no (f := f) (s := s) (a := a) (d := []) (l := liB N9 F9) (by rw [HCO.out]; decide))
     go_wp2_with (refine wpList_load_ar rfl _ _ rfl _ _ _ rfl hqwr Tryz.arr12 (size12 _) ?_)
     refine (oopen (some ⟨gT, 0, none⟩) f s q a none 0 0 [] (some ⟨gv, 0, none⟩) N9 c8 (liB N9 F9) [] 3 _ Hf.out HS0.out Hq.out HA.out (sl_nil _ _) (Nat.le_refl _) (by omega) (Sl.of_fun (o := 0) hvb.out (fun j hj => by rw [Nat.zero_add]; exact (hvwr j hj).1) (hvwr.lt HN2.out.2)) HC8.out (by have := HN2.out; omega) HCO.out HP0.out (wtabo gT gC f s _ HS0.out (hTwr) (hCwr)) (HX.out.keep hBwr)).mono ?_
     rintro e x6 ⟨A3, c3, rfl, _, _, hq⟩
     rw [errV3]
     have hfx6 := (hfwr).to (by omega) hq
     have hqx6 := (hqwr).to (by omega) hq
     have hgx6 := (hgwr).to (by omega) hq
     have hCx6 := (hCwr).to hq
     have hTx6 := (hTwr).to hq
     have hvx6 := (hvwr).to (by omega) hq
     have hBx6 := hBwr.trans (hq.mono hBwr.size)
     clear hq hfwr hqwr hgwr hCwr hTwr hvwr hBwr
     have hq1 := eqCode1
     have hq3 := eqCode3
     go_wp2_with (refine wpList_load_ar0W rfl _ _ rfl _ _ _ rfl hqx6 Tryz.arr12 (size12 _) ?_)
     refine (oright (some ⟨gT, 0, none⟩) f s q a none 0 0 [] (some ⟨gv, 0, none⟩) N9 c8 (liB N9 F9) [] 3 _ Hf.out HS0.out Hq.out HA.out (sl_nil _ _) (Nat.le_refl _) (by omega) (Sl.of_fun (o := 0) hvb.out (fun j hj => by rw [Nat.zero_add]; exact (hvx6 j hj).1) (hvx6.lt HN2.out.2)) HC8.out (by have := HN2.out; omega) HCO.out HP0.out (wtabo gT gC f s _ HS0.out (hTx6) (hCx6)) (HX.out.keep hBx6)).mono ?_
     rintro e x7 ⟨rfl, hq⟩
     rw [show decide (3 = 0) = false from rfl]
     have hfx7 := (hfx6).to (by omega) hq
     have hqx7 := (hqx6).to (by omega) hq
     have hgx7 := (hgx6).to (by omega) hq
     have hCx7 := (hCx6).to hq
     have hTx7 := (hTx6).to hq
     have hvx7 := (hvx6).to (by omega) hq
     have hBx7 := hBx6.trans (hq.mono hBx6.size)
     clear hq hfx6 hqx6 hgx6 hCx6 hTx6 hvx6 hBx6
     go_wp2_with fail
     go_ret
     exact ⟨rfl, hBx7⟩
end Go.Proofs.YthfnpjjckpnfbaaGreatDoor
