/-
 The walk of the law OpenInverts of layer 13: for every key and every nonce, all data and all bytes it returns true, and writes nothing that was there.
-/
import Derived.Test.YthfnpjjckpnfbaaGreatDoorSqz
import Derived.Test.YthfnpjjckpnfbaaGreatDoorOpi
import Derived.Deep.RegionHeld3
namespace Go.Proofs.YthfnpjjckpnfbaaGreatDoor
open Go.RowKit
set_option linter.unusedVariables false
set_option maxRecDepth 100000
set_option linter.unusedSimpArgs false

set_option maxHeartbeats 8000000 in
theorem oinverts (f : Nat → Nat) (q : Nat → Nat) (D : Option Addr) (m cd : Nat) (d : List UInt8) (A : Option Addr) (n c : Nat) (l : List UInt8) (w : World) (hf : ∀ j, j < 16 → f j < 256) (hq : ∀ j, j < 12 → q j < 256) (hD : Sl w w.heap.size D m d) (hmc : m ≤ cd) (hcd : cd ≤ maxLen) (hS : Sl w w.heap.size A n l) (hnc : n ≤ c) (hcm : c ≤ maxLen) (hs : Boxes w) :
  Calls Tryz.prog 4 #[.agg (arL 16 f).toArray, .agg (arL 12 q).toArray, .slice D m cd, .slice A n c] w fun e w' => e = .returned (.bool true) ∧ Below w.heap.size w w' := by
 have HX := Lib.hid hs
 have hz := zero16b
 have hz12 := zero12
 have hzK := zeroK
 have z0 := run_zero16
 have hlen := hS.len
 have HLEN := Lib.hid hlen
 have hdlen := hD.len
 have HDLEN := Lib.hid hdlen
 have HSS := Lib.hid hS
 have HDD := Lib.hid hD
 have HNC := Lib.hid hnc
 have HMC := Lib.hid hmc
 have hn63 : n ≤ 9223372036854775807 := by have h := hcm; simp [maxLen] at h; omega
 have hm63 : m ≤ 9223372036854775807 := by have h := hcd; simp [maxLen] at h; omega
 clear hlen hdlen hS hD hnc hmc hcm hcd
 obtain ⟨dK, hfs, hrow⟩ := Tryz.structK
 have HS := Lib.hid hfs
 have HW := Lib.hid hrow
 clear hfs hrow
 obtain ⟨i0, hi0, hz0, hz1, hz2⟩ := info_parts info8x
 have HI0 := Lib.hid hi0
 have HZ0 := Lib.hid hz0
 have HZ1 := Lib.hid hz1
 have HZ2 := Lib.hid hz2
 clear hi0 hz0 hz1 hz2
 have Hf := Lib.hid hf
 have Hq := Lib.hid hq
 obtain ⟨kf, hkf⟩ : ∃ k : Array Value, (arL 16 f).toArray = k := ⟨_, rfl⟩
 obtain ⟨kq, hkq⟩ : ∃ k : Array Value, (arL 12 q).toArray = k := ⟨_, rfl⟩
 obtain ⟨w1, hw1⟩ : ∃ V : World, V = w.alloc (.cells (arL 16 f).toArray 22) := ⟨_, rfl⟩
 have hs1 : w1.heap.size = w.heap.size + 1 := by rw [hw1]; simp
 have hBw1 : Below w.heap.size w w1 := by rw [hw1]; exact (Below.refl _ _).alloc (Nat.le_refl _) _
 have hfw1 : Ar w1 w.heap.size 16 f := by rw [hw1]; exact Ar.new w 16 f _
 obtain ⟨w2, hw2⟩ : ∃ V : World, V = w1.alloc (.cells (arL 12 q).toArray 23) := ⟨_, rfl⟩
 have hs2 : w2.heap.size = w.heap.size + 2 := by rw [hw2]; simp [hs1]
 have hBw2 : Below w.heap.size w w2 := by rw [hw2]; exact hBw1.alloc (by omega) _
 have hfw2 := hfw1.alloc (by omega) (.cells (arL 12 q).toArray 23)
 rw [← hw2] at hfw2
 have hqw2 : Ar w2 (w.heap.size + 1) 12 q := by rw [hw2, ← hs1]; exact Ar.new w1 12 q _
 rw [hkf] at hw1
 rw [hkq] at hw2
 rw [hkf, hkq]
 clear hkf hkq hs hf hq
 go_enter Tryz.func4, Tryz.ntmps4
 go_upto_region 1 with fail
 rw [← hw1, ← hw2]
 clear hw1 hw2
 try simp only [Nat.add_assoc, Nat.reduceAdd]
 obtain ⟨gf, hgf⟩ : ∃ g : Nat, w.heap.size = g := ⟨_, rfl⟩
 obtain ⟨gq, hgq⟩ : ∃ g : Nat, w.heap.size + 1 = g := ⟨_, rfl⟩
 rw [hgf] at hfw2
 rw [hgq] at hqw2
 try rw [hgq]
 try simp only [hgf]
 have hlf : w.heap.size ≤ gf := by omega
 have hlq : w.heap.size ≤ gq := by omega
 have hltq : gf < gq := by omega
 clear hgq hs1 hs2
 go_wp2_with fail
 refine (oawake13 _ (HX.out.keep hBw2)).mono ?_
 rintro e x1 ⟨rfl, hq⟩
 have hfx1 := (hfw2).to (by omega) hq
 have hqx1 := (hqw2).to (by omega) hq
 have hBx1 := hBw2.trans (hq.mono hBw2.size)
 clear hq hfw2 hqw2 hBw2
 by_cases hgm : 100 < m
 ·have hhm : (100 : Int) < (m : Int) := by omega
  go_wp2_with fail
  refine (oawake13 _ (HX.out.keep hBx1)).mono ?_
  rintro e x2 ⟨rfl, hq⟩
  have hfx2 := (hfx1).to (by omega) hq
  have hqx2 := (hqx1).to (by omega) hq
  have hBx2 := hBx1.trans (hq.mono hBx1.size)
  clear hq hfx1 hqx1 hBx1
  go_wp2_with fail
  go_ret
  exact ⟨rfl, hBx2⟩
 ·have hhm : ¬ (100 : Int) < (m : Int) := by omega
  by_cases hgn : 150 < n
  ·have hhn : (150 : Int) < (n : Int) := by omega
   go_wp2_with fail
   refine (oawake13 _ (HX.out.keep hBx1)).mono ?_
   rintro e x3 ⟨rfl, hq⟩
   have hfx3 := (hfx1).to (by omega) hq
   have hqx3 := (hqx1).to (by omega) hq
   have hBx3 := hBx1.trans (hq.mono hBx1.size)
   clear hq hfx1 hqx1 hBx1
   go_wp2_with fail
   go_ret
   exact ⟨rfl, hBx3⟩
  ·have hhn : ¬ (150 : Int) < (n : Int) := by omega
   have hn6 := Lib.hid (show n ≤ 1000000 by omega)
   have hm6 := Lib.hid (show m ≤ 1000000 by omega)
   have hn2 := Lib.hid (show n ≤ 150 by omega)
   obtain ⟨s, hs0⟩ : ∃ s : Nat → Nat, enF f zF = s := ⟨_, rfl⟩
   have HS0 := Lib.hid hs0
   have HSL := Lib.hid (show B16 s by rw [← hs0]; exact enR_lt Hf.out zF_lt 10)
   clear hs0
   go_wp2_with (refine wpList_load_ar rfl _ _ rfl _ _ _ rfl hfx1 Tryz.arr16b (size16b _) ?_)
   refine (fnew f _ Hf.out (HX.out.keep hBx1)).mono ?_
   rintro e x4 ⟨gC, rfl, hgC, hCx4, hq⟩
   have hfx4 := (hfx1).to (by omega) hq
   have hqx4 := (hqx1).to (by omega) hq
   have hBx4 := hBx1.trans (hq.mono hBx1.size)
   clear hq hfx1 hqx1 hBx1
   go_wp2_with fail
   refine (tnew (some ⟨gC, 0, none⟩) f _ Hf.out (exp_made gC f _ hCx4) (HX.out.keep hBx4)).mono ?_
   rintro e x5 ⟨gT, rfl, hgT, hTx5, hq⟩
   rw [HS0.out] at hTx5
   have hfx5 := (hfx4).to (by omega) hq
   have hqx5 := (hqx4).to (by omega) hq
   have hCx5 := (hCx4).to hq
   have hBx5 := hBx4.trans (hq.mono hBx4.size)
   clear hq hfx4 hqx4 hCx4 hBx4
   clear hhm hhn hgm hgn hn63 hm63
   obtain ⟨a, ha⟩ : ∃ a : Nat → Nat, o0F (enF f (nbF q)) (q 11) = a := ⟨_, rfl⟩
   have HA := Lib.hid ha
   have HAB := Lib.hid (show B16 a by rw [← ha]; exact o0F_lt (enR_lt Hf.out (nbF_lt Hq.out) 10) _)
   clear ha
   have HOP := Lib.hid (show opC f s a d (seL f s a l (tgF f s (csF l) (ofF s a n) d)) = 0 ∧ opL f s a d (seL f s a l (tgF f s (csF l) (ofF s a n) d)) = l by have h := op_se (d := d) Hf.out HSL.out HAB.out l; rw [HLEN.out] at h; exact h)
   obtain ⟨R9, hR9⟩ : ∃ r, seL f s a l (tgF f s (csF l) (ofF s a n) d) = r := ⟨_, rfl⟩
   have HR9 := Lib.hid hR9
   rw [hR9] at HOP
   clear hR9
   go_upto_region 4 with fail
   refine wp_region_noPanic ?_
   refine wp_region_held_drew (S := fun W => Ci W gC (f) ∧ Ar W gf 16 (f) ∧ Ar W gq 12 (q) ∧ Ti W gT (some ⟨gC, 0, none⟩) (s) ∧ Below w.heap.size w W) (by kernel_rfl) ⟨hCx5.drew, hfx5.drew, hqx5.drew, hTx5.drew, hBx5.drew⟩ (fun hHeld => ?_)
   clear hCx5 hfx5 hqx5 hTx5 hBx5 
   generalize World.drew x5 = td at *
   refine tk 0 (.agg (arL 16 (f)).toArray) rfl (yieldsIf_load_mid (by rfl) _ _ rfl gf (0) rfl (arL 16 (f)) _ (fun W hSw => hSw.2.1.range) Tryz.arr16b rfl (size16b _)) ?_
   simp only [Act.put, nrm]
   refine tk 2 (.agg (arL 12 (q)).toArray) rfl (yieldsIf_load_mid (by rfl) _ _ rfl gq (0) rfl (arL 12 (q)) _ (fun W hSw => hSw.2.2.1.range) Tryz.arr12 rfl (size12 _)) ?_
   simp only [Act.put, nrm]
   refine tw 3 ?vt1 rfl ?hyt1 ?restt1
   case hyt1 =>
    intro W hSw
    go_simp
    try with_reducible rfl
   simp only [Act.put, nrm]
   refine tw 4 ?vt2 rfl ?hyt2 ?restt2
   case hyt2 =>
    intro W hSw
    go_simp
    try with_reducible rfl
   simp only [Act.put, nrm]
   refine rd 1 rfl (fun K hK => ?_)
   go_simp
   refine (refprepare f _ Hf.out).mono ?_
   rintro e t3 ⟨rfl, hq⟩
   go_wp2_with fail
   refine hK.out _ _ ⟨(hHeld.1).to hq, (hHeld.2.1).to (by omega) hq, (hHeld.2.2.1).to (by omega) hq, (hHeld.2.2.2.1).to hq, (hHeld.2.2.2.2).trans (hq.mono (hHeld.2.2.2.2).size)⟩ ?_
   clear hK K hHeld hq
   intro hHeld
   try simp only [Act.put, nrm]
   refine rd 5 rfl (fun K hK => ?_)
   go_simp
   refine (rseal f q s a D m cd d A n c l _ Hf.out Hq.out HS0.out HA.out ((HDD.out.below (hHeld.2.2.2.2)).more (hHeld.2.2.2.2).size) HMC.out hm6.out ((HSS.out.below (hHeld.2.2.2.2)).more (hHeld.2.2.2.2).size) HNC.out hn6.out).mono ?_
   rintro e t4 ⟨A8, c8, rfl, hO8, hq⟩
   have hv0 := Sl.of_own hO8
   rw [HR9.out] at hv0
   obtain ⟨gv, hgv⟩ : ∃ g, t4.heap.size - 1 = g := ⟨_, rfl⟩
   have hvt4 : Sy t4 gv A8 (n + 16) R9 := by rw [← hgv]; exact Sy.new hv0 (Nat.lt_of_lt_of_le (Nat.zero_lt_of_lt hHeld.1.lt) hq.size)
   clear hv0 hO8 hgv
   go_wp2_with fail
   refine hK.out _ _ ⟨(hHeld.1).to hq, (hHeld.2.1).to (by omega) hq, (hHeld.2.2.1).to (by omega) hq, (hHeld.2.2.2.1).to hq, (hHeld.2.2.2.2).trans (hq.mono (hHeld.2.2.2.2).size)⟩ ?_
   clear hK K hHeld hq
   intro hHeld
   try simp only [Act.put, nrm]
   refine tw 6 ?vt5 rfl ?hyt5 ?restt5
   case hyt5 =>
    intro W hSw
    go_simp
    try with_reducible rfl
   simp only [Act.put, nrm]
   refine wpAnyH_done (by kernel_rfl) ?_ _
   have hCz4 := hHeld.1
   have hfz4 := hHeld.2.1
   have hqz4 := hHeld.2.2.1
   have hTz4 := hHeld.2.2.2.1
   have hBz4 := hHeld.2.2.2.2
   have hvz4 := hvt4
   clear hHeld hvt4
   refine NoPanic.normal ?_
   try dsimp only [Act.put]
   obtain ⟨z4, rfl⟩ : ∃ V : World, V = t4 := ⟨_, rfl⟩
   have hOx := World.ownsRow_lit (base := z4.heap.size) (e := 5) (size := 1) z4 #[] 0 (Nat.le_refl _) (by simp [maxLen]) rfl
   have hslx := hvz4.sl.alloc (Nat.le_refl _) (.cells #[] 5)
   have hlen9 := hn2.out
   go_upto_region 6 with (first | (at_builtin; refine wpList_append_sl _ rfl _ _ 24 rfl z4.heap.size 5 i0 (.int .u8 0) Tryz.underlying24 HI0.out HZ0.out HZ1.out HZ2.out rfl _ 0 _ rfl hOx z4.heap.size A8 (n + 16) c8 (R9) rfl hslx (by omega) (by simp) ?_; intro v6 k6 hown6 hgrow6 _) | fail)
   have hq : Below z4.heap.size z4 k6 := ((Below.refl _ z4).alloc (Nat.le_refl _) _).grown hgrow6 (by simp) (fun g hg => own_block hOx hg)
   obtain ⟨Ax, cx, rfl⟩ := own_shape hown6
   have hown7 : k6.ownsRow z4.heap.size 5 1 (.slice Ax (n + 16) cx) (n + 16) ((R9).map b8) := by simpa using hown6
   have HCx := Lib.hid (own_capS hown7)
   have hx0 := Sl.of_own hown7
   simp only [Nat.zero_add]
   clear hlen9
   obtain ⟨gx, hgx⟩ : ∃ g, k6.heap.size - 1 = g := ⟨_, rfl⟩
   have hxk6 : Sy k6 gx Ax (n + 16) (R9) := by rw [← hgx]; exact Sy.new hx0 (Nat.lt_of_lt_of_le (Nat.zero_lt_of_lt (hCz4.lt)) hq.size)
   clear hx0 hgx
   have hfk6 := (hfz4).to (by omega) hq
   have hqk6 := (hqz4).to (by omega) hq
   have hCk6 := (hCz4).to hq
   have hTk6 := (hTz4).to hq
   have hvk6 := (hvz4).to hq
   have hBk6 := hBz4.trans (hq.mono hBz4.size)
   clear hq hown6 hown7 hgrow6 hOx hslx hfz4 hqz4 hCz4 hTz4 hvz4 hBz4
   go_wp2_with (refine wpList_load_ar rfl _ _ rfl _ _ _ rfl hqk6 Tryz.arr12 (size12 _) ?_)
   refine (oopen (some ⟨gT, 0, none⟩) f s q a D m cd d Ax (n + 16) cx R9 l 0 _ Hf.out HS0.out Hq.out HA.out ((HDD.out.below hBk6).more hBk6.size) HMC.out hm6.out hxk6.sl HCx.out (by have := hn2.out; omega) HOP.out.1 HOP.out.2 (wtabo gT gC f s _ HS0.out (hTk6) (hCk6)) (HX.out.keep hBk6)).mono ?_
   rintro e x7 ⟨A3, c3, rfl, hu0, hcu, hq⟩
   clear hcu
   rw [errV0, HLEN.out]
   rw [HLEN.out] at hu0
   obtain ⟨gu, hgu⟩ : ∃ g, x7.heap.size - 1 = g := ⟨_, rfl⟩
   have hux7 : Sy x7 gu A3 (n) (l) := by rw [← hgu]; exact Sy.new hu0 (Nat.lt_of_lt_of_le (Nat.zero_lt_of_lt (hCk6.lt)) hq.size)
   clear hu0 hgu
   have hfx7 := (hfk6).to (by omega) hq
   have hqx7 := (hqk6).to (by omega) hq
   have hCx7 := (hCk6).to hq
   have hTx7 := (hTk6).to hq
   have hvx7 := (hvk6).to hq
   have hxx7 := (hxk6).to hq
   have hBx7 := hBk6.trans (hq.mono hBk6.size)
   clear hq hfk6 hqk6 hCk6 hTk6 hvk6 hxk6 hBk6
   go_wp2_with fail
   refine (same_true A3 A n c3 c l _ hux7.sl ((HSS.out.below hBx7).more hBx7.size) (by have := hn6.out; omega)).mono ?_
   rintro e x8 ⟨rfl, hq⟩
   have hfx8 := (hfx7).to (by omega) hq
   have hqx8 := (hqx7).to (by omega) hq
   have hCx8 := (hCx7).to hq
   have hTx8 := (hTx7).to hq
   have hvx8 := (hvx7).to hq
   have hxx8 := (hxx7).to hq
   have hux8 := (hux7).to hq
   have hBx8 := hBx7.trans (hq.mono hBx7.size)
   clear hq hfx7 hqx7 hCx7 hTx7 hvx7 hxx7 hux7 hBx7
   go_wp2_with fail
   refine (same_true Ax A8 (n + 16) cx c8 R9 _ hxx8.sl hvx8.sl (by have := hn2.out; omega)).mono ?_
   rintro e x9 ⟨rfl, hq⟩
   have hfx9 := (hfx8).to (by omega) hq
   have hqx9 := (hqx8).to (by omega) hq
   have hCx9 := (hCx8).to hq
   have hTx9 := (hTx8).to hq
   have hvx9 := (hvx8).to hq
   have hxx9 := (hxx8).to hq
   have hux9 := (hux8).to hq
   have hBx9 := hBx8.trans (hq.mono hBx8.size)
   clear hq hfx8 hqx8 hCx8 hTx8 hvx8 hxx8 hux8 hBx8
   go_wp2_with fail
   go_ret
   exact ⟨rfl, hBx9⟩
end Go.Proofs.YthfnpjjckpnfbaaGreatDoor
