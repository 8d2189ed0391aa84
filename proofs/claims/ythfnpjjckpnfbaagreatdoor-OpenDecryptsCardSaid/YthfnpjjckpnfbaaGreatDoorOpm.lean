/-
 The walk of the law OpenDecrypts of layer 13: for every key and every nonce, and all bytes it returns true, and writes nothing that was there.
-/
import Derived.Test.YthfnpjjckpnfbaaGreatDoorOpi
import Derived.Deep.RegionHeld3
import Derived.Test.YthfnpjjckpnfbaaGreatDoorOpe
import Derived.Test.YthfnpjjckpnfbaaGreatDoorArg
namespace Go.Proofs.YthfnpjjckpnfbaaGreatDoor
open Go.RowKit
set_option linter.unusedVariables false
set_option maxRecDepth 100000
set_option linter.unusedSimpArgs false

set_option maxHeartbeats 8000000 in
theorem odecrypts (f : Nat → Nat) (q : Nat → Nat) (A : Option Addr) (n c : Nat) (l : List UInt8) (w : World) (hf : ∀ j, j < 16 → f j < 256) (hq : ∀ j, j < 12 → q j < 256) (hS : Sl w w.heap.size A n l) (hnc : n ≤ c) (hcm : c ≤ maxLen) (hs : Boxes w) :
  Calls Tryz.prog 5 #[.agg (arL 16 f).toArray, .agg (arL 12 q).toArray, .slice A n c] w fun e w' => e = .returned (.bool true) ∧ Below w.heap.size w w' := by
 have HX := Lib.hid hs
 have hz := zero16b
 have hz12 := zero12
 have hzK := zeroK
 have z0 := run_zero16
 have hlen := hS.len
 have HLEN := Lib.hid hlen
 have HSS := Lib.hid hS
 have HNC := Lib.hid hnc
 have hn63 : n ≤ 9223372036854775807 := by have h := hcm; simp [maxLen] at h; omega
 clear hlen hS hnc hcm
 have hzR := zeroR
 obtain ⟨dK, hfs, hrow⟩ := Tryz.structK
 have HS := Lib.hid hfs
 have HW := Lib.hid hrow
 clear hfs hrow
 obtain ⟨i0, hi0, hz0, hz1, hz2⟩ := info_parts info8x
 have HI0 := Lib.hid hi0
 have HZ0 := Lib.hid hz0
 have HZ1 := Lib.hid hz1
 have HZ2 := Lib.hid hz2
 clear hi0 hz0 hz1 hz2
 have Hf := Lib.hid hf
 have Hq := Lib.hid hq
 obtain ⟨kf, hkf⟩ : ∃ k : Array Value, (arL 16 f).toArray = k := ⟨_, rfl⟩
 obtain ⟨kq, hkq⟩ : ∃ k : Array Value, (arL 12 q).toArray = k := ⟨_, rfl⟩
 obtain ⟨w1, hw1⟩ : ∃ V : World, V = w.alloc (.cells (arL 16 f).toArray 22) := ⟨_, rfl⟩
 have hs1 : w1.heap.size = w.heap.size + 1 := by rw [hw1]; simp
 have hBw1 : Below w.heap.size w w1 := by rw [hw1]; exact (Below.refl _ _).alloc (Nat.le_refl _) _
 have hfw1 : Ar w1 w.heap.size 16 f := by rw [hw1]; exact Ar.new w 16 f _
 obtain ⟨w2, hw2⟩ : ∃ V : World, V = w1.alloc (.cells (arL 12 q).toArray 23) := ⟨_, rfl⟩
 have hs2 : w2.heap.size = w.heap.size + 2 := by rw [hw2]; simp [hs1]
 have hBw2 : Below w.heap.size w w2 := by rw [hw2]; exact hBw1.alloc (by omega) _
 have hfw2 := hfw1.alloc (by omega) (.cells (arL 12 q).toArray 23)
 rw [← hw2] at hfw2
 have hqw2 : Ar w2 (w.heap.size + 1) 12 q := by rw [hw2, ← hs1]; exact Ar.new w1 12 q _
 rw [hkf] at hw1
 rw [hkq] at hw2
 rw [hkf, hkq]
 clear hkf hkq hs hf hq
 go_enter Tryz.func5, Tryz.ntmps5
 go_upto_region 1 with fail
 rw [← hw1, ← hw2]
 clear hw1 hw2
 try simp only [Nat.add_assoc, Nat.reduceAdd]
 obtain ⟨gf, hgf⟩ : ∃ g : Nat, w.heap.size = g := ⟨_, rfl⟩
 obtain ⟨gq, hgq⟩ : ∃ g : Nat, w.heap.size + 1 = g := ⟨_, rfl⟩
 rw [hgf] at hfw2
 rw [hgq] at hqw2
 try rw [hgq]
 try simp only [hgf]
 have hlf : w.heap.size ≤ gf := by omega
 have hlq : w.heap.size ≤ gq := by omega
 have hltq : gf < gq := by omega
 clear hgq hs1 hs2
 go_wp2_with fail
 refine (oawake13 _ (HX.out.keep hBw2)).mono ?_
 rintro e x1 ⟨rfl, hq⟩
 have hfx1 := (hfw2).to (by omega) hq
 have hqx1 := (hqw2).to (by omega) hq
 have hBx1 := hBw2.trans (hq.mono hBw2.size)
 clear hq hfw2 hqw2 hBw2
 by_cases hgn : 150 < n
 ·have hhn : (150 : Int) < (n : Int) := by omega
  go_wp2_with fail
  refine (oawake13 _ (HX.out.keep hBx1)).mono ?_
  rintro e x2 ⟨rfl, hq⟩
  have hfx2 := (hfx1).to (by omega) hq
  have hqx2 := (hqx1).to (by omega) hq
  have hBx2 := hBx1.trans (hq.mono hBx1.size)
  clear hq hfx1 hqx1 hBx1
  go_wp2_with fail
  go_ret
  exact ⟨rfl, hBx2⟩
 ·have hhn : ¬ (150 : Int) < (n : Int) := by omega
  have hn6 := Lib.hid (show n ≤ 1000000 by omega)
  obtain ⟨s, hs0⟩ : ∃ s : Nat → Nat, enF f zF = s := ⟨_, rfl⟩
  have HS0 := Lib.hid hs0
  have HSL := Lib.hid (show B16 s by rw [← hs0]; exact enR_lt Hf.out zF_lt 10)
  clear hs0
  go_wp2_with (refine wpList_load_ar rfl _ _ rfl _ _ _ rfl hfx1 Tryz.arr16b (size16b _) ?_)
  refine (fnew f _ Hf.out (HX.out.keep hBx1)).mono ?_
  rintro e x3 ⟨gC, rfl, hgC, hCx3, hq⟩
  have hfx3 := (hfx1).to (by omega) hq
  have hqx3 := (hqx1).to (by omega) hq
  have hBx3 := hBx1.trans (hq.mono hBx1.size)
  clear hq hfx1 hqx1 hBx1
  go_wp2_with fail
  refine (tnew (some ⟨gC, 0, none⟩) f _ Hf.out (exp_made gC f _ hCx3) (HX.out.keep hBx3)).mono ?_
  rintro e x4 ⟨gT, rfl, hgT, hTx4, hq⟩
  rw [HS0.out] at hTx4
  have hfx4 := (hfx3).to (by omega) hq
  have hqx4 := (hqx3).to (by omega) hq
  have hCx4 := (hCx3).to hq
  have hBx4 := hBx3.trans (hq.mono hBx3.size)
  clear hq hfx3 hqx3 hCx3 hBx3
  clear hhn hgn hn63
  obtain ⟨a, ha⟩ : ∃ a : Nat → Nat, o0F (enF f (nbF q)) (q 11) = a := ⟨_, rfl⟩
  have HA := Lib.hid ha
  have HAB := Lib.hid (show B16 a by rw [← ha]; exact o0F_lt (enR_lt Hf.out (nbF_lt Hq.out) 10) _)
  clear ha
  go_wp2_with (refine wpList_load_ar rfl _ _ rfl _ _ _ rfl hfx4 Tryz.arr16b (size16b _) ?_)
  refine (refprepare f _ Hf.out).mono ?_
  rintro e x5 ⟨rfl, hq⟩
  have hfx5 := (hfx4).to (by omega) hq
  have hqx5 := (hqx4).to (by omega) hq
  have hCx5 := (hCx4).to hq
  have hTx5 := (hTx4).to hq
  have hBx5 := hBx4.trans (hq.mono hBx4.size)
  clear hq hfx4 hqx4 hCx4 hTx4 hBx4
  obtain ⟨gk, hgk⟩ : ∃ g : Nat, x5.heap.size = g := ⟨_, rfl⟩
  have hlgfgk : gf < gk := by rw [← hgk]; exact hfx5.lt (by omega)
  have hlgqgk : gq < gk := by rw [← hgk]; exact hqx5.lt (by omega)
  have hlgCgk : gC < gk := by rw [← hgk]; exact hCx5.lt
  have hlgTgk : gT < gk := by rw [← hgk]; exact hTx5.lt
  have hlwgk : w.heap.size ≤ gk := by rw [← hgk]; exact hBx5.size
  have hq : Below x5.heap.size x5 (x5.alloc (.cells (arL 432 fun _ => 0).toArray 39)) := (Below.refl _ _).alloc (Nat.le_refl _) _
  have hfx6a := (hfx5).to (by omega) hq
  have hqx6a := (hqx5).to (by omega) hq
  have hCx6a := (hCx5).to hq
  have hTx6a := (hTx5).to hq
  have hkx6a := Ar.new x5 432 (fun _ => 0) 39
  have hBx6a := hBx5.alloc hBx5.size (.cells (arL 432 fun _ => 0).toArray 39)
  rw [hgk] at hkx6a
  clear hq hfx5 hqx5 hCx5 hTx5 hBx5
  go_upto_region 5 with (first | (refine wpList_store_ar rfl _ _ _ rfl _ _ _ (pkF (ek f) sb) rfl rfl hkx6a (sizeK _) ?_; intro x6 hkx6 belx6 sizx6 keex6) | fail)
  have hfx6 := (hfx6a).keep hlgfgk belx6
  have hqx6 := (hqx6a).keep hlgqgk belx6
  have hCx6 := (hCx6a).keep hlgCgk belx6
  have hTx6 := (hTx6a).keep hlgTgk belx6
  have hBx6 := hBx6a.trans (belx6.mono hlwgk)
  clear hfx6a hqx6a hCx6a hTx6a hkx6a hBx6a belx6 sizx6 keex6 hgk
  try dsimp only [Act.put]
  obtain ⟨PL, hPL⟩ : ∃ P, dtL f s a l = P := ⟨_, rfl⟩
  have HPL := Lib.hid hPL
  have HPN := Lib.hid (show PL.length = n by rw [← hPL, dtL_len]; exact HLEN.out)
  have HCT := Lib.hid (show ctL f s a PL = l by rw [← hPL]; exact ct_dt Hf.out HSL.out HAB.out l)
  obtain ⟨G, hG⟩ : ∃ G, csF PL = G := ⟨_, rfl⟩
  obtain ⟨O, hO⟩ : ∃ O, ofF s a n = O := ⟨_, rfl⟩
  have HG := Lib.hid hG
  have HO := Lib.hid hO
  have hgb := Lib.hid (show B16 G by rw [← hG]; exact csF_lt PL)
  have hob := Lib.hid (show B16 O by rw [← hO]; exact ofF_lt HSL.out HAB.out n)
  clear hPL hG hO
  go_wp2_with (refine wpList_load_ar rfl _ _ rfl _ _ _ rfl hqx6 Tryz.arr12 (size12 _) ?_)
  refine (odec (some ⟨gT, 0, none⟩) f s q a A n c l _ Hf.out HS0.out Hq.out HA.out ((HSS.out.below hBx6).more hBx6.size) HNC.out hn6.out (wtabo gT gC f s _ HS0.out (hTx6) (hCx6)) (HX.out.keep hBx6)).mono ?_
  rintro e x7 ⟨A2, c2, rfl, hO8, hq⟩
  rw [HPL.out] at hO8 ⊢
  have HCC := Lib.hid (own_capS hO8)
  have hc0 := Sl.of_own hO8
  clear hO8
  rw [HG.out, HO.out]
  obtain ⟨gc, hgc⟩ : ∃ g, x7.heap.size - 1 = g := ⟨_, rfl⟩
  have hcx7 : Sy x7 gc A2 (n) (PL) := by rw [← hgc]; exact Sy.new hc0 (Nat.lt_of_lt_of_le (Nat.zero_lt_of_lt (hCx6.lt)) hq.size)
  clear hc0 hgc
  have hfx7 := (hfx6).to (by omega) hq
  have hqx7 := (hqx6).to (by omega) hq
  have hCx7 := (hCx6).to hq
  have hTx7 := (hTx6).to hq
  have hkx7 := (hkx6).to (by omega) hq
  have hBx7 := hBx6.trans (hq.mono hBx6.size)
  clear hq hfx6 hqx6 hCx6 hTx6 hkx6 hBx6
  obtain ⟨v8, hv8⟩ : ∃ V : World, V = x7.alloc (.cells (arL 16 fun _ => 0).toArray 22) := ⟨_, rfl⟩
  have hsv8 : v8.heap.size = x7.heap.size + 1 := by rw [hv8]; simp
  have hq : Below x7.heap.size x7 v8 := by rw [hv8]; exact (Below.refl _ _).alloc (Nat.le_refl _) _
  have hfv8 := (hfx7).to (by omega) hq
  have hqv8 := (hqx7).to (by omega) hq
  have hCv8 := (hCx7).to hq
  have hTv8 := (hTx7).to hq
  have hkv8 := (hkx7).to (by omega) hq
  have hcv8 := (hcx7).to hq
  have hBv8 := hBx7.trans (hq.mono hBx7.size)
  have hxv8 : Ar v8 x7.heap.size 16 (fun _ => 0) := by rw [hv8]; exact Ar.new x7 16 _ _
  have hlgfgx : gf < x7.heap.size := hfx7.lt (by omega)
  have hlgqgx : gq < x7.heap.size := hqx7.lt (by omega)
  have hlgCgx : gC < x7.heap.size := hCx7.lt
  have hlgTgx : gT < x7.heap.size := hTx7.lt
  have hlgkgx : gk < x7.heap.size := hkx7.lt (by omega)
  have hlgcgx : gc < x7.heap.size := hcx7.lt
  have hlwgx : w.heap.size ≤ x7.heap.size := hBx7.size
  clear hq hfx7 hqx7 hCx7 hTx7 hkx7 hcx7 hBx7
  obtain ⟨v9, hv9⟩ : ∃ V : World, V = v8.alloc (.cells (arL 16 fun _ => 0).toArray 22) := ⟨_, rfl⟩
  have hq : Below v8.heap.size v8 v9 := by rw [hv9]; exact (Below.refl _ _).alloc (Nat.le_refl _) _
  have hfv9 := (hfv8).to (by omega) hq
  have hqv9 := (hqv8).to (by omega) hq
  have hCv9 := (hCv8).to hq
  have hTv9 := (hTv8).to hq
  have hkv9 := (hkv8).to (by omega) hq
  have hcv9 := (hcv8).to hq
  have hxv9 := hxv8.to (by omega) hq
  have hBv9 := hBv8.trans (hq.mono hBv8.size)
  have hov9 : Ar v9 (x7.heap.size + 1) 16 (fun _ => 0) := by rw [hv9, ← hsv8]; exact Ar.new v8 16 _ _
  clear hq hsv8 hfv8 hqv8 hCv8 hTv8 hkv8 hcv8 hxv8 hBv8
  go_upto_region 6 with (first | (refine wpList_store_ar rfl _ _ _ rfl _ _ _ (G) rfl rfl (by rw [← hv8, ← hv9]; exact hxv9) (size16b _) ?_; intro x10 hxx10 bel8 siz8 kee8) | (refine wpList_store_ar rfl _ _ _ rfl _ _ _ (O) rfl rfl (kee8 _ _ _ (by omega) (by rw [← hv8, ← hv9]; exact hov9)) (size16b _) ?_; intro x11 hox11 bel9 siz9 kee9) | fail)
  rw [← hv8, ← hv9] at bel8
  obtain ⟨gx, hgx⟩ : ∃ g : Nat, x7.heap.size = g := ⟨_, rfl⟩
  obtain ⟨go, hgo⟩ : ∃ g : Nat, x7.heap.size + 1 = g := ⟨_, rfl⟩
  have hlgxgo : gx < go := by omega
  try rw [hgo]
  try rw [hgx]
  rw [hgx] at hxx10 bel8 hlwgx hlgfgx hlgqgx hlgCgx hlgTgx hlgkgx hlgcgx
  rw [hgo] at hox11 bel9
  have hxx11 := hxx10.keep hlgxgo bel9
  have hfx11 := (hfv9.keep hlgfgx bel8).keep (Nat.lt_trans hlgfgx hlgxgo) bel9
  have hqx11 := (hqv9.keep hlgqgx bel8).keep (Nat.lt_trans hlgqgx hlgxgo) bel9
  have hCx11 := (hCv9.keep hlgCgx bel8).keep (Nat.lt_trans hlgCgx hlgxgo) bel9
  have hTx11 := (hTv9.keep hlgTgx bel8).keep (Nat.lt_trans hlgTgx hlgxgo) bel9
  have hkx11 := (hkv9.keep hlgkgx bel8).keep (Nat.lt_trans hlgkgx hlgxgo) bel9
  have hcx11 := (hcv9.keep hlgcgx bel8).keep (Nat.lt_trans hlgcgx hlgxgo) bel9
  have hBx11 := (hBv9.trans (bel8.mono hlwgx)).trans (bel9.mono (Nat.le_trans hlwgx (Nat.le_of_lt hlgxgo)))
  clear hxx10 bel8 bel9 hfv9 hqv9 hCv9 hTv9 hkv9 hcv9 hxv9 hov9 hBv9 siz8 siz9 kee8 kee9 hv8 hv9 hgx hgo
  try dsimp only [Act.put]
  go_wp2_with (first | (refine wpList_load_mid rfl _ _ rfl gk 0 rfl (arL 432 (pkF (ek f) sb)) _ hkx11.range HS.out HW.out (sizeK _) ?_) | (refine wpList_load_ar rfl _ _ rfl _ _ _ rfl hqx11 Tryz.arr12 (size12 _) ?_))
  refine (rcrypt f q s a A2 n c2 PL _ Hf.out Hq.out HS0.out HA.out hcx11.sl HCC.out hn6.out).mono ?_
  rintro e x12 ⟨A5, c5, rfl, hO5, hq⟩
  have hw0 := Sl.of_own hO5
  rw [HCT.out] at hw0
  clear hO5
  rw [HG.out, HO.out]
  obtain ⟨gw, hgw⟩ : ∃ g, x12.heap.size - 1 = g := ⟨_, rfl⟩
  have hwx12 : Sy x12 gw A5 (n) (l) := by rw [← hgw]; exact Sy.new hw0 (Nat.lt_of_lt_of_le (Nat.zero_lt_of_lt (hCx11.lt)) hq.size)
  clear hw0 hgw
  have hfx12 := (hfx11).to (by omega) hq
  have hqx12 := (hqx11).to (by omega) hq
  have hCx12 := (hCx11).to hq
  have hTx12 := (hTx11).to hq
  have hkx12 := (hkx11).to (by omega) hq
  have hcx12 := (hcx11).to hq
  have hxx12 := (hxx11).to (by omega) hq
  have hox12 := (hox11).to (by omega) hq
  have hBx12 := hBx11.trans (hq.mono hBx11.size)
  clear hq hfx11 hqx11 hCx11 hTx11 hkx11 hcx11 hxx11 hox11 hBx11
  obtain ⟨v1, hv1⟩ : ∃ V : World, V = x12.alloc (.cells (rsL (.slice none 0 0) (fun _ => 0) (fun _ => 0)).toArray 50) := ⟨_, rfl⟩
  have hq : Below x12.heap.size x12 v1 := by rw [hv1]; exact (Below.refl _ _).alloc (Nat.le_refl _) _
  have hfv1 := (hfx12).to (by omega) hq
  have hqv1 := (hqx12).to (by omega) hq
  have hCv1 := (hCx12).to hq
  have hTv1 := (hTx12).to hq
  have hkv1 := (hkx12).to (by omega) hq
  have hcv1 := (hcx12).to hq
  have hxv1 := (hxx12).to (by omega) hq
  have hov1 := (hox12).to (by omega) hq
  have hwv1 := (hwx12).to hq
  have hBv1 := hBx12.trans (hq.mono hBx12.size)
  have hrv1 : Cx v1 x12.heap.size 33 (fun j => (rsL (.slice none 0 0) (fun _ => 0) (fun _ => 0)).getD j undef) := by rw [hv1, rsL_cx]; exact Cx.new x12 33 _ _
  have hlgfgr : gf < x12.heap.size := hfx12.lt (by omega)
  have hlgqgr : gq < x12.heap.size := hqx12.lt (by omega)
  have hlgCgr : gC < x12.heap.size := hCx12.lt
  have hlgTgr : gT < x12.heap.size := hTx12.lt
  have hlgkgr : gk < x12.heap.size := hkx12.lt (by omega)
  have hlgcgr : gc < x12.heap.size := hcx12.lt
  have hlgxgr : gx < x12.heap.size := hxx12.lt (by omega)
  have hlgogr : go < x12.heap.size := hox12.lt (by omega)
  have hlgwgr : gw < x12.heap.size := hwx12.lt
  have hlw : w.heap.size ≤ x12.heap.size := hBx12.size
  clear hq hfx12 hqx12 hCx12 hTx12 hkx12 hcx12 hxx12 hox12 hwx12 hBx12
  go_upto_region 7 with (first | (refine wpList_store_cx rfl _ _ _ rfl _ 33 0 _ (rsL (.slice A5 n c5) G O) rfl rfl (by rw [← hv1]; exact hrv1) (by rw [rsL_len]; decide) (sizeR _ _ _) (rsL_one rfl _ _) ?_; intro z13 hy1 bel1 siz1 kee1) | fail)
  rw [← hv1] at bel1 siz1
  obtain ⟨hvz13, hcz13, hoz13⟩ := rs_put hy1
  obtain ⟨gr, hgr⟩ : ∃ g : Nat, x12.heap.size = g := ⟨_, rfl⟩
  try rw [hgr]
  rw [hgr] at hlw bel1 hvz13 hcz13 hoz13 hlgfgr hlgqgr hlgCgr hlgTgr hlgkgr hlgcgr hlgxgr hlgogr hlgwgr
  have hxfz13 := hfv1.keep hlgfgr bel1
  have hxqz13 := hqv1.keep hlgqgr bel1
  have hxCz13 := hCv1.keep hlgCgr bel1
  have hxTz13 := hTv1.keep hlgTgr bel1
  have hxkz13 := hkv1.keep hlgkgr bel1
  have hxcz13 := hcv1.keep hlgcgr bel1
  have hxxz13 := hxv1.keep hlgxgr bel1
  have hxoz13 := hov1.keep hlgogr bel1
  have hxwz13 := hwv1.keep hlgwgr bel1
  have hRvz13 := hvz13
  have hRcz13 := hcz13
  have hRoz13 := hoz13
  clear hvz13 hcz13 hoz13
  have hfz13 := hxfz13
  have hqz13 := hxqz13
  have hCz13 := hxCz13
  have hTz13 := hxTz13
  have hkz13 := hxkz13
  have hcz13 := hxcz13
  have hxz13 := hxxz13
  have hoz13 := hxoz13
  have hwz13 := hxwz13
  have hBz13 := hBv1.trans (bel1.mono hlw)
  clear hxfz13 hxqz13 hxCz13 hxTz13 hxkz13 hxcz13 hxxz13 hxoz13 hxwz13 hy1 bel1 siz1 kee1 hgr hv1 hrv1 hfv1 hqv1 hCv1 hTv1 hkv1 hcv1 hxv1 hov1 hwv1 hBv1
  try dsimp only [Act.put]
  go_wp2_with (first | (refine wpList_load_mid rfl _ _ rfl gk 0 rfl (arL 432 (pkF (ek f) sb)) _ hkz13.range HS.out HW.out (sizeK _) ?_) | (refine wpList_load_ar rfl _ _ rfl _ _ _ rfl hqz13 Tryz.arr12 (size12 _) ?_))
  refine (rdecrypt f q s a A n c l _ Hf.out Hq.out HS0.out HA.out ((HSS.out.below hBz13).more hBz13.size) HNC.out hn6.out).mono ?_
  rintro e x14 ⟨A6, c6, rfl, hO6, hq⟩
  have hz0 := Sl.of_own hO6
  rw [HPL.out] at hz0
  clear hO6
  obtain ⟨gz, hgz⟩ : ∃ g, x14.heap.size - 1 = g := ⟨_, rfl⟩
  have hzx14 : Sy x14 gz A6 (n) (PL) := by rw [← hgz]; exact Sy.new hz0 (Nat.lt_of_lt_of_le (Nat.zero_lt_of_lt (hCz13.lt)) hq.size)
  clear hz0 hgz
  have hfx14 := (hfz13).to (by omega) hq
  have hqx14 := (hqz13).to (by omega) hq
  have hCx14 := (hCz13).to hq
  have hTx14 := (hTz13).to hq
  have hkx14 := (hkz13).to (by omega) hq
  have hcx14 := (hcz13).to hq
  have hxx14 := (hxz13).to (by omega) hq
  have hox14 := (hoz13).to (by omega) hq
  have hwx14 := (hwz13).to hq
  have hRvx14 := (hRvz13).to hq
  have hRcx14 := (hRcz13).to (by omega) hq
  have hRox14 := (hRoz13).to (by omega) hq
  have hBx14 := hBz13.trans (hq.mono hBz13.size)
  clear hq hfz13 hqz13 hCz13 hTz13 hkz13 hcz13 hxz13 hoz13 hwz13 hRvz13 hRcz13 hRoz13 hBz13
  go_wp2_with fail
  refine (same_true A2 A6 n c2 c6 PL _ hcx14.sl hzx14.sl (by have := hn6.out; omega)).mono ?_
  rintro e x15 ⟨rfl, hq⟩
  have hfx15 := (hfx14).to (by omega) hq
  have hqx15 := (hqx14).to (by omega) hq
  have hCx15 := (hCx14).to hq
  have hTx15 := (hTx14).to hq
  have hkx15 := (hkx14).to (by omega) hq
  have hcx15 := (hcx14).to hq
  have hxx15 := (hxx14).to (by omega) hq
  have hox15 := (hox14).to (by omega) hq
  have hwx15 := (hwx14).to hq
  have hRvx15 := (hRvx14).to hq
  have hRcx15 := (hRcx14).to (by omega) hq
  have hRox15 := (hRox14).to (by omega) hq
  have hzx15 := (hzx14).to hq
  have hBx15 := hBx14.trans (hq.mono hBx14.size)
  clear hq hfx14 hqx14 hCx14 hTx14 hkx14 hcx14 hxx14 hox14 hwx14 hRvx14 hRcx14 hRox14 hzx14 hBx14
  have cF := hRvx15.1
  go_wp2_with fail
  refine (same_true A5 A n c5 c l _ hwx15.sl ((HSS.out.below hBx15).more hBx15.size) (by have := hn6.out; omega)).mono ?_
  rintro e x16 ⟨rfl, hq⟩
  clear cF
  have hfx16 := (hfx15).to (by omega) hq
  have hqx16 := (hqx15).to (by omega) hq
  have hCx16 := (hCx15).to hq
  have hTx16 := (hTx15).to hq
  have hkx16 := (hkx15).to (by omega) hq
  have hcx16 := (hcx15).to hq
  have hxx16 := (hxx15).to (by omega) hq
  have hox16 := (hox15).to (by omega) hq
  have hwx16 := (hwx15).to hq
  have hRvx16 := (hRvx15).to hq
  have hRcx16 := (hRcx15).to (by omega) hq
  have hRox16 := (hRox15).to (by omega) hq
  have hzx16 := (hzx15).to hq
  have hBx16 := hBx15.trans (hq.mono hBx15.size)
  clear hq hfx15 hqx15 hCx15 hTx15 hkx15 hcx15 hxx15 hox15 hwx15 hRvx15 hRcx15 hRox15 hzx15 hBx15
  have heq := fun X => eq16_true (f := X) (g := X) (fun _ _ => rfl)
  have hgd := Tryz.eqg16
  go_wp2_with (first | (refine wpList_load_ar0W rfl _ _ rfl _ _ _ rfl hxx16 Tryz.arr16b (size16b _) ?_) | (refine wpList_load_ar0W rfl _ _ rfl _ _ _ rfl hox16 Tryz.arr16b (size16b _) ?_) | (refine BigFrame.wpList_want rfl fun _ hK => wp_load_mid _ _ rfl gr 1 rfl (arL 16 (G)) _ hRcx16.range Tryz.arr16b rfl (size16b _) (hK _ _ ?_)) | (refine BigFrame.wpList_want rfl fun _ hK => wp_load_mid _ _ rfl gr 17 rfl (arL 16 (O)) _ hRox16.range Tryz.arr16b rfl (size16b _) (hK _ _ ?_)))
  go_ret
  exact ⟨rfl, hBx16⟩
end Go.Proofs.YthfnpjjckpnfbaaGreatDoor
