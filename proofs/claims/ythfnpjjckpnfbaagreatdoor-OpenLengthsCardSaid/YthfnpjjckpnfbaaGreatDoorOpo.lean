/-
 The walk of the law OpenLengths of layer 13: for every key and every nonce, all bytes and all others behind them it returns true, and writes nothing that was there.
-/
import Derived.Test.YthfnpjjckpnfbaaGreatDoorOpi
import Derived.Deep.RegionHeld3
import Derived.Test.YthfnpjjckpnfbaaGreatDoorOpe
import Derived.Test.YthfnpjjckpnfbaaGreatDoorOpq
namespace Go.Proofs.YthfnpjjckpnfbaaGreatDoor
open Go.RowKit
set_option linter.unusedVariables false
set_option maxRecDepth 100000
set_option linter.unusedSimpArgs false
theorem nilNe (t : Nat) (v : Value) (w : World) : (binOp .neq 31 (.iface t v) .nilIface).run Tryz.prog w = .ok (.bool true) w := by
 have h : ∀ d : Nat, (Op.equalIn (d + 1) 31 (.iface t v) .nilIface).run Tryz.prog w = .ok false w := fun d => by simp [Op.equalIn, run_underlying Tryz.underlying31]
 simp only [binOp]
 simp [Op.equal, Op.maxDepth, h 9999]
theorem lfacts {N P : Nat} (h : P + 16 = N) (hn : N ≤ 1000) : wrap64 ((N : Int) - 16) = (P : Int) ∧ IntKind.i64.wrap ((N : Int) - 16) = (P : Int) ∧ (N : Int) - 16 = (P : Int) ∧ IntKind.i64.wrap (P : Int) = (P : Int) := by
 refine ⟨?_, ?_, by omega, wraps_i64' _ (by omega) (by omega)⟩
 ·rw [IntWalk.wrap64_in _ (by omega)]; omega
 ·rw [show (N : Int) - 16 = (P : Int) by omega, wraps_i64' _ (by omega) (by omega)]

set_option maxHeartbeats 8000000 in
theorem olengths (f : Nat → Nat) (q : Nat → Nat) (A : Option Addr) (n c : Nat) (l : List UInt8) (D : Option Addr) (m cd : Nat) (d : List UInt8) (w : World) (hf : ∀ j, j < 16 → f j < 256) (hq : ∀ j, j < 12 → q j < 256) (hS : Sl w w.heap.size A n l) (hnc : n ≤ c) (hcm : c ≤ maxLen) (hD : Sl w w.heap.size D m d) (hmc : m ≤ cd) (hcd : cd ≤ maxLen) (hs : Boxes w) :
  Calls Tryz.prog 7 #[.agg (arL 16 f).toArray, .agg (arL 12 q).toArray, .slice A n c, .slice D m cd] w fun e w' => e = .returned (.bool true) ∧ Below w.heap.size w w' := by
 have HX := Lib.hid hs
 have hz := zero16b
 have hz12 := zero12
 have hzK := zeroK
 have z0 := run_zero16
 have hlen := hS.len
 have HLEN := Lib.hid hlen
 have hdlen := hD.len
 have HDLEN := Lib.hid hdlen
 have HSS := Lib.hid hS
 have HDD := Lib.hid hD
 have HNC := Lib.hid hnc
 have HMC := Lib.hid hmc
 have hn63 : n ≤ 9223372036854775807 := by have h := hcm; simp [maxLen] at h; omega
 have hm63 : m ≤ 9223372036854775807 := by have h := hcd; simp [maxLen] at h; omega
 clear hlen hdlen hS hD hnc hmc hcm hcd
 obtain ⟨dK, hfs, hrow⟩ := Tryz.structK
 have HS := Lib.hid hfs
 have HW := Lib.hid hrow
 clear hfs hrow
 obtain ⟨i0, hi0, hz0, hz1, hz2⟩ := info_parts info8x
 have HI0 := Lib.hid hi0
 have HZ0 := Lib.hid hz0
 have HZ1 := Lib.hid hz1
 have HZ2 := Lib.hid hz2
 clear hi0 hz0 hz1 hz2
 have Hf := Lib.hid hf
 have Hq := Lib.hid hq
 obtain ⟨kf, hkf⟩ : ∃ k : Array Value, (arL 16 f).toArray = k := ⟨_, rfl⟩
 obtain ⟨kq, hkq⟩ : ∃ k : Array Value, (arL 12 q).toArray = k := ⟨_, rfl⟩
 obtain ⟨w1, hw1⟩ : ∃ V : World, V = w.alloc (.cells (arL 16 f).toArray 22) := ⟨_, rfl⟩
 have hs1 : w1.heap.size = w.heap.size + 1 := by rw [hw1]; simp
 have hBw1 : Below w.heap.size w w1 := by rw [hw1]; exact (Below.refl _ _).alloc (Nat.le_refl _) _
 have hfw1 : Ar w1 w.heap.size 16 f := by rw [hw1]; exact Ar.new w 16 f _
 obtain ⟨w2, hw2⟩ : ∃ V : World, V = w1.alloc (.cells (arL 12 q).toArray 23) := ⟨_, rfl⟩
 have hs2 : w2.heap.size = w.heap.size + 2 := by rw [hw2]; simp [hs1]
 have hBw2 : Below w.heap.size w w2 := by rw [hw2]; exact hBw1.alloc (by omega) _
 have hfw2 := hfw1.alloc (by omega) (.cells (arL 12 q).toArray 23)
 rw [← hw2] at hfw2
 have hqw2 : Ar w2 (w.heap.size + 1) 12 q := by rw [hw2, ← hs1]; exact Ar.new w1 12 q _
 rw [hkf] at hw1
 rw [hkq] at hw2
 rw [hkf, hkq]
 clear hkf hkq hs hf hq
 go_enter Tryz.func7, Tryz.ntmps7
 go_upto_region 1 with fail
 rw [← hw1, ← hw2]
 clear hw1 hw2
 try simp only [Nat.add_assoc, Nat.reduceAdd]
 obtain ⟨gf, hgf⟩ : ∃ g : Nat, w.heap.size = g := ⟨_, rfl⟩
 obtain ⟨gq, hgq⟩ : ∃ g : Nat, w.heap.size + 1 = g := ⟨_, rfl⟩
 rw [hgf] at hfw2
 rw [hgq] at hqw2
 try rw [hgq]
 try simp only [hgf]
 have hlf : w.heap.size ≤ gf := by omega
 have hlq : w.heap.size ≤ gq := by omega
 have hltq : gf < gq := by omega
 clear hgq hs1 hs2
 go_wp2_with fail
 refine (oawake13 _ (HX.out.keep hBw2)).mono ?_
 rintro e x1 ⟨rfl, hq⟩
 have hfx1 := (hfw2).to (by omega) hq
 have hqx1 := (hqw2).to (by omega) hq
 have hBx1 := hBw2.trans (hq.mono hBw2.size)
 clear hq hfw2 hqw2 hBw2
 by_cases hgn : 60 < n
 ·have hhn : (60 : Int) < (n : Int) := by omega
  go_wp2_with fail
  refine (oawake13 _ (HX.out.keep hBx1)).mono ?_
  rintro e x2 ⟨rfl, hq⟩
  have hfx2 := (hfx1).to (by omega) hq
  have hqx2 := (hqx1).to (by omega) hq
  have hBx2 := hBx1.trans (hq.mono hBx1.size)
  clear hq hfx1 hqx1 hBx1
  go_wp2_with fail
  go_ret
  exact ⟨rfl, hBx2⟩
 ·have hhn : ¬ (60 : Int) < (n : Int) := by omega
  by_cases hgm : 40 < m
  ·have hhm : (40 : Int) < (m : Int) := by omega
   go_wp2_with fail
   refine (oawake13 _ (HX.out.keep hBx1)).mono ?_
   rintro e x3 ⟨rfl, hq⟩
   have hfx3 := (hfx1).to (by omega) hq
   have hqx3 := (hqx1).to (by omega) hq
   have hBx3 := hBx1.trans (hq.mono hBx1.size)
   clear hq hfx1 hqx1 hBx1
   go_wp2_with fail
   go_ret
   exact ⟨rfl, hBx3⟩
  ·have hhm : ¬ (40 : Int) < (m : Int) := by omega
   have hn6 := Lib.hid (show n ≤ 1000000 by omega)
   have hn2 := Lib.hid (show n ≤ 60 ∧ m ≤ 40 by omega)
   obtain ⟨s, hs0⟩ : ∃ s : Nat → Nat, enF f zF = s := ⟨_, rfl⟩
   have HS0 := Lib.hid hs0
   have HSL := Lib.hid (show B16 s by rw [← hs0]; exact enR_lt Hf.out zF_lt 10)
   clear hs0
   go_wp2_with (refine wpList_load_ar rfl _ _ rfl _ _ _ rfl hfx1 Tryz.arr16b (size16b _) ?_)
   refine (fnew f _ Hf.out (HX.out.keep hBx1)).mono ?_
   rintro e x4 ⟨gC, rfl, hgC, hCx4, hq⟩
   have hfx4 := (hfx1).to (by omega) hq
   have hqx4 := (hqx1).to (by omega) hq
   have hBx4 := hBx1.trans (hq.mono hBx1.size)
   clear hq hfx1 hqx1 hBx1
   go_wp2_with fail
   refine (tnew (some ⟨gC, 0, none⟩) f _ Hf.out (exp_made gC f _ hCx4) (HX.out.keep hBx4)).mono ?_
   rintro e x5 ⟨gT, rfl, hgT, hTx5, hq⟩
   rw [HS0.out] at hTx5
   have hfx5 := (hfx4).to (by omega) hq
   have hqx5 := (hqx4).to (by omega) hq
   have hCx5 := (hCx4).to hq
   have hBx5 := hBx4.trans (hq.mono hBx4.size)
   clear hq hfx4 hqx4 hCx4 hBx4
   clear hhm hhn hgm hgn hn63 hm63
   obtain ⟨a, ha⟩ : ∃ a : Nat → Nat, o0F (enF f (nbF q)) (q 11) = a := ⟨_, rfl⟩
   have HA := Lib.hid ha
   have HAB := Lib.hid (show B16 a by rw [← ha]; exact o0F_lt (enR_lt Hf.out (nbF_lt Hq.out) 10) _)
   clear ha
   go_wp2_with (refine wpList_load_ar rfl _ _ rfl _ _ _ rfl hfx5 Tryz.arr16b (size16b _) ?_)
   refine (refprepare f _ Hf.out).mono ?_
   rintro e x6 ⟨rfl, hq⟩
   have hfx6 := (hfx5).to (by omega) hq
   have hqx6 := (hqx5).to (by omega) hq
   have hCx6 := (hCx5).to hq
   have hTx6 := (hTx5).to hq
   have hBx6 := hBx5.trans (hq.mono hBx5.size)
   clear hq hfx5 hqx5 hCx5 hTx5 hBx5
   obtain ⟨gk, hgk⟩ : ∃ g : Nat, x6.heap.size = g := ⟨_, rfl⟩
   have hlgfgk : gf < gk := by rw [← hgk]; exact hfx6.lt (by omega)
   have hlgqgk : gq < gk := by rw [← hgk]; exact hqx6.lt (by omega)
   have hlgCgk : gC < gk := by rw [← hgk]; exact hCx6.lt
   have hlgTgk : gT < gk := by rw [← hgk]; exact hTx6.lt
   have hlwgk : w.heap.size ≤ gk := by rw [← hgk]; exact hBx6.size
   have hq : Below x6.heap.size x6 (x6.alloc (.cells (arL 432 fun _ => 0).toArray 39)) := (Below.refl _ _).alloc (Nat.le_refl _) _
   have hfx7a := (hfx6).to (by omega) hq
   have hqx7a := (hqx6).to (by omega) hq
   have hCx7a := (hCx6).to hq
   have hTx7a := (hTx6).to hq
   have hkx7a := Ar.new x6 432 (fun _ => 0) 39
   have hBx7a := hBx6.alloc hBx6.size (.cells (arL 432 fun _ => 0).toArray 39)
   rw [hgk] at hkx7a
   clear hq hfx6 hqx6 hCx6 hTx6 hBx6
   go_upto_region 5 with (first | (refine wpList_store_ar rfl _ _ _ rfl _ _ _ (pkF (ek f) sb) rfl rfl hkx7a (sizeK _) ?_; intro x7 hkx7 belx7 sizx7 keex7) | fail)
   have hfx7 := (hfx7a).keep hlgfgk belx7
   have hqx7 := (hqx7a).keep hlgqgk belx7
   have hCx7 := (hCx7a).keep hlgCgk belx7
   have hTx7 := (hTx7a).keep hlgTgk belx7
   have hBx7 := hBx7a.trans (belx7.mono hlwgk)
   clear hfx7a hqx7a hCx7a hTx7a hkx7a hBx7a belx7 sizx7 keex7 hgk
   try dsimp only [Act.put]
   obtain ⟨N9, hN9⟩ : ∃ N : Nat, n + 16 + m = N := ⟨_, rfl⟩
   have HN9 := Lib.hid hN9
   have HN2 := Lib.hid (show N9 ≤ 116 by have := hn2.out; omega)
   have HOP := Lib.hid (show opC f s a [] (seL f s a l (tgF f s (csF l) (ofF s a n) [])) = 0 by have h := op_se (d := []) Hf.out HSL.out HAB.out l; rw [HLEN.out] at h; exact h.1)
   have HRL := Lib.hid (show (seL f s a l (tgF f s (csF l) (ofF s a n) [])).length = n + 16 by rw [seL_len, HLEN.out])
   obtain ⟨R9, hR9⟩ : ∃ r, seL f s a l (tgF f s (csF l) (ofF s a n) []) = r := ⟨_, rfl⟩
   have HR9 := Lib.hid hR9
   rw [hR9] at HOP HRL
   have HLL := Lib.hid (show (R9 ++ d).length = N9 by rw [List.length_append, HRL.out, HDLEN.out]; exact hN9)
   have HM0 := Lib.hid (show m = 0 → opC f s a [] (R9 ++ d) = 0 from fun h => by rw [List.eq_nil_of_length_eq_zero (HDLEN.out.trans h), List.append_nil]; exact HOP.out)
   obtain ⟨L9, hL9⟩ : ∃ r, R9 ++ d = r := ⟨_, rfl⟩
   have HL9 := Lib.hid hL9
   rw [hL9] at HLL HM0
   obtain ⟨C, hC⟩ : ∃ C, opC f s a [] L9 = C := ⟨_, rfl⟩
   rw [hC] at HM0
   have HC := Lib.hid hC
   obtain ⟨PL, hPL⟩ : ∃ P, opL f s a [] L9 = P := ⟨_, rfl⟩
   have HPL := Lib.hid hPL
   have HPN := Lib.hid (show PL.length ≤ N9 by rw [← hPL]; exact opL_le HLL.out)
   obtain ⟨P9, hP9⟩ : ∃ p, PL.length = p := ⟨_, rfl⟩
   have HP9 := Lib.hid hP9
   have HPC := Lib.hid (show C = 0 → P9 + 16 = N9 from fun h => by rw [← hP9, ← hPL]; exact opL_len HLL.out (hC.trans h))
   rw [hP9] at HPN
   clear hN9 hR9 hL9 hC hPL hP9
   obtain ⟨b0, hb0⟩ : ∃ b : Nat, x7.heap.size = b := ⟨_, rfl⟩
   have hlbf : gf < b0 := by rw [← hb0]; exact hfx7.lt (by omega)
   have hlbq : gq < b0 := by rw [← hb0]; exact hqx7.lt (by omega)
   have hlbC : gC < b0 := by rw [← hb0]; exact hCx7.lt
   have hlbT : gT < b0 := by rw [← hb0]; exact hTx7.lt
   have hlbk : gk < b0 := by rw [← hb0]; exact hkx7.lt (by omega)
   have hlwb : w.heap.size ≤ b0 := by rw [← hb0]; exact hBx7.size
   go_wp2_with (first | (refine wpList_load_mid rfl _ _ rfl gk 0 rfl (arL 432 (pkF (ek f) sb)) _ hkx7.range HS.out HW.out (sizeK _) ?_) | (refine wpList_load_ar rfl _ _ rfl _ _ _ rfl hqx7 Tryz.arr12 (size12 _) ?_))
   refine (rseal f q s a none 0 0 [] A n c l _ Hf.out Hq.out HS0.out HA.out (sl_nil _ _) (Nat.le_refl _) (by omega) ((HSS.out.below hBx7).more hBx7.size) HNC.out hn6.out).mono ?_
   rintro e x8 ⟨A8, c8, rfl, hO8, hq⟩
   rw [HR9.out, hb0] at hO8
   have hbz : b0 ≤ x8.heap.size := by rw [← hb0]; exact hq.size
   have hfx8 := (hfx7).to (by omega) hq
   have hqx8 := (hqx7).to (by omega) hq
   have hCx8 := (hCx7).to hq
   have hTx8 := (hTx7).to hq
   have hkx8 := (hkx7).to (by omega) hq
   have hBx8 := hBx7.trans (hq.mono hBx7.size)
   clear hq hfx7 hqx7 hCx7 hTx7 hkx7 hBx7
   clear hb0
   go_upto_region 6 with (first | (at_builtin; refine wpList_append_sl _ rfl _ _ 24 rfl b0 5 i0 (.int .u8 0) Tryz.underlying24 HI0.out HZ0.out HZ1.out HZ2.out rfl _ (n + 16) _ rfl hO8 x8.heap.size D m cd d rfl ((HDD.out.below hBx8).more hBx8.size) (by have := hn2.out; omega) hbz ?_; intro v6 k9 hown6 hgrow6 _) | fail)
   have k8 : Below b0 x8 k9 := (Below.refl _ _).grown hgrow6 hbz (fun g hg => own_block hO8 hg)
   obtain ⟨Ax, cx, rfl⟩ := own_shape hown6
   have hown7 : k9.ownsRow b0 5 1 (.slice Ax (n + 16 + m) cx) (n + 16 + m) (L9.map b8) := by rw [← HL9.out, List.map_append]; exact hown6
   rw [HN9.out] at hown7
   try rw [HN9.out]
   have HCx := Lib.hid (own_capS hown7)
   have hx0 := Sl.of_own hown7
   have hsz8 := k8.size
   have hfk9 := hfx8.keep (by omega) k8
   have hqk9 := hqx8.keep (by omega) k8
   have hCk9 := hCx8.keep (by omega) k8
   have hTk9 := hTx8.keep (by omega) k8
   have hkk9 := hkx8.keep (by omega) k8
   have hBk9 := hBx8.trans (k8.mono hlwb)
   obtain ⟨gx, hgx⟩ : ∃ g : Nat, k9.heap.size - 1 = g := ⟨_, rfl⟩
   have hxk9 : Sy k9 gx Ax (N9) (L9) := by rw [← hgx]; exact Sy.new hx0 (by omega)
   clear k8 hown6 hown7 hgrow6 hO8 hbz hx0 hgx hsz8 hfx8 hqx8 hCx8 hTx8 hkx8 hBx8
   go_wp2_with (refine wpList_load_ar rfl _ _ rfl _ _ _ rfl hqk9 Tryz.arr12 (size12 _) ?_)
   refine (oopen (some ⟨gT, 0, none⟩) f s q a none 0 0 [] Ax N9 cx L9 PL C _ Hf.out HS0.out Hq.out HA.out (sl_nil _ _) (Nat.le_refl _) (by omega) hxk9.sl HCx.out (by have := HN2.out; omega) HC.out HPL.out (wtabo gT gC f s _ HS0.out (hTk9) (hCk9)) (HX.out.keep hBk9)).mono ?_
   rintro e x10 ⟨A3, c3, rfl, hu0, hcu, hq⟩
   clear hcu
   rw [HP9.out] at hu0 ⊢
   obtain ⟨gu, hgu⟩ : ∃ g, x10.heap.size - 1 = g := ⟨_, rfl⟩
   have hux10 : Sy x10 gu A3 (P9) (PL) := by rw [← hgu]; exact Sy.new hu0 (Nat.lt_of_lt_of_le (Nat.zero_lt_of_lt (hCk9.lt)) hq.size)
   clear hu0 hgu
   have hfx10 := (hfk9).to (by omega) hq
   have hqx10 := (hqk9).to (by omega) hq
   have hCx10 := (hCk9).to hq
   have hTx10 := (hTk9).to hq
   have hkx10 := (hkk9).to (by omega) hq
   have hxx10 := (hxk9).to hq
   have hBx10 := hBk9.trans (hq.mono hBk9.size)
   clear hq hfk9 hqk9 hCk9 hTk9 hkk9 hxk9 hBk9
   go_wp2_with (first | (refine wpList_load_mid rfl _ _ rfl gk 0 rfl (arL 432 (pkF (ek f) sb)) _ hkx10.range HS.out HW.out (sizeK _) ?_) | (refine wpList_load_ar rfl _ _ rfl _ _ _ rfl hqx10 Tryz.arr12 (size12 _) ?_))
   refine (ropen f q s a none 0 0 [] Ax N9 cx L9 PL C _ Hf.out Hq.out HS0.out HA.out (sl_nil _ _) (Nat.le_refl _) (by omega) hxx10.sl HCx.out (by have := HN2.out; omega) HC.out HPL.out).mono ?_
   rintro e x11 ⟨A7, c7, rfl, hv0, _, hq⟩
   rw [HP9.out] at hv0 ⊢
   obtain ⟨gv, hgv⟩ : ∃ g, x11.heap.size - 1 = g := ⟨_, rfl⟩
   have hvx11 : Sy x11 gv A7 (P9) (PL) := by rw [← hgv]; exact Sy.new hv0 (Nat.lt_of_lt_of_le (Nat.zero_lt_of_lt (hCx10.lt)) hq.size)
   clear hv0 hgv
   have hfx11 := (hfx10).to (by omega) hq
   have hqx11 := (hqx10).to (by omega) hq
   have hCx11 := (hCx10).to hq
   have hTx11 := (hTx10).to hq
   have hkx11 := (hkx10).to (by omega) hq
   have hxx11 := (hxx10).to hq
   have hux11 := (hux10).to hq
   have hBx11 := hBx10.trans (hq.mono hBx10.size)
   clear hq hfx10 hqx10 hCx10 hTx10 hkx10 hxx10 hux10 hBx10
   go_wp2_with fail
   refine (same_true A3 A7 P9 c3 c7 PL _ hux11.sl hvx11.sl (by have := HPN.out; have := HN2.out; omega)).mono ?_
   rintro e x12 ⟨rfl, hq⟩
   have hfx12 := (hfx11).to (by omega) hq
   have hqx12 := (hqx11).to (by omega) hq
   have hCx12 := (hCx11).to hq
   have hTx12 := (hTx11).to hq
   have hkx12 := (hkx11).to (by omega) hq
   have hxx12 := (hxx11).to hq
   have hux12 := (hux11).to hq
   have hvx12 := (hvx11).to hq
   have hBx12 := hBx11.trans (hq.mono hBx11.size)
   clear hq hfx11 hqx11 hCx11 hTx11 hkx11 hxx11 hux11 hvx11 hBx11
   by_cases h0 : C = 0
   ·have hpc := HPC.out h0
    obtain ⟨j1, j2, j3, j4⟩ := lfacts hpc (by have := HN2.out; omega)
    subst h0
    clear hpc
    try simp only [errV0]
    by_cases hm0 : m = 0
    ·have i1 : ¬ (0 : Int) < (m : Int) := by omega
     clear hm0
     go_wp2_with fail
     go_ret
     exact ⟨rfl, by first | exact hBx12 | exact hgf ▸ hBx12⟩
    ·have i1 : (0 : Int) < (m : Int) := by omega
     clear hm0
     go_wp2_with fail
     go_ret
     exact ⟨rfl, by first | exact hBx12 | exact hgf ▸ hBx12⟩
   ·have hce := errV_is h0
    try simp only [hce]
    clear hce
    have hcn : ¬ (C : Int) = 0 := by omega
    have hcb : ((C : Int) == 0) = false := by simpa using hcn
    have i1 : (0 : Int) < (m : Int) := by have h9 : ¬ m = 0 := (fun h => h0 (HM0.out h)); omega
    clear h0
    have hne := fun w => nilEq0 44 (.int .i64 (C : Int)) w
    have hnn := fun w => nilNe 44 (.int .i64 (C : Int)) w
    go_wp2_with fail
    go_ret
    exact ⟨rfl, by first | exact hBx12 | exact hgf ▸ hBx12⟩
end Go.Proofs.YthfnpjjckpnfbaaGreatDoor
