/-
  The walk of the law SealEmpty of layer 12: for every key and every nonce it returns true, and writes nothing that was there.
-/
import Derived.Test.YthapnnbdoecoaaaDoorSeg
import Derived.Deep.RegionHeld3
namespace Go.Proofs.YthapnnbdoecoaaaDoor
open Go.RowKit
set_option linter.unusedVariables false
set_option maxRecDepth 100000
set_option linter.unusedSimpArgs false
theorem cs_nil : csF [] = fun _ => 0 := rfl
theorem of_nil (s a : Nat → Nat) : ofF s a 0 = a := by
  show (if 0 % 16 = 0 then atF a s (0 / 16) else _) = _
  rw [if_pos rfl]; exact atF_zero a s
theorem tg_nil (f s a : Nat → Nat) : tgF f s (fun _ => 0) a [] = enF f (adF a (dk s 1)) := by
  unfold tgF
  rw [haF_nil, show adF (fun _ => 0) a = a from zero_ad a]
  exact ad_zero _
theorem se_nil (f s a t : Nat → Nat) : seL f s a [] t = liB 16 t := rfl

set_option maxHeartbeats 8000000 in
theorem sempty (f : Nat → Nat) (q : Nat → Nat) (w : World) (hf : ∀ j, j < 16 → f j < 256) (hq : ∀ j, j < 12 → q j < 256) (hs : Boxes w) :
    Calls Tryd.prog 6 #[.agg (arL 16 f).toArray, .agg (arL 12 q).toArray] w fun e w' => e = .returned (.bool true) ∧ Below w.heap.size w w' := by
  have HX := Lib.hid hs
  have hz := zero16b
  have hz12 := zero12
  have hzK := zeroK
  have z0 := run_zero16
  obtain ⟨dK, hfs, hrow⟩ := Tryd.structK
  have HS := Lib.hid hfs
  have HW := Lib.hid hrow
  clear hfs hrow
  have Hf := Lib.hid hf
  have Hq := Lib.hid hq
  obtain ⟨kf, hkf⟩ : ∃ k : Array Value, (arL 16 f).toArray = k := ⟨_, rfl⟩
  obtain ⟨kq, hkq⟩ : ∃ k : Array Value, (arL 12 q).toArray = k := ⟨_, rfl⟩
  obtain ⟨w1, hw1⟩ : ∃ V : World, V = w.alloc (.cells (arL 16 f).toArray 22) := ⟨_, rfl⟩
  have hs1 : w1.heap.size = w.heap.size + 1 := by rw [hw1]; simp
  have hBw1 : Below w.heap.size w w1 := by rw [hw1]; exact (Below.refl _ _).alloc (Nat.le_refl _) _
  have hfw1 : Ar w1 w.heap.size 16 f := by rw [hw1]; exact Ar.new w 16 f _
  obtain ⟨w2, hw2⟩ : ∃ V : World, V = w1.alloc (.cells (arL 12 q).toArray 23) := ⟨_, rfl⟩
  have hs2 : w2.heap.size = w.heap.size + 2 := by rw [hw2]; simp [hs1]
  have hBw2 : Below w.heap.size w w2 := by rw [hw2]; exact hBw1.alloc (by omega) _
  have hfw2 := hfw1.alloc (by omega) (.cells (arL 12 q).toArray 23)
  rw [← hw2] at hfw2
  have hqw2 : Ar w2 (w.heap.size + 1) 12 q := by rw [hw2, ← hs1]; exact Ar.new w1 12 q _
  rw [hkf] at hw1
  rw [hkq] at hw2
  rw [hkf, hkq]
  clear hkf hkq hs hf hq
  go_enter Tryd.func6, Tryd.ntmps6
  go_upto_region 1 with fail
  rw [← hw1, ← hw2]
  clear hw1 hw2
  try simp only [Nat.add_assoc, Nat.reduceAdd]
  obtain ⟨gf, hgf⟩ : ∃ g : Nat, w.heap.size = g := ⟨_, rfl⟩
  obtain ⟨gq, hgq⟩ : ∃ g : Nat, w.heap.size + 1 = g := ⟨_, rfl⟩
  rw [hgf] at hfw2
  rw [hgq] at hqw2
  try rw [hgq]
  try simp only [hgf]
  have hlf : w.heap.size ≤ gf := by omega
  have hlq : w.heap.size ≤ gq := by omega
  have hltq : gf < gq := by omega
  clear hgq hs1 hs2
  go_wp2_with fail
  refine (sawake _ (HX.out.keep hBw2)).mono ?_
  rintro e x1 ⟨rfl, hq⟩
  have hfx1 := (hfw2).to (by omega) hq
  have hqx1 := (hqw2).to (by omega) hq
  have hBx1 := hBw2.trans (hq.mono hBw2.size)
  clear hq hfw2 hqw2 hBw2
  obtain ⟨s, hs0⟩ : ∃ s : Nat → Nat, enF f zF = s := ⟨_, rfl⟩
  have HS0 := Lib.hid hs0
  have HSL := Lib.hid (show B16 s by rw [← hs0]; exact enR_lt Hf.out zF_lt 10)
  clear hs0
  go_wp2_with (refine wpList_load_ar rfl _ _ rfl _ _ _ rfl hfx1 Tryd.arr16b (size16b _) ?_)
  refine (fnew f _ Hf.out (HX.out.keep hBx1)).mono ?_
  rintro e x2 ⟨gC, rfl, hgC, hCx2, hq⟩
  have hfx2 := (hfx1).to (by omega) hq
  have hqx2 := (hqx1).to (by omega) hq
  have hBx2 := hBx1.trans (hq.mono hBx1.size)
  clear hq hfx1 hqx1 hBx1
  go_wp2_with fail
  refine (tnew (some ⟨gC, 0, none⟩) f _ Hf.out (exp_made gC f _ hCx2) (HX.out.keep hBx2)).mono ?_
  rintro e x3 ⟨gT, rfl, hgT, hTx3, hq⟩
  rw [HS0.out] at hTx3
  have hfx3 := (hfx2).to (by omega) hq
  have hqx3 := (hqx2).to (by omega) hq
  have hCx3 := (hCx2).to hq
  have hBx3 := hBx2.trans (hq.mono hBx2.size)
  clear hq hfx2 hqx2 hCx2 hBx2
  obtain ⟨a, ha⟩ : ∃ a : Nat → Nat, o0F (enF f (nbF q)) (q 11) = a := ⟨_, rfl⟩
  have HA := Lib.hid ha
  have HAB := Lib.hid (show B16 a by rw [← ha]; exact o0F_lt (enR_lt Hf.out (nbF_lt Hq.out) 10) _)
  clear ha
  go_wp2_with (refine wpList_load_ar rfl _ _ rfl _ _ _ rfl hfx3 Tryd.arr16b (size16b _) ?_)
  refine (refprepare f _ Hf.out).mono ?_
  rintro e x4 ⟨rfl, hq⟩
  have hfx4 := (hfx3).to (by omega) hq
  have hqx4 := (hqx3).to (by omega) hq
  have hCx4 := (hCx3).to hq
  have hTx4 := (hTx3).to hq
  have hBx4 := hBx3.trans (hq.mono hBx3.size)
  clear hq hfx3 hqx3 hCx3 hTx3 hBx3
  obtain ⟨gk, hgk⟩ : ∃ g : Nat, x4.heap.size = g := ⟨_, rfl⟩
  have hlgfgk : gf < gk := by rw [← hgk]; exact hfx4.lt (by omega)
  have hlgqgk : gq < gk := by rw [← hgk]; exact hqx4.lt (by omega)
  have hlgCgk : gC < gk := by rw [← hgk]; exact hCx4.lt
  have hlgTgk : gT < gk := by rw [← hgk]; exact hTx4.lt
  have hlwgk : w.heap.size ≤ gk := by rw [← hgk]; exact hBx4.size
  have hq : Below x4.heap.size x4 (x4.alloc (.cells (arL 432 fun _ => 0).toArray 36)) := (Below.refl _ _).alloc (Nat.le_refl _) _
  have hfx5a := (hfx4).to (by omega) hq
  have hqx5a := (hqx4).to (by omega) hq
  have hCx5a := (hCx4).to hq
  have hTx5a := (hTx4).to hq
  have hkx5a := Ar.new x4 432 (fun _ => 0) 36
  have hBx5a := hBx4.alloc hBx4.size (.cells (arL 432 fun _ => 0).toArray 36)
  rw [hgk] at hkx5a
  clear hq hfx4 hqx4 hCx4 hTx4 hBx4
  go_upto_region 5 with (first | (refine wpList_store_ar rfl _ _ _ rfl _ _ _ (pkF (ek f) sb) rfl rfl hkx5a (sizeK _) ?_; intro x5 hkx5 belx5 sizx5 keex5) | fail)
  have hfx5 := (hfx5a).keep hlgfgk belx5
  have hqx5 := (hqx5a).keep hlgqgk belx5
  have hCx5 := (hCx5a).keep hlgCgk belx5
  have hTx5 := (hTx5a).keep hlgTgk belx5
  have hBx5 := hBx5a.trans (belx5.mono hlwgk)
  clear hfx5a hqx5a hCx5a hTx5a hkx5a hBx5a belx5 sizx5 keex5 hgk
  try dsimp only [Act.put]
  go_wp2_with (refine wpList_load_ar rfl _ _ rfl _ _ _ rfl hqx5 Tryd.arr12 (size12 _) ?_)
  refine (scrypt (some ⟨gT, 0, none⟩) f s q a none 0 0 [] _ Hf.out HS0.out Hq.out HA.out (sl_nil _ _) (Nat.le_refl _) (by omega) (wtabs gT gC f s _ HS0.out (hTx5) (hCx5)) (HX.out.keep hBx5)).mono ?_
  rintro e x6 ⟨A2, c2, rfl, hc0, hcc, hq⟩
  clear hc0 hcc
  rw [cs_nil, of_nil]
  have hfx6 := (hfx5).to (by omega) hq
  have hqx6 := (hqx5).to (by omega) hq
  have hCx6 := (hCx5).to hq
  have hTx6 := (hTx5).to hq
  have hkx6 := (hkx5).to (by omega) hq
  have hBx6 := hBx5.trans (hq.mono hBx5.size)
  clear hq hfx5 hqx5 hCx5 hTx5 hkx5 hBx5
  obtain ⟨v7, hv7⟩ : ∃ V : World, V = x6.alloc (.cells (arL 16 fun _ => 0).toArray 22) := ⟨_, rfl⟩
  have hsv7 : v7.heap.size = x6.heap.size + 1 := by rw [hv7]; simp
  have hq : Below x6.heap.size x6 v7 := by rw [hv7]; exact (Below.refl _ _).alloc (Nat.le_refl _) _
  have hfv7 := (hfx6).to (by omega) hq
  have hqv7 := (hqx6).to (by omega) hq
  have hCv7 := (hCx6).to hq
  have hTv7 := (hTx6).to hq
  have hkv7 := (hkx6).to (by omega) hq
  have hBv7 := hBx6.trans (hq.mono hBx6.size)
  have hxv7 : Ar v7 x6.heap.size 16 (fun _ => 0) := by rw [hv7]; exact Ar.new x6 16 _ _
  have hlgfgx : gf < x6.heap.size := hfx6.lt (by omega)
  have hlgqgx : gq < x6.heap.size := hqx6.lt (by omega)
  have hlgCgx : gC < x6.heap.size := hCx6.lt
  have hlgTgx : gT < x6.heap.size := hTx6.lt
  have hlgkgx : gk < x6.heap.size := hkx6.lt (by omega)
  have hlwgx : w.heap.size ≤ x6.heap.size := hBx6.size
  clear hq hfx6 hqx6 hCx6 hTx6 hkx6 hBx6
  obtain ⟨v8, hv8⟩ : ∃ V : World, V = v7.alloc (.cells (arL 16 fun _ => 0).toArray 22) := ⟨_, rfl⟩
  have hq : Below v7.heap.size v7 v8 := by rw [hv8]; exact (Below.refl _ _).alloc (Nat.le_refl _) _
  have hfv8 := (hfv7).to (by omega) hq
  have hqv8 := (hqv7).to (by omega) hq
  have hCv8 := (hCv7).to hq
  have hTv8 := (hTv7).to hq
  have hkv8 := (hkv7).to (by omega) hq
  have hxv8 := hxv7.to (by omega) hq
  have hBv8 := hBv7.trans (hq.mono hBv7.size)
  have hov8 : Ar v8 (x6.heap.size + 1) 16 (fun _ => 0) := by rw [hv8, ← hsv7]; exact Ar.new v7 16 _ _
  clear hq hsv7 hfv7 hqv7 hCv7 hTv7 hkv7 hxv7 hBv7
  go_upto_region 6 with (first | (refine wpList_store_ar rfl _ _ _ rfl _ _ _ (fun _ => 0) rfl rfl (by rw [← hv7, ← hv8]; exact hxv8) (size16b _) ?_; intro x9 hxx9 bel8 siz8 kee8) | (refine wpList_store_ar rfl _ _ _ rfl _ _ _ (a) rfl rfl (kee8 _ _ _ (by omega) (by rw [← hv7, ← hv8]; exact hov8)) (size16b _) ?_; intro x10 hox10 bel9 siz9 kee9) | fail)
  rw [← hv7, ← hv8] at bel8
  obtain ⟨gx, hgx⟩ : ∃ g : Nat, x6.heap.size = g := ⟨_, rfl⟩
  obtain ⟨go, hgo⟩ : ∃ g : Nat, x6.heap.size + 1 = g := ⟨_, rfl⟩
  have hlgxgo : gx < go := by omega
  try rw [hgo]
  try rw [hgx]
  rw [hgx] at hxx9 bel8 hlwgx hlgfgx hlgqgx hlgCgx hlgTgx hlgkgx
  rw [hgo] at hox10 bel9
  have hxx10 := hxx9.keep hlgxgo bel9
  have hfx10 := (hfv8.keep hlgfgx bel8).keep (Nat.lt_trans hlgfgx hlgxgo) bel9
  have hqx10 := (hqv8.keep hlgqgx bel8).keep (Nat.lt_trans hlgqgx hlgxgo) bel9
  have hCx10 := (hCv8.keep hlgCgx bel8).keep (Nat.lt_trans hlgCgx hlgxgo) bel9
  have hTx10 := (hTv8.keep hlgTgx bel8).keep (Nat.lt_trans hlgTgx hlgxgo) bel9
  have hkx10 := (hkv8.keep hlgkgx bel8).keep (Nat.lt_trans hlgkgx hlgxgo) bel9
  have hBx10 := (hBv8.trans (bel8.mono hlwgx)).trans (bel9.mono (Nat.le_trans hlwgx (Nat.le_of_lt hlgxgo)))
  clear hxx9 bel8 bel9 hfv8 hqv8 hCv8 hTv8 hkv8 hxv8 hov8 hBv8 siz8 siz9 kee8 kee9 hv7 hv8 hgx hgo
  try dsimp only [Act.put]
  obtain ⟨D, hD⟩ : ∃ D, dk s 1 = D := ⟨_, rfl⟩
  have HDD := Lib.hid hD
  have HDB := Lib.hid (show B16 D by rw [← hD]; exact dk_lt HSL.out 1)
  have HTG := Lib.hid (tg_nil f s a)
  rw [hD] at HTG
  clear hD
  have htb := Lib.hid (show B16 (enF f (adF a D)) from enR_lt Hf.out (adF_lt HAB.out HDB.out) 10)
  obtain ⟨t, ht⟩ : ∃ t, enF f (adF a D) = t := ⟨_, rfl⟩
  rw [ht] at HTG htb
  have HT := Lib.hid ht
  clear ht
  go_wp2_with (refine wpList_load_ar rfl _ _ rfl _ _ _ rfl hqx10 Tryd.arr12 (size12 _) ?_)
  refine (sseal (some ⟨gT, 0, none⟩) f s q a none 0 0 [] none 0 0 [] _ Hf.out HS0.out Hq.out HA.out (sl_nil _ _) (Nat.le_refl _) (by omega) (sl_nil _ _) (Nat.le_refl _) (by omega) (wtabs gT gC f s _ HS0.out (hTx10) (hCx10)) (HX.out.keep hBx10)).mono ?_
  rintro e x11 ⟨A3, c3, rfl, hu0, hcu, hq⟩
  clear hcu
  rw [cs_nil, of_nil, HTG.out, se_nil] at hu0
  obtain ⟨gu, hgu⟩ : ∃ g, x11.heap.size - 1 = g := ⟨_, rfl⟩
  have hux11 : Sy x11 gu A3 (0 + 16) (liB 16 t) := by rw [← hgu]; exact Sy.new hu0 (Nat.lt_of_lt_of_le (Nat.zero_lt_of_lt (hCx10.lt)) hq.size)
  clear hu0 hgu
  have hfx11 := (hfx10).to (by omega) hq
  have hqx11 := (hqx10).to (by omega) hq
  have hCx11 := (hCx10).to hq
  have hTx11 := (hTx10).to hq
  have hkx11 := (hkx10).to (by omega) hq
  have hxx11 := (hxx10).to (by omega) hq
  have hox11 := (hox10).to (by omega) hq
  have hBx11 := hBx10.trans (hq.mono hBx10.size)
  clear hq hfx10 hqx10 hCx10 hTx10 hkx10 hxx10 hox10 hBx10
  go_upto_region 7 with fail
  have hlou : go < x11.heap.size := hox11.lt (by omega)
  apply wp_region_viaG (F := fun gg W => Ar W gf 16 (f) ∧ Ar W gq 12 (q) ∧ Ci W gC (f) ∧ Ti W gT (some ⟨gC, 0, none⟩) (s) ∧ Ar W gk 432 (pkF (ek f) sb) ∧ Ar W gx 16 (fun _ => 0) ∧ Ar W go 16 (a) ∧ Sy W gu A3 (0 + 16) (liB 16 t) ∧ Ar W gg 16 (t) ∧ go < gg ∧ Below w.heap.size w W)
  case h1 =>
    refine wp_region_noPanic ?_
    refine wp_region_held_drew (S := fun W => Ar W gf 16 (f) ∧ Ar W gq 12 (q) ∧ Ci W gC (f) ∧ Ti W gT (some ⟨gC, 0, none⟩) (s) ∧ Ar W gk 432 (pkF (ek f) sb) ∧ Ar W gx 16 (fun _ => 0) ∧ Ar W go 16 (a) ∧ Sy W gu A3 (0 + 16) (liB 16 t) ∧ Below w.heap.size w W) (by kernel_rfl) ⟨hfx11.drew, hqx11.drew, hCx11.drew, hTx11.drew, hkx11.drew, hxx11.drew, hox11.drew, hux11.drew, hBx11.drew⟩ (fun hHeld => ?_)
    generalize World.drew x11 = tad at *
    refine wpAnyH_take (i := 0) (v := .agg (arL 432 (pkF (ek f) sb)).toArray) rfl (by kernel_rfl) (by kernel_rfl) (by kernel_rfl) (fun _ _ _ h => h) (yieldsIf_load_mid (by rfl) _ _ rfl gk (0) rfl (arL 432 (pkF (ek f) sb)) _ (fun W hSw => hSw.2.2.2.2.1.range) HS.out HW.out (sizeK _)) (by assumption) ?_
    simp only [Act.put, List.setIfInBounds_toArray, List.set_cons_zero, List.set_cons_succ, List.getElem_toArray, List.getElem_cons_zero]
    refine wpAnyH_take (i := 1) (v := .agg (arL 16 (a)).toArray) rfl (by kernel_rfl) (by kernel_rfl) (by kernel_rfl) (fun _ _ _ h => h) (yieldsIf_load_mid (by rfl) _ _ rfl go (0) rfl (arL 16 (a)) _ (fun W hSw => hSw.2.2.2.2.2.2.1.range) Tryd.arr16b rfl (size16b _)) (by assumption) ?_
    simp only [Act.put, List.setIfInBounds_toArray, List.set_cons_zero, List.set_cons_succ, List.getElem_toArray, List.getElem_cons_zero, List.getElem_cons_succ]
    refine wpAnyH_take (i := 2) (v := .agg (arL 432 (pkF (ek f) sb)).toArray) rfl (by kernel_rfl) (by kernel_rfl) (by kernel_rfl) (fun _ _ _ h => h) (yieldsIf_load_mid (by rfl) _ _ rfl gk (0) rfl (arL 432 (pkF (ek f) sb)) _ (fun W hSw => hSw.2.2.2.2.1.range) HS.out HW.out (sizeK _)) (by assumption) ?_
    simp only [Act.put, List.setIfInBounds_toArray, List.set_cons_zero, List.set_cons_succ, List.getElem_toArray, List.getElem_cons_zero, List.getElem_cons_succ]
    refine wpAnyH_ready (rs := [3, 7]) (by kernel_rfl) (by simp) ?_
    refine AllReadyH.cons rfl (fun K hK => ?_) (AllReadyH.cons rfl (fun K hK => ?_) AllReadyH.nil)
    · go_simp
      refine (refstar f _ Hf.out zF_lt).mono ?_
      rintro e ta1 ⟨rfl, hq⟩
      rw [HS0.out]
      go_wp2_with fail
      refine hK.out _ _ ⟨(hHeld.1).to (by omega) hq, (hHeld.2.1).to (by omega) hq, (hHeld.2.2.1).to hq, (hHeld.2.2.2.1).to hq, (hHeld.2.2.2.2.1).to (by omega) hq, (hHeld.2.2.2.2.2.1).to (by omega) hq, (hHeld.2.2.2.2.2.2.1).to (by omega) hq, (hHeld.2.2.2.2.2.2.2.1).to hq, (hHeld.2.2.2.2.2.2.2.2).trans (hq.mono (hHeld.2.2.2.2.2.2.2.2).size)⟩ (fun hHeld2 => ?_)
      clear hK K hHeld hq
      have hHeld := hHeld2
      clear hHeld2
      try simp only [Act.put, List.setIfInBounds_toArray, List.set_cons_zero, List.set_cons_succ, List.getElem_toArray, List.getElem_cons_zero, List.getElem_cons_succ]
      refine wpAnyH_ready (rs := [4, 7]) (by kernel_rfl) (by simp) ?_
      refine AllReadyH.cons rfl (fun K hK => ?_) (AllReadyH.cons rfl (fun K hK => ?_) AllReadyH.nil)
      · go_simp
        refine (refdk0 s _ HSL.out).mono ?_
        rintro e ta2 ⟨rfl, hq⟩
        rw [HDD.out]
        go_wp2_with fail
        refine hK.out _ _ ⟨(hHeld.1).to (by omega) hq, (hHeld.2.1).to (by omega) hq, (hHeld.2.2.1).to hq, (hHeld.2.2.2.1).to hq, (hHeld.2.2.2.2.1).to (by omega) hq, (hHeld.2.2.2.2.2.1).to (by omega) hq, (hHeld.2.2.2.2.2.2.1).to (by omega) hq, (hHeld.2.2.2.2.2.2.2.1).to hq, (hHeld.2.2.2.2.2.2.2.2).trans (hq.mono (hHeld.2.2.2.2.2.2.2.2).size)⟩ (fun hHeld2 => ?_)
        clear hK K hHeld hq
        have hHeld := hHeld2
        clear hHeld2
        try simp only [Act.put, List.setIfInBounds_toArray, List.set_cons_zero, List.set_cons_succ, List.getElem_toArray, List.getElem_cons_zero, List.getElem_cons_succ]
        refine wpAnyH_ready (rs := [5, 7]) (by kernel_rfl) (by simp) ?_
        refine AllReadyH.cons rfl (fun K hK => ?_) (AllReadyH.cons rfl (fun K hK => ?_) AllReadyH.nil)
        · go_simp
          refine (refxor8 a D _ HAB.out HDB.out).mono ?_
          rintro e ta3 ⟨rfl, hq⟩
          go_wp2_with fail
          refine hK.out _ _ ⟨(hHeld.1).to (by omega) hq, (hHeld.2.1).to (by omega) hq, (hHeld.2.2.1).to hq, (hHeld.2.2.2.1).to hq, (hHeld.2.2.2.2.1).to (by omega) hq, (hHeld.2.2.2.2.2.1).to (by omega) hq, (hHeld.2.2.2.2.2.2.1).to (by omega) hq, (hHeld.2.2.2.2.2.2.2.1).to hq, (hHeld.2.2.2.2.2.2.2.2).trans (hq.mono (hHeld.2.2.2.2.2.2.2.2).size)⟩ (fun hHeld2 => ?_)
          clear hK K hHeld hq
          have hHeld := hHeld2
          clear hHeld2
          try simp only [Act.put, List.setIfInBounds_toArray, List.set_cons_zero, List.set_cons_succ, List.getElem_toArray, List.getElem_cons_zero, List.getElem_cons_succ]
          refine wpAnyH_ready (rs := [6, 7]) (by kernel_rfl) (by simp) ?_
          refine AllReadyH.cons rfl (fun K hK => ?_) (AllReadyH.cons rfl (fun K hK => ?_) AllReadyH.nil)
          · go_simp
            refine (refencrypt f (adF a D) _ Hf.out (adF_lt HAB.out HDB.out)).mono ?_
            rintro e ta4 ⟨rfl, hq⟩
            rw [HT.out]
            go_wp2_with fail
            refine hK.out _ _ ⟨(hHeld.1).to (by omega) hq, (hHeld.2.1).to (by omega) hq, (hHeld.2.2.1).to hq, (hHeld.2.2.2.1).to hq, (hHeld.2.2.2.2.1).to (by omega) hq, (hHeld.2.2.2.2.2.1).to (by omega) hq, (hHeld.2.2.2.2.2.2.1).to (by omega) hq, (hHeld.2.2.2.2.2.2.2.1).to hq, (hHeld.2.2.2.2.2.2.2.2).trans (hq.mono (hHeld.2.2.2.2.2.2.2.2).size)⟩ (fun hHeld2 => ?_)
            clear hK K hHeld hq
            have hHeld := hHeld2
            clear hHeld2
            try simp only [Act.put, List.setIfInBounds_toArray, List.set_cons_zero, List.set_cons_succ, List.getElem_toArray, List.getElem_cons_zero, List.getElem_cons_succ]
            refine wpAnyH_ready (rs := [7]) (by kernel_rfl) (by simp) ?_
            refine AllReadyH.cons rfl (fun K hK => ?_) AllReadyH.nil
            obtain ⟨gg, hggg⟩ : ∃ g : Nat, ta4.heap.size = g := ⟨_, rfl⟩
            have hlgogg : go < gg := by rw [← hggg]; exact (hHeld.2.2.2.2.2.2.1).lt (by omega)
            have hlgugg : gu < gg := by rw [← hggg]; exact (hHeld.2.2.2.2.2.2.2.1).lt
            have hq : Below ta4.heap.size ta4 (ta4.alloc (.cells (arL 16 fun _ => 0).toArray 22)) := (Below.refl _ _).alloc (Nat.le_refl _) _
            have hgta5 := Ar.new ta4 16 (fun _ => 0) 22
            rw [hggg] at hgta5
            have hSta5 := show Ar (ta4.alloc (.cells (arL 16 fun _ => 0).toArray 22)) gf 16 (f) ∧ Ar (ta4.alloc (.cells (arL 16 fun _ => 0).toArray 22)) gq 12 (q) ∧ Ci (ta4.alloc (.cells (arL 16 fun _ => 0).toArray 22)) gC (f) ∧ Ti (ta4.alloc (.cells (arL 16 fun _ => 0).toArray 22)) gT (some ⟨gC, 0, none⟩) (s) ∧ Ar (ta4.alloc (.cells (arL 16 fun _ => 0).toArray 22)) gk 432 (pkF (ek f) sb) ∧ Ar (ta4.alloc (.cells (arL 16 fun _ => 0).toArray 22)) gx 16 (fun _ => 0) ∧ Ar (ta4.alloc (.cells (arL 16 fun _ => 0).toArray 22)) go 16 (a) ∧ Sy (ta4.alloc (.cells (arL 16 fun _ => 0).toArray 22)) gu A3 (0 + 16) (liB 16 t) ∧ Below w.heap.size w (ta4.alloc (.cells (arL 16 fun _ => 0).toArray 22)) from ⟨(hHeld.1).to (by omega) hq, (hHeld.2.1).to (by omega) hq, (hHeld.2.2.1).to hq, (hHeld.2.2.2.1).to hq, (hHeld.2.2.2.2.1).to (by omega) hq, (hHeld.2.2.2.2.2.1).to (by omega) hq, (hHeld.2.2.2.2.2.2.1).to (by omega) hq, (hHeld.2.2.2.2.2.2.2.1).to hq, (hHeld.2.2.2.2.2.2.2.2).trans (hq.mono (hHeld.2.2.2.2.2.2.2.2).size)⟩
            go_simp
            obtain ⟨ta5, hwta5⟩ : ∃ V : World, V = ta4.alloc (.cells (arL 16 fun _ => 0).toArray 22) := ⟨_, rfl⟩
            rw [show ta4.alloc (.cells (arL 16 fun _ => 0).toArray 22) = ta5 from hwta5.symm] at hSta5
            have hgta5 : Ar ta5 gg 16 (fun _ => 0) := by rw [hwta5]; exact hgta5
            try rw [hggg]
            rw [← hwta5]
            refine hK.out _ _ hSta5 (fun hHeld2 => ?_)
            clear hK K hHeld hq hSta5 hwta5 hggg
            have hHeld := hHeld2
            clear hHeld2
            try simp only [Act.put, List.setIfInBounds_toArray, List.set_cons_zero, List.set_cons_succ, List.getElem_toArray, List.getElem_cons_zero, List.getElem_cons_succ]
            refine wpAnyH_ready (rs := [8]) (by kernel_rfl) (by simp) ?_
            refine AllReadyH.cons rfl (fun K hK => ?_) AllReadyH.nil
            rw [if_pos (by rfl)]
            refine wp_store_mid _ _ _ rfl gg 0 (arL 16 (t)).toArray rfl rfl hgta5.there (size16b _) (all_oneCell_toArray (arL_one 16 (t))) ?_
            have hgta6 := hgta5.whole (t)
            have hSta6 := show Ar (World.setCells ta5 gg 0 (arL 16 (t))) gf 16 (f) ∧ Ar (World.setCells ta5 gg 0 (arL 16 (t))) gq 12 (q) ∧ Ci (World.setCells ta5 gg 0 (arL 16 (t))) gC (f) ∧ Ti (World.setCells ta5 gg 0 (arL 16 (t))) gT (some ⟨gC, 0, none⟩) (s) ∧ Ar (World.setCells ta5 gg 0 (arL 16 (t))) gk 432 (pkF (ek f) sb) ∧ Ar (World.setCells ta5 gg 0 (arL 16 (t))) gx 16 (fun _ => 0) ∧ Ar (World.setCells ta5 gg 0 (arL 16 (t))) go 16 (a) ∧ Sy (World.setCells ta5 gg 0 (arL 16 (t))) gu A3 (0 + 16) (liB 16 t) ∧ Below w.heap.size w (World.setCells ta5 gg 0 (arL 16 (t))) from ⟨(hHeld.1).apart (b := gg) (by omega) (arL 16 (t)) 0, (hHeld.2.1).apart (b := gg) (by omega) (arL 16 (t)) 0, (hHeld.2.2.1).keep (by omega) (below_setCells _ gg (arL 16 (t)) 0), (hHeld.2.2.2.1).keep (by omega) (below_setCells _ gg (arL 16 (t)) 0), (hHeld.2.2.2.2.1).apart (b := gg) (by omega) (arL 16 (t)) 0, (hHeld.2.2.2.2.2.1).apart (b := gg) (by omega) (arL 16 (t)) 0, (hHeld.2.2.2.2.2.2.1).apart (b := gg) (by omega) (arL 16 (t)) 0, (hHeld.2.2.2.2.2.2.2.1).keep (by omega) (below_setCells _ gg (arL 16 (t)) 0), (hHeld.2.2.2.2.2.2.2.2).trans (Below.setCells (Below.refl w.heap.size _) (b := gg) (by omega) (arL 16 (t)) 0)⟩
            dsimp only [List.toList_toArray]
            generalize World.setCells ta5 gg 0 (arL 16 (t)) = ta6 at *
            refine hK.out _ _ hSta6 (fun hHeld2 => ?_)
            clear hK K hHeld hSta6 hgta5
            have hHeld := hHeld2
            clear hHeld2
            try simp only [Act.put]
            refine wpAnyH_done (by kernel_rfl) ?_ _
            refine NoPanic.normal ?_
            exact ⟨rfl, gg, rfl, hHeld.1, hHeld.2.1, hHeld.2.2.1, hHeld.2.2.2.1, hHeld.2.2.2.2.1, hHeld.2.2.2.2.2.1, hHeld.2.2.2.2.2.2.1, hHeld.2.2.2.2.2.2.2.1, hgta6, by omega, hHeld.2.2.2.2.2.2.2.2⟩
          · obtain ⟨gg, hggg⟩ : ∃ g : Nat, ta3.heap.size = g := ⟨_, rfl⟩
            have hlgogg : go < gg := by rw [← hggg]; exact (hHeld.2.2.2.2.2.2.1).lt (by omega)
            have hlgugg : gu < gg := by rw [← hggg]; exact (hHeld.2.2.2.2.2.2.2.1).lt
            have hq : Below ta3.heap.size ta3 (ta3.alloc (.cells (arL 16 fun _ => 0).toArray 22)) := (Below.refl _ _).alloc (Nat.le_refl _) _
            have hgta7 := Ar.new ta3 16 (fun _ => 0) 22
            rw [hggg] at hgta7
            have hSta7 := show Ar (ta3.alloc (.cells (arL 16 fun _ => 0).toArray 22)) gf 16 (f) ∧ Ar (ta3.alloc (.cells (arL 16 fun _ => 0).toArray 22)) gq 12 (q) ∧ Ci (ta3.alloc (.cells (arL 16 fun _ => 0).toArray 22)) gC (f) ∧ Ti (ta3.alloc (.cells (arL 16 fun _ => 0).toArray 22)) gT (some ⟨gC, 0, none⟩) (s) ∧ Ar (ta3.alloc (.cells (arL 16 fun _ => 0).toArray 22)) gk 432 (pkF (ek f) sb) ∧ Ar (ta3.alloc (.cells (arL 16 fun _ => 0).toArray 22)) gx 16 (fun _ => 0) ∧ Ar (ta3.alloc (.cells (arL 16 fun _ => 0).toArray 22)) go 16 (a) ∧ Sy (ta3.alloc (.cells (arL 16 fun _ => 0).toArray 22)) gu A3 (0 + 16) (liB 16 t) ∧ Below w.heap.size w (ta3.alloc (.cells (arL 16 fun _ => 0).toArray 22)) from ⟨(hHeld.1).to (by omega) hq, (hHeld.2.1).to (by omega) hq, (hHeld.2.2.1).to hq, (hHeld.2.2.2.1).to hq, (hHeld.2.2.2.2.1).to (by omega) hq, (hHeld.2.2.2.2.2.1).to (by omega) hq, (hHeld.2.2.2.2.2.2.1).to (by omega) hq, (hHeld.2.2.2.2.2.2.2.1).to hq, (hHeld.2.2.2.2.2.2.2.2).trans (hq.mono (hHeld.2.2.2.2.2.2.2.2).size)⟩
            go_simp
            obtain ⟨ta7, hwta7⟩ : ∃ V : World, V = ta3.alloc (.cells (arL 16 fun _ => 0).toArray 22) := ⟨_, rfl⟩
            rw [show ta3.alloc (.cells (arL 16 fun _ => 0).toArray 22) = ta7 from hwta7.symm] at hSta7
            have hgta7 : Ar ta7 gg 16 (fun _ => 0) := by rw [hwta7]; exact hgta7
            try rw [hggg]
            rw [← hwta7]
            refine hK.out _ _ hSta7 (fun hHeld2 => ?_)
            clear hK K hHeld hq hSta7 hwta7 hggg
            have hHeld := hHeld2
            clear hHeld2
            try simp only [Act.put, List.setIfInBounds_toArray, List.set_cons_zero, List.set_cons_succ, List.getElem_toArray, List.getElem_cons_zero, List.getElem_cons_succ]
            refine wpAnyH_ready (rs := [6]) (by kernel_rfl) (by simp) ?_
            refine AllReadyH.cons rfl (fun K hK => ?_) AllReadyH.nil
            go_simp
            refine (refencrypt f (adF a D) _ Hf.out (adF_lt HAB.out HDB.out)).mono ?_
            rintro e ta8 ⟨rfl, hq⟩
            rw [HT.out]
            go_wp2_with fail
            have hgta8 := (hgta7).to (by omega) hq
            refine hK.out _ _ ⟨(hHeld.1).to (by omega) hq, (hHeld.2.1).to (by omega) hq, (hHeld.2.2.1).to hq, (hHeld.2.2.2.1).to hq, (hHeld.2.2.2.2.1).to (by omega) hq, (hHeld.2.2.2.2.2.1).to (by omega) hq, (hHeld.2.2.2.2.2.2.1).to (by omega) hq, (hHeld.2.2.2.2.2.2.2.1).to hq, (hHeld.2.2.2.2.2.2.2.2).trans (hq.mono (hHeld.2.2.2.2.2.2.2.2).size)⟩ (fun hHeld2 => ?_)
            clear hK K hHeld hq hgta7
            have hHeld := hHeld2
            clear hHeld2
            try simp only [Act.put, List.setIfInBounds_toArray, List.set_cons_zero, List.set_cons_succ, List.getElem_toArray, List.getElem_cons_zero, List.getElem_cons_succ]
            refine wpAnyH_ready (rs := [8]) (by kernel_rfl) (by simp) ?_
            refine AllReadyH.cons rfl (fun K hK => ?_) AllReadyH.nil
            rw [if_pos (by rfl)]
            refine wp_store_mid _ _ _ rfl gg 0 (arL 16 (t)).toArray rfl rfl hgta8.there (size16b _) (all_oneCell_toArray (arL_one 16 (t))) ?_
            have hgta9 := hgta8.whole (t)
            have hSta9 := show Ar (World.setCells ta8 gg 0 (arL 16 (t))) gf 16 (f) ∧ Ar (World.setCells ta8 gg 0 (arL 16 (t))) gq 12 (q) ∧ Ci (World.setCells ta8 gg 0 (arL 16 (t))) gC (f) ∧ Ti (World.setCells ta8 gg 0 (arL 16 (t))) gT (some ⟨gC, 0, none⟩) (s) ∧ Ar (World.setCells ta8 gg 0 (arL 16 (t))) gk 432 (pkF (ek f) sb) ∧ Ar (World.setCells ta8 gg 0 (arL 16 (t))) gx 16 (fun _ => 0) ∧ Ar (World.setCells ta8 gg 0 (arL 16 (t))) go 16 (a) ∧ Sy (World.setCells ta8 gg 0 (arL 16 (t))) gu A3 (0 + 16) (liB 16 t) ∧ Below w.heap.size w (World.setCells ta8 gg 0 (arL 16 (t))) from ⟨(hHeld.1).apart (b := gg) (by omega) (arL 16 (t)) 0, (hHeld.2.1).apart (b := gg) (by omega) (arL 16 (t)) 0, (hHeld.2.2.1).keep (by omega) (below_setCells _ gg (arL 16 (t)) 0), (hHeld.2.2.2.1).keep (by omega) (below_setCells _ gg (arL 16 (t)) 0), (hHeld.2.2.2.2.1).apart (b := gg) (by omega) (arL 16 (t)) 0, (hHeld.2.2.2.2.2.1).apart (b := gg) (by omega) (arL 16 (t)) 0, (hHeld.2.2.2.2.2.2.1).apart (b := gg) (by omega) (arL 16 (t)) 0, (hHeld.2.2.2.2.2.2.2.1).keep (by omega) (below_setCells _ gg (arL 16 (t)) 0), (hHeld.2.2.2.2.2.2.2.2).trans (Below.setCells (Below.refl w.heap.size _) (b := gg) (by omega) (arL 16 (t)) 0)⟩
            dsimp only [List.toList_toArray]
            generalize World.setCells ta8 gg 0 (arL 16 (t)) = ta9 at *
            refine hK.out _ _ hSta9 (fun hHeld2 => ?_)
            clear hK K hHeld hSta9 hgta8
            have hHeld := hHeld2
            clear hHeld2
            try simp only [Act.put]
            refine wpAnyH_done (by kernel_rfl) ?_ _
            refine NoPanic.normal ?_
            exact ⟨rfl, gg, rfl, hHeld.1, hHeld.2.1, hHeld.2.2.1, hHeld.2.2.2.1, hHeld.2.2.2.2.1, hHeld.2.2.2.2.2.1, hHeld.2.2.2.2.2.2.1, hHeld.2.2.2.2.2.2.2.1, hgta9, by omega, hHeld.2.2.2.2.2.2.2.2⟩
        · obtain ⟨gg, hggg⟩ : ∃ g : Nat, ta2.heap.size = g := ⟨_, rfl⟩
          have hlgogg : go < gg := by rw [← hggg]; exact (hHeld.2.2.2.2.2.2.1).lt (by omega)
          have hlgugg : gu < gg := by rw [← hggg]; exact (hHeld.2.2.2.2.2.2.2.1).lt
          have hq : Below ta2.heap.size ta2 (ta2.alloc (.cells (arL 16 fun _ => 0).toArray 22)) := (Below.refl _ _).alloc (Nat.le_refl _) _
          have hgta10 := Ar.new ta2 16 (fun _ => 0) 22
          rw [hggg] at hgta10
          have hSta10 := show Ar (ta2.alloc (.cells (arL 16 fun _ => 0).toArray 22)) gf 16 (f) ∧ Ar (ta2.alloc (.cells (arL 16 fun _ => 0).toArray 22)) gq 12 (q) ∧ Ci (ta2.alloc (.cells (arL 16 fun _ => 0).toArray 22)) gC (f) ∧ Ti (ta2.alloc (.cells (arL 16 fun _ => 0).toArray 22)) gT (some ⟨gC, 0, none⟩) (s) ∧ Ar (ta2.alloc (.cells (arL 16 fun _ => 0).toArray 22)) gk 432 (pkF (ek f) sb) ∧ Ar (ta2.alloc (.cells (arL 16 fun _ => 0).toArray 22)) gx 16 (fun _ => 0) ∧ Ar (ta2.alloc (.cells (arL 16 fun _ => 0).toArray 22)) go 16 (a) ∧ Sy (ta2.alloc (.cells (arL 16 fun _ => 0).toArray 22)) gu A3 (0 + 16) (liB 16 t) ∧ Below w.heap.size w (ta2.alloc (.cells (arL 16 fun _ => 0).toArray 22)) from ⟨(hHeld.1).to (by omega) hq, (hHeld.2.1).to (by omega) hq, (hHeld.2.2.1).to hq, (hHeld.2.2.2.1).to hq, (hHeld.2.2.2.2.1).to (by omega) hq, (hHeld.2.2.2.2.2.1).to (by omega) hq, (hHeld.2.2.2.2.2.2.1).to (by omega) hq, (hHeld.2.2.2.2.2.2.2.1).to hq, (hHeld.2.2.2.2.2.2.2.2).trans (hq.mono (hHeld.2.2.2.2.2.2.2.2).size)⟩
          go_simp
          obtain ⟨ta10, hwta10⟩ : ∃ V : World, V = ta2.alloc (.cells (arL 16 fun _ => 0).toArray 22) := ⟨_, rfl⟩
          rw [show ta2.alloc (.cells (arL 16 fun _ => 0).toArray 22) = ta10 from hwta10.symm] at hSta10
          have hgta10 : Ar ta10 gg 16 (fun _ => 0) := by rw [hwta10]; exact hgta10
          try rw [hggg]
          rw [← hwta10]
          refine hK.out _ _ hSta10 (fun hHeld2 => ?_)
          clear hK K hHeld hq hSta10 hwta10 hggg
          have hHeld := hHeld2
          clear hHeld2
          try simp only [Act.put, List.setIfInBounds_toArray, List.set_cons_zero, List.set_cons_succ, List.getElem_toArray, List.getElem_cons_zero, List.getElem_cons_succ]
          refine wpAnyH_ready (rs := [5]) (by kernel_rfl) (by simp) ?_
          refine AllReadyH.cons rfl (fun K hK => ?_) AllReadyH.nil
          go_simp
          refine (refxor8 a D _ HAB.out HDB.out).mono ?_
          rintro e ta11 ⟨rfl, hq⟩
          go_wp2_with fail
          have hgta11 := (hgta10).to (by omega) hq
          refine hK.out _ _ ⟨(hHeld.1).to (by omega) hq, (hHeld.2.1).to (by omega) hq, (hHeld.2.2.1).to hq, (hHeld.2.2.2.1).to hq, (hHeld.2.2.2.2.1).to (by omega) hq, (hHeld.2.2.2.2.2.1).to (by omega) hq, (hHeld.2.2.2.2.2.2.1).to (by omega) hq, (hHeld.2.2.2.2.2.2.2.1).to hq, (hHeld.2.2.2.2.2.2.2.2).trans (hq.mono (hHeld.2.2.2.2.2.2.2.2).size)⟩ (fun hHeld2 => ?_)
          clear hK K hHeld hq hgta10
          have hHeld := hHeld2
          clear hHeld2
          try simp only [Act.put, List.setIfInBounds_toArray, List.set_cons_zero, List.set_cons_succ, List.getElem_toArray, List.getElem_cons_zero, List.getElem_cons_succ]
          refine wpAnyH_ready (rs := [6]) (by kernel_rfl) (by simp) ?_
          refine AllReadyH.cons rfl (fun K hK => ?_) AllReadyH.nil
          go_simp
          refine (refencrypt f (adF a D) _ Hf.out (adF_lt HAB.out HDB.out)).mono ?_
          rintro e ta12 ⟨rfl, hq⟩
          rw [HT.out]
          go_wp2_with fail
          have hgta12 := (hgta11).to (by omega) hq
          refine hK.out _ _ ⟨(hHeld.1).to (by omega) hq, (hHeld.2.1).to (by omega) hq, (hHeld.2.2.1).to hq, (hHeld.2.2.2.1).to hq, (hHeld.2.2.2.2.1).to (by omega) hq, (hHeld.2.2.2.2.2.1).to (by omega) hq, (hHeld.2.2.2.2.2.2.1).to (by omega) hq, (hHeld.2.2.2.2.2.2.2.1).to hq, (hHeld.2.2.2.2.2.2.2.2).trans (hq.mono (hHeld.2.2.2.2.2.2.2.2).size)⟩ (fun hHeld2 => ?_)
          clear hK K hHeld hq hgta11
          have hHeld := hHeld2
          clear hHeld2
          try simp only [Act.put, List.setIfInBounds_toArray, List.set_cons_zero, List.set_cons_succ, List.getElem_toArray, List.getElem_cons_zero, List.getElem_cons_succ]
          refine wpAnyH_ready (rs := [8]) (by kernel_rfl) (by simp) ?_
          refine AllReadyH.cons rfl (fun K hK => ?_) AllReadyH.nil
          rw [if_pos (by rfl)]
          refine wp_store_mid _ _ _ rfl gg 0 (arL 16 (t)).toArray rfl rfl hgta12.there (size16b _) (all_oneCell_toArray (arL_one 16 (t))) ?_
          have hgta13 := hgta12.whole (t)
          have hSta13 := show Ar (World.setCells ta12 gg 0 (arL 16 (t))) gf 16 (f) ∧ Ar (World.setCells ta12 gg 0 (arL 16 (t))) gq 12 (q) ∧ Ci (World.setCells ta12 gg 0 (arL 16 (t))) gC (f) ∧ Ti (World.setCells ta12 gg 0 (arL 16 (t))) gT (some ⟨gC, 0, none⟩) (s) ∧ Ar (World.setCells ta12 gg 0 (arL 16 (t))) gk 432 (pkF (ek f) sb) ∧ Ar (World.setCells ta12 gg 0 (arL 16 (t))) gx 16 (fun _ => 0) ∧ Ar (World.setCells ta12 gg 0 (arL 16 (t))) go 16 (a) ∧ Sy (World.setCells ta12 gg 0 (arL 16 (t))) gu A3 (0 + 16) (liB 16 t) ∧ Below w.heap.size w (World.setCells ta12 gg 0 (arL 16 (t))) from ⟨(hHeld.1).apart (b := gg) (by omega) (arL 16 (t)) 0, (hHeld.2.1).apart (b := gg) (by omega) (arL 16 (t)) 0, (hHeld.2.2.1).keep (by omega) (below_setCells _ gg (arL 16 (t)) 0), (hHeld.2.2.2.1).keep (by omega) (below_setCells _ gg (arL 16 (t)) 0), (hHeld.2.2.2.2.1).apart (b := gg) (by omega) (arL 16 (t)) 0, (hHeld.2.2.2.2.2.1).apart (b := gg) (by omega) (arL 16 (t)) 0, (hHeld.2.2.2.2.2.2.1).apart (b := gg) (by omega) (arL 16 (t)) 0, (hHeld.2.2.2.2.2.2.2.1).keep (by omega) (below_setCells _ gg (arL 16 (t)) 0), (hHeld.2.2.2.2.2.2.2.2).trans (Below.setCells (Below.refl w.heap.size _) (b := gg) (by omega) (arL 16 (t)) 0)⟩
          dsimp only [List.toList_toArray]
          generalize World.setCells ta12 gg 0 (arL 16 (t)) = ta13 at *
          refine hK.out _ _ hSta13 (fun hHeld2 => ?_)
          clear hK K hHeld hSta13 hgta12
          have hHeld := hHeld2
          clear hHeld2
          try simp only [Act.put]
          refine wpAnyH_done (by kernel_rfl) ?_ _
          refine NoPanic.normal ?_
          exact ⟨rfl, gg, rfl, hHeld.1, hHeld.2.1, hHeld.2.2.1, hHeld.2.2.2.1, hHeld.2.2.2.2.1, hHeld.2.2.2.2.2.1, hHeld.2.2.2.2.2.2.1, hHeld.2.2.2.2.2.2.2.1, hgta13, by omega, hHeld.2.2.2.2.2.2.2.2⟩
      · obtain ⟨gg, hggg⟩ : ∃ g : Nat, ta1.heap.size = g := ⟨_, rfl⟩
        have hlgogg : go < gg := by rw [← hggg]; exact (hHeld.2.2.2.2.2.2.1).lt (by omega)
        have hlgugg : gu < gg := by rw [← hggg]; exact (hHeld.2.2.2.2.2.2.2.1).lt
        have hq : Below ta1.heap.size ta1 (ta1.alloc (.cells (arL 16 fun _ => 0).toArray 22)) := (Below.refl _ _).alloc (Nat.le_refl _) _
        have hgta14 := Ar.new ta1 16 (fun _ => 0) 22
        rw [hggg] at hgta14
        have hSta14 := show Ar (ta1.alloc (.cells (arL 16 fun _ => 0).toArray 22)) gf 16 (f) ∧ Ar (ta1.alloc (.cells (arL 16 fun _ => 0).toArray 22)) gq 12 (q) ∧ Ci (ta1.alloc (.cells (arL 16 fun _ => 0).toArray 22)) gC (f) ∧ Ti (ta1.alloc (.cells (arL 16 fun _ => 0).toArray 22)) gT (some ⟨gC, 0, none⟩) (s) ∧ Ar (ta1.alloc (.cells (arL 16 fun _ => 0).toArray 22)) gk 432 (pkF (ek f) sb) ∧ Ar (ta1.alloc (.cells (arL 16 fun _ => 0).toArray 22)) gx 16 (fun _ => 0) ∧ Ar (ta1.alloc (.cells (arL 16 fun _ => 0).toArray 22)) go 16 (a) ∧ Sy (ta1.alloc (.cells (arL 16 fun _ => 0).toArray 22)) gu A3 (0 + 16) (liB 16 t) ∧ Below w.heap.size w (ta1.alloc (.cells (arL 16 fun _ => 0).toArray 22)) from ⟨(hHeld.1).to (by omega) hq, (hHeld.2.1).to (by omega) hq, (hHeld.2.2.1).to hq, (hHeld.2.2.2.1).to hq, (hHeld.2.2.2.2.1).to (by omega) hq, (hHeld.2.2.2.2.2.1).to (by omega) hq, (hHeld.2.2.2.2.2.2.1).to (by omega) hq, (hHeld.2.2.2.2.2.2.2.1).to hq, (hHeld.2.2.2.2.2.2.2.2).trans (hq.mono (hHeld.2.2.2.2.2.2.2.2).size)⟩
        go_simp
        obtain ⟨ta14, hwta14⟩ : ∃ V : World, V = ta1.alloc (.cells (arL 16 fun _ => 0).toArray 22) := ⟨_, rfl⟩
        rw [show ta1.alloc (.cells (arL 16 fun _ => 0).toArray 22) = ta14 from hwta14.symm] at hSta14
        have hgta14 : Ar ta14 gg 16 (fun _ => 0) := by rw [hwta14]; exact hgta14
        try rw [hggg]
        rw [← hwta14]
        refine hK.out _ _ hSta14 (fun hHeld2 => ?_)
        clear hK K hHeld hq hSta14 hwta14 hggg
        have hHeld := hHeld2
        clear hHeld2
        try simp only [Act.put, List.setIfInBounds_toArray, List.set_cons_zero, List.set_cons_succ, List.getElem_toArray, List.getElem_cons_zero, List.getElem_cons_succ]
        refine wpAnyH_ready (rs := [4]) (by kernel_rfl) (by simp) ?_
        refine AllReadyH.cons rfl (fun K hK => ?_) AllReadyH.nil
        go_simp
        refine (refdk0 s _ HSL.out).mono ?_
        rintro e ta15 ⟨rfl, hq⟩
        rw [HDD.out]
        go_wp2_with fail
        have hgta15 := (hgta14).to (by omega) hq
        refine hK.out _ _ ⟨(hHeld.1).to (by omega) hq, (hHeld.2.1).to (by omega) hq, (hHeld.2.2.1).to hq, (hHeld.2.2.2.1).to hq, (hHeld.2.2.2.2.1).to (by omega) hq, (hHeld.2.2.2.2.2.1).to (by omega) hq, (hHeld.2.2.2.2.2.2.1).to (by omega) hq, (hHeld.2.2.2.2.2.2.2.1).to hq, (hHeld.2.2.2.2.2.2.2.2).trans (hq.mono (hHeld.2.2.2.2.2.2.2.2).size)⟩ (fun hHeld2 => ?_)
        clear hK K hHeld hq hgta14
        have hHeld := hHeld2
        clear hHeld2
        try simp only [Act.put, List.setIfInBounds_toArray, List.set_cons_zero, List.set_cons_succ, List.getElem_toArray, List.getElem_cons_zero, List.getElem_cons_succ]
        refine wpAnyH_ready (rs := [5]) (by kernel_rfl) (by simp) ?_
        refine AllReadyH.cons rfl (fun K hK => ?_) AllReadyH.nil
        go_simp
        refine (refxor8 a D _ HAB.out HDB.out).mono ?_
        rintro e ta16 ⟨rfl, hq⟩
        go_wp2_with fail
        have hgta16 := (hgta15).to (by omega) hq
        refine hK.out _ _ ⟨(hHeld.1).to (by omega) hq, (hHeld.2.1).to (by omega) hq, (hHeld.2.2.1).to hq, (hHeld.2.2.2.1).to hq, (hHeld.2.2.2.2.1).to (by omega) hq, (hHeld.2.2.2.2.2.1).to (by omega) hq, (hHeld.2.2.2.2.2.2.1).to (by omega) hq, (hHeld.2.2.2.2.2.2.2.1).to hq, (hHeld.2.2.2.2.2.2.2.2).trans (hq.mono (hHeld.2.2.2.2.2.2.2.2).size)⟩ (fun hHeld2 => ?_)
        clear hK K hHeld hq hgta15
        have hHeld := hHeld2
        clear hHeld2
        try simp only [Act.put, List.setIfInBounds_toArray, List.set_cons_zero, List.set_cons_succ, List.getElem_toArray, List.getElem_cons_zero, List.getElem_cons_succ]
        refine wpAnyH_ready (rs := [6]) (by kernel_rfl) (by simp) ?_
        refine AllReadyH.cons rfl (fun K hK => ?_) AllReadyH.nil
        go_simp
        refine (refencrypt f (adF a D) _ Hf.out (adF_lt HAB.out HDB.out)).mono ?_
        rintro e ta17 ⟨rfl, hq⟩
        rw [HT.out]
        go_wp2_with fail
        have hgta17 := (hgta16).to (by omega) hq
        refine hK.out _ _ ⟨(hHeld.1).to (by omega) hq, (hHeld.2.1).to (by omega) hq, (hHeld.2.2.1).to hq, (hHeld.2.2.2.1).to hq, (hHeld.2.2.2.2.1).to (by omega) hq, (hHeld.2.2.2.2.2.1).to (by omega) hq, (hHeld.2.2.2.2.2.2.1).to (by omega) hq, (hHeld.2.2.2.2.2.2.2.1).to hq, (hHeld.2.2.2.2.2.2.2.2).trans (hq.mono (hHeld.2.2.2.2.2.2.2.2).size)⟩ (fun hHeld2 => ?_)
        clear hK K hHeld hq hgta16
        have hHeld := hHeld2
        clear hHeld2
        try simp only [Act.put, List.setIfInBounds_toArray, List.set_cons_zero, List.set_cons_succ, List.getElem_toArray, List.getElem_cons_zero, List.getElem_cons_succ]
        refine wpAnyH_ready (rs := [8]) (by kernel_rfl) (by simp) ?_
        refine AllReadyH.cons rfl (fun K hK => ?_) AllReadyH.nil
        rw [if_pos (by rfl)]
        refine wp_store_mid _ _ _ rfl gg 0 (arL 16 (t)).toArray rfl rfl hgta17.there (size16b _) (all_oneCell_toArray (arL_one 16 (t))) ?_
        have hgta18 := hgta17.whole (t)
        have hSta18 := show Ar (World.setCells ta17 gg 0 (arL 16 (t))) gf 16 (f) ∧ Ar (World.setCells ta17 gg 0 (arL 16 (t))) gq 12 (q) ∧ Ci (World.setCells ta17 gg 0 (arL 16 (t))) gC (f) ∧ Ti (World.setCells ta17 gg 0 (arL 16 (t))) gT (some ⟨gC, 0, none⟩) (s) ∧ Ar (World.setCells ta17 gg 0 (arL 16 (t))) gk 432 (pkF (ek f) sb) ∧ Ar (World.setCells ta17 gg 0 (arL 16 (t))) gx 16 (fun _ => 0) ∧ Ar (World.setCells ta17 gg 0 (arL 16 (t))) go 16 (a) ∧ Sy (World.setCells ta17 gg 0 (arL 16 (t))) gu A3 (0 + 16) (liB 16 t) ∧ Below w.heap.size w (World.setCells ta17 gg 0 (arL 16 (t))) from ⟨(hHeld.1).apart (b := gg) (by omega) (arL 16 (t)) 0, (hHeld.2.1).apart (b := gg) (by omega) (arL 16 (t)) 0, (hHeld.2.2.1).keep (by omega) (below_setCells _ gg (arL 16 (t)) 0), (hHeld.2.2.2.1).keep (by omega) (below_setCells _ gg (arL 16 (t)) 0), (hHeld.2.2.2.2.1).apart (b := gg) (by omega) (arL 16 (t)) 0, (hHeld.2.2.2.2.2.1).apart (b := gg) (by omega) (arL 16 (t)) 0, (hHeld.2.2.2.2.2.2.1).apart (b := gg) (by omega) (arL 16 (t)) 0, (hHeld.2.2.2.2.2.2.2.1).keep (by omega) (below_setCells _ gg (arL 16 (t)) 0), (hHeld.2.2.2.2.2.2.2.2).trans (Below.setCells (Below.refl w.heap.size _) (b := gg) (by omega) (arL 16 (t)) 0)⟩
        dsimp only [List.toList_toArray]
        generalize World.setCells ta17 gg 0 (arL 16 (t)) = ta18 at *
        refine hK.out _ _ hSta18 (fun hHeld2 => ?_)
        clear hK K hHeld hSta18 hgta17
        have hHeld := hHeld2
        clear hHeld2
        try simp only [Act.put]
        refine wpAnyH_done (by kernel_rfl) ?_ _
        refine NoPanic.normal ?_
        exact ⟨rfl, gg, rfl, hHeld.1, hHeld.2.1, hHeld.2.2.1, hHeld.2.2.2.1, hHeld.2.2.2.2.1, hHeld.2.2.2.2.2.1, hHeld.2.2.2.2.2.2.1, hHeld.2.2.2.2.2.2.2.1, hgta18, by omega, hHeld.2.2.2.2.2.2.2.2⟩
    · obtain ⟨gg, hggg⟩ : ∃ g : Nat, tad.heap.size = g := ⟨_, rfl⟩
      have hlgogg : go < gg := by rw [← hggg]; exact (hHeld.2.2.2.2.2.2.1).lt (by omega)
      have hlgugg : gu < gg := by rw [← hggg]; exact (hHeld.2.2.2.2.2.2.2.1).lt
      have hq : Below tad.heap.size tad (tad.alloc (.cells (arL 16 fun _ => 0).toArray 22)) := (Below.refl _ _).alloc (Nat.le_refl _) _
      have hgta19 := Ar.new tad 16 (fun _ => 0) 22
      rw [hggg] at hgta19
      have hSta19 := show Ar (tad.alloc (.cells (arL 16 fun _ => 0).toArray 22)) gf 16 (f) ∧ Ar (tad.alloc (.cells (arL 16 fun _ => 0).toArray 22)) gq 12 (q) ∧ Ci (tad.alloc (.cells (arL 16 fun _ => 0).toArray 22)) gC (f) ∧ Ti (tad.alloc (.cells (arL 16 fun _ => 0).toArray 22)) gT (some ⟨gC, 0, none⟩) (s) ∧ Ar (tad.alloc (.cells (arL 16 fun _ => 0).toArray 22)) gk 432 (pkF (ek f) sb) ∧ Ar (tad.alloc (.cells (arL 16 fun _ => 0).toArray 22)) gx 16 (fun _ => 0) ∧ Ar (tad.alloc (.cells (arL 16 fun _ => 0).toArray 22)) go 16 (a) ∧ Sy (tad.alloc (.cells (arL 16 fun _ => 0).toArray 22)) gu A3 (0 + 16) (liB 16 t) ∧ Below w.heap.size w (tad.alloc (.cells (arL 16 fun _ => 0).toArray 22)) from ⟨(hHeld.1).to (by omega) hq, (hHeld.2.1).to (by omega) hq, (hHeld.2.2.1).to hq, (hHeld.2.2.2.1).to hq, (hHeld.2.2.2.2.1).to (by omega) hq, (hHeld.2.2.2.2.2.1).to (by omega) hq, (hHeld.2.2.2.2.2.2.1).to (by omega) hq, (hHeld.2.2.2.2.2.2.2.1).to hq, (hHeld.2.2.2.2.2.2.2.2).trans (hq.mono (hHeld.2.2.2.2.2.2.2.2).size)⟩
      go_simp
      obtain ⟨ta19, hwta19⟩ : ∃ V : World, V = tad.alloc (.cells (arL 16 fun _ => 0).toArray 22) := ⟨_, rfl⟩
      rw [show tad.alloc (.cells (arL 16 fun _ => 0).toArray 22) = ta19 from hwta19.symm] at hSta19
      have hgta19 : Ar ta19 gg 16 (fun _ => 0) := by rw [hwta19]; exact hgta19
      try rw [hggg]
      rw [← hwta19]
      refine hK.out _ _ hSta19 (fun hHeld2 => ?_)
      clear hK K hHeld hq hSta19 hwta19 hggg
      have hHeld := hHeld2
      clear hHeld2
      try simp only [Act.put, List.setIfInBounds_toArray, List.set_cons_zero, List.set_cons_succ, List.getElem_toArray, List.getElem_cons_zero, List.getElem_cons_succ]
      refine wpAnyH_ready (rs := [3]) (by kernel_rfl) (by simp) ?_
      refine AllReadyH.cons rfl (fun K hK => ?_) AllReadyH.nil
      go_simp
      refine (refstar f _ Hf.out zF_lt).mono ?_
      rintro e ta20 ⟨rfl, hq⟩
      rw [HS0.out]
      go_wp2_with fail
      have hgta20 := (hgta19).to (by omega) hq
      refine hK.out _ _ ⟨(hHeld.1).to (by omega) hq, (hHeld.2.1).to (by omega) hq, (hHeld.2.2.1).to hq, (hHeld.2.2.2.1).to hq, (hHeld.2.2.2.2.1).to (by omega) hq, (hHeld.2.2.2.2.2.1).to (by omega) hq, (hHeld.2.2.2.2.2.2.1).to (by omega) hq, (hHeld.2.2.2.2.2.2.2.1).to hq, (hHeld.2.2.2.2.2.2.2.2).trans (hq.mono (hHeld.2.2.2.2.2.2.2.2).size)⟩ (fun hHeld2 => ?_)
      clear hK K hHeld hq hgta19
      have hHeld := hHeld2
      clear hHeld2
      try simp only [Act.put, List.setIfInBounds_toArray, List.set_cons_zero, List.set_cons_succ, List.getElem_toArray, List.getElem_cons_zero, List.getElem_cons_succ]
      refine wpAnyH_ready (rs := [4]) (by kernel_rfl) (by simp) ?_
      refine AllReadyH.cons rfl (fun K hK => ?_) AllReadyH.nil
      go_simp
      refine (refdk0 s _ HSL.out).mono ?_
      rintro e ta21 ⟨rfl, hq⟩
      rw [HDD.out]
      go_wp2_with fail
      have hgta21 := (hgta20).to (by omega) hq
      refine hK.out _ _ ⟨(hHeld.1).to (by omega) hq, (hHeld.2.1).to (by omega) hq, (hHeld.2.2.1).to hq, (hHeld.2.2.2.1).to hq, (hHeld.2.2.2.2.1).to (by omega) hq, (hHeld.2.2.2.2.2.1).to (by omega) hq, (hHeld.2.2.2.2.2.2.1).to (by omega) hq, (hHeld.2.2.2.2.2.2.2.1).to hq, (hHeld.2.2.2.2.2.2.2.2).trans (hq.mono (hHeld.2.2.2.2.2.2.2.2).size)⟩ (fun hHeld2 => ?_)
      clear hK K hHeld hq hgta20
      have hHeld := hHeld2
      clear hHeld2
      try simp only [Act.put, List.setIfInBounds_toArray, List.set_cons_zero, List.set_cons_succ, List.getElem_toArray, List.getElem_cons_zero, List.getElem_cons_succ]
      refine wpAnyH_ready (rs := [5]) (by kernel_rfl) (by simp) ?_
      refine AllReadyH.cons rfl (fun K hK => ?_) AllReadyH.nil
      go_simp
      refine (refxor8 a D _ HAB.out HDB.out).mono ?_
      rintro e ta22 ⟨rfl, hq⟩
      go_wp2_with fail
      have hgta22 := (hgta21).to (by omega) hq
      refine hK.out _ _ ⟨(hHeld.1).to (by omega) hq, (hHeld.2.1).to (by omega) hq, (hHeld.2.2.1).to hq, (hHeld.2.2.2.1).to hq, (hHeld.2.2.2.2.1).to (by omega) hq, (hHeld.2.2.2.2.2.1).to (by omega) hq, (hHeld.2.2.2.2.2.2.1).to (by omega) hq, (hHeld.2.2.2.2.2.2.2.1).to hq, (hHeld.2.2.2.2.2.2.2.2).trans (hq.mono (hHeld.2.2.2.2.2.2.2.2).size)⟩ (fun hHeld2 => ?_)
      clear hK K hHeld hq hgta21
      have hHeld := hHeld2
      clear hHeld2
      try simp only [Act.put, List.setIfInBounds_toArray, List.set_cons_zero, List.set_cons_succ, List.getElem_toArray, List.getElem_cons_zero, List.getElem_cons_succ]
      refine wpAnyH_ready (rs := [6]) (by kernel_rfl) (by simp) ?_
      refine AllReadyH.cons rfl (fun K hK => ?_) AllReadyH.nil
      go_simp
      refine (refencrypt f (adF a D) _ Hf.out (adF_lt HAB.out HDB.out)).mono ?_
      rintro e ta23 ⟨rfl, hq⟩
      rw [HT.out]
      go_wp2_with fail
      have hgta23 := (hgta22).to (by omega) hq
      refine hK.out _ _ ⟨(hHeld.1).to (by omega) hq, (hHeld.2.1).to (by omega) hq, (hHeld.2.2.1).to hq, (hHeld.2.2.2.1).to hq, (hHeld.2.2.2.2.1).to (by omega) hq, (hHeld.2.2.2.2.2.1).to (by omega) hq, (hHeld.2.2.2.2.2.2.1).to (by omega) hq, (hHeld.2.2.2.2.2.2.2.1).to hq, (hHeld.2.2.2.2.2.2.2.2).trans (hq.mono (hHeld.2.2.2.2.2.2.2.2).size)⟩ (fun hHeld2 => ?_)
      clear hK K hHeld hq hgta22
      have hHeld := hHeld2
      clear hHeld2
      try simp only [Act.put, List.setIfInBounds_toArray, List.set_cons_zero, List.set_cons_succ, List.getElem_toArray, List.getElem_cons_zero, List.getElem_cons_succ]
      refine wpAnyH_ready (rs := [8]) (by kernel_rfl) (by simp) ?_
      refine AllReadyH.cons rfl (fun K hK => ?_) AllReadyH.nil
      rw [if_pos (by rfl)]
      refine wp_store_mid _ _ _ rfl gg 0 (arL 16 (t)).toArray rfl rfl hgta23.there (size16b _) (all_oneCell_toArray (arL_one 16 (t))) ?_
      have hgta24 := hgta23.whole (t)
      have hSta24 := show Ar (World.setCells ta23 gg 0 (arL 16 (t))) gf 16 (f) ∧ Ar (World.setCells ta23 gg 0 (arL 16 (t))) gq 12 (q) ∧ Ci (World.setCells ta23 gg 0 (arL 16 (t))) gC (f) ∧ Ti (World.setCells ta23 gg 0 (arL 16 (t))) gT (some ⟨gC, 0, none⟩) (s) ∧ Ar (World.setCells ta23 gg 0 (arL 16 (t))) gk 432 (pkF (ek f) sb) ∧ Ar (World.setCells ta23 gg 0 (arL 16 (t))) gx 16 (fun _ => 0) ∧ Ar (World.setCells ta23 gg 0 (arL 16 (t))) go 16 (a) ∧ Sy (World.setCells ta23 gg 0 (arL 16 (t))) gu A3 (0 + 16) (liB 16 t) ∧ Below w.heap.size w (World.setCells ta23 gg 0 (arL 16 (t))) from ⟨(hHeld.1).apart (b := gg) (by omega) (arL 16 (t)) 0, (hHeld.2.1).apart (b := gg) (by omega) (arL 16 (t)) 0, (hHeld.2.2.1).keep (by omega) (below_setCells _ gg (arL 16 (t)) 0), (hHeld.2.2.2.1).keep (by omega) (below_setCells _ gg (arL 16 (t)) 0), (hHeld.2.2.2.2.1).apart (b := gg) (by omega) (arL 16 (t)) 0, (hHeld.2.2.2.2.2.1).apart (b := gg) (by omega) (arL 16 (t)) 0, (hHeld.2.2.2.2.2.2.1).apart (b := gg) (by omega) (arL 16 (t)) 0, (hHeld.2.2.2.2.2.2.2.1).keep (by omega) (below_setCells _ gg (arL 16 (t)) 0), (hHeld.2.2.2.2.2.2.2.2).trans (Below.setCells (Below.refl w.heap.size _) (b := gg) (by omega) (arL 16 (t)) 0)⟩
      dsimp only [List.toList_toArray]
      generalize World.setCells ta23 gg 0 (arL 16 (t)) = ta24 at *
      refine hK.out _ _ hSta24 (fun hHeld2 => ?_)
      clear hK K hHeld hSta24 hgta23
      have hHeld := hHeld2
      clear hHeld2
      try simp only [Act.put]
      refine wpAnyH_done (by kernel_rfl) ?_ _
      refine NoPanic.normal ?_
      exact ⟨rfl, gg, rfl, hHeld.1, hHeld.2.1, hHeld.2.2.1, hHeld.2.2.2.1, hHeld.2.2.2.2.1, hHeld.2.2.2.2.2.1, hHeld.2.2.2.2.2.2.1, hHeld.2.2.2.2.2.2.2.1, hgta24, by omega, hHeld.2.2.2.2.2.2.2.2⟩
  rintro gg x12 ⟨hfx12, hqx12, hCx12, hTx12, hkx12, hxx12, hox12, hux12, hgx12, hlgg, hBx12⟩
  clear hfx11 hqx11 hCx11 hTx11 hkx11 hxx11 hox11 hux11 hBx11
  have heq := fun X => eq16_true (f := X) (g := X) (fun _ _ => rfl)
  have hgd := Tryd.eqg16
  have hfl := run_fieldO
  go_upto_region 8 with fail
  refine wp_region_held_drew (S := fun W => Ar W gf 16 (f) ∧ Ar W gq 12 (q) ∧ Ci W gC (f) ∧ Ti W gT (some ⟨gC, 0, none⟩) (s) ∧ Ar W gk 432 (pkF (ek f) sb) ∧ Ar W gx 16 (fun _ => 0) ∧ Ar W go 16 (a) ∧ Sy W gu A3 (0 + 16) (liB 16 t) ∧ Ar W gg 16 (t) ∧ Below w.heap.size w W) (by kernel_rfl) ⟨hfx12.drew, hqx12.drew, hCx12.drew, hTx12.drew, hkx12.drew, hxx12.drew, hox12.drew, hux12.drew, hgx12.drew, hBx12.drew⟩ (fun hHeld => ?_)
  clear hfx12 hqx12 hCx12 hTx12 hkx12 hxx12 hox12 hux12 hgx12 hBx12 
  generalize World.drew x12 = qd at *
  refine wpAnyH_take (i := 0) (v := ?vq1) rfl (by kernel_rfl) (by kernel_rfl) (by kernel_rfl) (fun _ _ _ h => h) (Or.inl ⟨by rfl, ?hyq1⟩) (by assumption) ?restq1
  case hyq1 =>
    intro W hSw
    go_simp
    try with_reducible rfl
  simp only [Act.put, List.setIfInBounds_toArray, List.set_cons_zero, List.set_cons_succ, List.getElem_toArray, List.getElem_cons_zero]
  refine wpAnyH_take (i := 1) (v := ?vq2) rfl (by kernel_rfl) (by kernel_rfl) (by kernel_rfl) (fun _ _ _ h => h) (Or.inl ⟨by rfl, ?hyq2⟩) (by assumption) ?restq2
  case hyq2 =>
    intro W hSw
    go_simp
    try with_reducible rfl
  simp only [Act.put, List.setIfInBounds_toArray, List.set_cons_zero, List.set_cons_succ, List.getElem_toArray, List.getElem_cons_zero, List.getElem_cons_succ]
  refine wpAnyH_take (i := 2) (v := ?vq3) rfl (by kernel_rfl) (by kernel_rfl) (by kernel_rfl) (fun _ _ _ h => h) (Or.inl ⟨by rfl, ?hyq3⟩) (by assumption) ?restq3
  case hyq3 =>
    intro W hSw
    go_simp
    try with_reducible rfl
  simp only [Act.put, List.setIfInBounds_toArray, List.set_cons_zero, List.set_cons_succ, List.getElem_toArray, List.getElem_cons_zero, List.getElem_cons_succ]
  refine wpAnyH_take (i := 3) (v := ?vq4) rfl (by kernel_rfl) (by kernel_rfl) (by kernel_rfl) (fun _ _ _ h => h) (Or.inl ⟨by rfl, ?hyq4⟩) (by assumption) ?restq4
  case hyq4 =>
    intro W hSw
    go_simp
    try with_reducible rfl
  simp only [Act.put, List.setIfInBounds_toArray, List.set_cons_zero, List.set_cons_succ, List.getElem_toArray, List.getElem_cons_zero, List.getElem_cons_succ]
  refine wpAnyH_take (i := 4) (v := .agg (arL 16 (fun _ => 0)).toArray) rfl (by kernel_rfl) (by kernel_rfl) (by kernel_rfl) (fun _ _ _ h => h) (yieldsIf_load_mid (by rfl) _ _ rfl gx (0) rfl (arL 16 (fun _ => 0)) _ (fun W hSw => hSw.2.2.2.2.2.1.range) Tryd.arr16b rfl (size16b _)) (by assumption) ?_
  simp only [Act.put, List.setIfInBounds_toArray, List.set_cons_zero, List.set_cons_succ, List.getElem_toArray, List.getElem_cons_zero, List.getElem_cons_succ]
  refine wpAnyH_take (i := 5) (v := ?vq5) rfl (by kernel_rfl) (by kernel_rfl) (by kernel_rfl) (fun _ _ _ h => h) (Or.inl ⟨by rfl, ?hyq5⟩) (by assumption) ?restq5
  case hyq5 =>
    intro W hSw
    go_simp
    try with_reducible rfl
  simp only [Act.put, List.setIfInBounds_toArray, List.set_cons_zero, List.set_cons_succ, List.getElem_toArray, List.getElem_cons_zero, List.getElem_cons_succ]
  refine wpAnyH_take (i := 6) (v := ?vq6) rfl (by kernel_rfl) (by kernel_rfl) (by kernel_rfl) (fun _ _ _ h => h) (Or.inl ⟨by rfl, ?hyq6⟩) (by assumption) ?restq6
  case hyq6 =>
    intro W hSw
    go_simp
    try with_reducible rfl
  simp only [Act.put, List.setIfInBounds_toArray, List.set_cons_zero, List.set_cons_succ, List.getElem_toArray, List.getElem_cons_zero, List.getElem_cons_succ]
  refine wpAnyH_take (i := 7) (v := ?vq7) rfl (by kernel_rfl) (by kernel_rfl) (by kernel_rfl) (fun _ _ _ h => h) (Or.inl ⟨by rfl, ?hyq7⟩) (by assumption) ?restq7
  case hyq7 =>
    intro W hSw
    go_simp
    try with_reducible rfl
  simp only [Act.put, List.setIfInBounds_toArray, List.set_cons_zero, List.set_cons_succ, List.getElem_toArray, List.getElem_cons_zero, List.getElem_cons_succ]
  refine wpAnyH_take (i := 8) (v := ?vq8) rfl (by kernel_rfl) (by kernel_rfl) (by kernel_rfl) (fun _ _ _ h => h) (Or.inl ⟨by rfl, ?hyq8⟩) (by assumption) ?restq8
  case hyq8 =>
    intro W hSw
    go_simp
    try with_reducible rfl
  simp only [Act.put, List.setIfInBounds_toArray, List.set_cons_zero, List.set_cons_succ, List.getElem_toArray, List.getElem_cons_zero, List.getElem_cons_succ]
  refine wpAnyH_take (i := 9) (v := ?vq9) rfl (by kernel_rfl) (by kernel_rfl) (by kernel_rfl) (fun _ _ _ h => h) (Or.inl ⟨by rfl, ?hyq9⟩) (by assumption) ?restq9
  case hyq9 =>
    intro W hSw
    go_simp
    try with_reducible rfl
  simp only [Act.put, List.setIfInBounds_toArray, List.set_cons_zero, List.set_cons_succ, List.getElem_toArray, List.getElem_cons_zero, List.getElem_cons_succ]
  refine wpAnyH_take (i := 10) (v := ?vq10) rfl (by kernel_rfl) (by kernel_rfl) (by kernel_rfl) (fun _ _ _ h => h) (Or.inl ⟨by rfl, ?hyq10⟩) (by assumption) ?restq10
  case hyq10 =>
    intro W hSw
    have hsla := slice16all2
    go_simp
    try with_reducible rfl
  simp only [Act.put, List.setIfInBounds_toArray, List.set_cons_zero, List.set_cons_succ, List.getElem_toArray, List.getElem_cons_zero, List.getElem_cons_succ]
  refine wpAnyH_ready (rs := [11]) (by kernel_rfl) (by simp) ?_
  refine AllReadyH.cons rfl (fun K hK => ?_) AllReadyH.nil
  go_simp
  refine (same_true A3 _ 16 c3 16 (liB 16 t) _ (hHeld.2.2.2.2.2.2.2.1).sl (sl_arr (hHeld.2.2.2.2.2.2.2.2.1) htb.out) (by omega)).mono ?_
  rintro e q11 ⟨rfl, hq⟩
  go_wp2_with fail
  refine hK.out _ _ ⟨(hHeld.1).to (by omega) hq, (hHeld.2.1).to (by omega) hq, (hHeld.2.2.1).to hq, (hHeld.2.2.2.1).to hq, (hHeld.2.2.2.2.1).to (by omega) hq, (hHeld.2.2.2.2.2.1).to (by omega) hq, (hHeld.2.2.2.2.2.2.1).to (by omega) hq, (hHeld.2.2.2.2.2.2.2.1).to hq, (hHeld.2.2.2.2.2.2.2.2.1).to (by omega) hq, (hHeld.2.2.2.2.2.2.2.2.2).trans (hq.mono (hHeld.2.2.2.2.2.2.2.2.2).size)⟩ (fun hHeld2 => ?_)
  clear hK K hHeld hq
  have hHeld := hHeld2
  clear hHeld2
  try simp only [Act.put, List.setIfInBounds_toArray, List.set_cons_zero, List.set_cons_succ, List.getElem_toArray, List.getElem_cons_zero, List.getElem_cons_succ]
  refine wpAnyH_take (i := 12) (v := ?vq12) rfl (by kernel_rfl) (by kernel_rfl) (by kernel_rfl) (fun _ _ _ h => h) (Or.inl ⟨by rfl, ?hyq12⟩) (by assumption) ?restq12
  case hyq12 =>
    intro W hSw
    go_simp
    try with_reducible rfl
  simp only [Act.put, List.setIfInBounds_toArray, List.set_cons_zero, List.set_cons_succ, List.getElem_toArray, List.getElem_cons_zero, List.getElem_cons_succ]
  refine wpAnyH_take (i := 13) (v := ?vq13) rfl (by kernel_rfl) (by kernel_rfl) (by kernel_rfl) (fun _ _ _ h => h) (Or.inl ⟨by rfl, ?hyq13⟩) (by assumption) ?restq13
  case hyq13 =>
    intro W hSw
    go_simp
    try with_reducible rfl
  simp only [Act.put, List.setIfInBounds_toArray, List.set_cons_zero, List.set_cons_succ, List.getElem_toArray, List.getElem_cons_zero, List.getElem_cons_succ]
  refine wpAnyH_take (i := 14) (v := .agg (arL 16 (a)).toArray) rfl (by kernel_rfl) (by kernel_rfl) (by kernel_rfl) (fun _ _ _ h => h) (yieldsIf_load_mid (by rfl) _ _ rfl go (0) rfl (arL 16 (a)) _ (fun W hSw => hSw.2.2.2.2.2.2.1.range) Tryd.arr16b rfl (size16b _)) (by assumption) ?_
  simp only [Act.put, List.setIfInBounds_toArray, List.set_cons_zero, List.set_cons_succ, List.getElem_toArray, List.getElem_cons_zero, List.getElem_cons_succ]
  refine wpAnyH_take (i := 15) (v := .agg (arL 432 (pkF (ek f) sb)).toArray) rfl (by kernel_rfl) (by kernel_rfl) (by kernel_rfl) (fun _ _ _ h => h) (yieldsIf_load_mid (by rfl) _ _ rfl gk (0) rfl (arL 432 (pkF (ek f) sb)) _ (fun W hSw => hSw.2.2.2.2.1.range) HS.out HW.out (sizeK _)) (by assumption) ?_
  simp only [Act.put, List.setIfInBounds_toArray, List.set_cons_zero, List.set_cons_succ, List.getElem_toArray, List.getElem_cons_zero, List.getElem_cons_succ]
  refine wpAnyH_take (i := 16) (v := .agg (arL 12 (q)).toArray) rfl (by kernel_rfl) (by kernel_rfl) (by kernel_rfl) (fun _ _ _ h => h) (yieldsIf_load_mid (by rfl) _ _ rfl gq (0) rfl (arL 12 (q)) _ (fun W hSw => hSw.2.1.range) Tryd.arr12 rfl (size12 _)) (by assumption) ?_
  simp only [Act.put, List.setIfInBounds_toArray, List.set_cons_zero, List.set_cons_succ, List.getElem_toArray, List.getElem_cons_zero, List.getElem_cons_succ]
  refine wpAnyH_ready (rs := [17]) (by kernel_rfl) (by simp) ?_
  refine AllReadyH.cons rfl (fun K hK => ?_) AllReadyH.nil
  go_simp
  refine (rcrypt f q s a none 0 0 [] _ Hf.out Hq.out HS0.out HA.out (sl_nil _ _) (Nat.le_refl _) (by omega)).mono ?_
  rintro e q14 ⟨A5, c5, rfl, hO5, hq⟩
  clear hO5
  rw [cs_nil, of_nil]
  go_wp2_with fail
  refine hK.out _ _ ⟨(hHeld.1).to (by omega) hq, (hHeld.2.1).to (by omega) hq, (hHeld.2.2.1).to hq, (hHeld.2.2.2.1).to hq, (hHeld.2.2.2.2.1).to (by omega) hq, (hHeld.2.2.2.2.2.1).to (by omega) hq, (hHeld.2.2.2.2.2.2.1).to (by omega) hq, (hHeld.2.2.2.2.2.2.2.1).to hq, (hHeld.2.2.2.2.2.2.2.2.1).to (by omega) hq, (hHeld.2.2.2.2.2.2.2.2.2).trans (hq.mono (hHeld.2.2.2.2.2.2.2.2.2).size)⟩ (fun hHeld2 => ?_)
  clear hK K hHeld hq
  have hHeld := hHeld2
  clear hHeld2
  try simp only [Act.put, List.setIfInBounds_toArray, List.set_cons_zero, List.set_cons_succ, List.getElem_toArray, List.getElem_cons_zero, List.getElem_cons_succ]
  refine wpAnyH_take (i := 18) (v := ?vq15) rfl (by kernel_rfl) (by kernel_rfl) (by kernel_rfl) (fun _ _ _ h => h) (Or.inl ⟨by rfl, ?hyq15⟩) (by assumption) ?restq15
  case hyq15 =>
    intro W hSw
    go_simp
    try with_reducible rfl
  simp only [Act.put, List.setIfInBounds_toArray, List.set_cons_zero, List.set_cons_succ, List.getElem_toArray, List.getElem_cons_zero, List.getElem_cons_succ]
  refine wpAnyH_take (i := 19) (v := ?vq16) rfl (by kernel_rfl) (by kernel_rfl) (by kernel_rfl) (fun _ _ _ h => h) (Or.inl ⟨by rfl, ?hyq16⟩) (by assumption) ?restq16
  case hyq16 =>
    intro W hSw
    go_simp
    try with_reducible rfl
  simp only [Act.put, List.setIfInBounds_toArray, List.set_cons_zero, List.set_cons_succ, List.getElem_toArray, List.getElem_cons_zero, List.getElem_cons_succ]
  refine wpAnyH_take (i := 20) (v := ?vq17) rfl (by kernel_rfl) (by kernel_rfl) (by kernel_rfl) (fun _ _ _ h => h) (Or.inl ⟨by rfl, ?hyq17⟩) (by assumption) ?restq17
  case hyq17 =>
    intro W hSw
    go_simp
    try with_reducible rfl
  simp only [Act.put, List.setIfInBounds_toArray, List.set_cons_zero, List.set_cons_succ, List.getElem_toArray, List.getElem_cons_zero, List.getElem_cons_succ]
  refine wpAnyH_take (i := 21) (v := ?vq18) rfl (by kernel_rfl) (by kernel_rfl) (by kernel_rfl) (fun _ _ _ h => h) (Or.inl ⟨by rfl, ?hyq18⟩) (by assumption) ?restq18
  case hyq18 =>
    intro W hSw
    go_simp
    try with_reducible rfl
  simp only [Act.put, List.setIfInBounds_toArray, List.set_cons_zero, List.set_cons_succ, List.getElem_toArray, List.getElem_cons_zero, List.getElem_cons_succ]
  refine wpAnyH_done (by kernel_rfl) ?_ _
  have hBe := hHeld.2.2.2.2.2.2.2.2.2
  clear hHeld
  go_wp2_with fail
  go_ret
  exact ⟨rfl, hBe⟩
end Go.Proofs.YthapnnbdoecoaaaDoor
