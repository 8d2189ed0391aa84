/-
  The walk of the law SealParts of layer 12: for every key and every nonce, all bytes and every block it returns true, and writes nothing that was there.
-/
import Derived.Test.YthapnnbdoecoaaaDoorSeg
import Derived.Deep.RegionHeld3
namespace Go.Proofs.YthapnnbdoecoaaaDoor
open Go.RowKit
set_option linter.unusedVariables false
set_option maxRecDepth 100000
set_option linter.unusedSimpArgs false

set_option maxHeartbeats 8000000 in
theorem sparts (f : Nat → Nat) (q : Nat → Nat) (A : Option Addr) (n c : Nat) (l : List UInt8) (g : Nat → Nat) (w : World) (hf : ∀ j, j < 16 → f j < 256) (hq : ∀ j, j < 12 → q j < 256) (hS : Sl w w.heap.size A n l) (hnc : n ≤ c) (hcm : c ≤ maxLen) (hg : ∀ j, j < 16 → g j < 256) (hs : Boxes w) :
    Calls Tryd.prog 4 #[.agg (arL 16 f).toArray, .agg (arL 12 q).toArray, .slice A n c, .agg (arL 16 g).toArray] w fun e w' => e = .returned (.bool true) ∧ Below w.heap.size w w' := by
  have HX := Lib.hid hs
  have hz := zero16b
  have hz12 := zero12
  have hzK := zeroK
  have z0 := run_zero16
  have hlen := hS.len
  have HLEN := Lib.hid hlen
  have HSS := Lib.hid hS
  have HNC := Lib.hid hnc
  have hn63 : n ≤ 9223372036854775807 := by have h := hcm; simp [maxLen] at h; omega
  clear hlen hS hnc hcm
  have hzR := zeroR
  obtain ⟨dK, hfs, hrow⟩ := Tryd.structK
  have HS := Lib.hid hfs
  have HW := Lib.hid hrow
  clear hfs hrow
  obtain ⟨i0, hi0, hz0, hz1, hz2⟩ := info_parts info8x
  have HI0 := Lib.hid hi0
  have HZ0 := Lib.hid hz0
  have HZ1 := Lib.hid hz1
  have HZ2 := Lib.hid hz2
  clear hi0 hz0 hz1 hz2
  have Hf := Lib.hid hf
  have Hq := Lib.hid hq
  have Hg := Lib.hid hg
  obtain ⟨kf, hkf⟩ : ∃ k : Array Value, (arL 16 f).toArray = k := ⟨_, rfl⟩
  obtain ⟨kq, hkq⟩ : ∃ k : Array Value, (arL 12 q).toArray = k := ⟨_, rfl⟩
  obtain ⟨kg, hkg⟩ : ∃ k : Array Value, (arL 16 g).toArray = k := ⟨_, rfl⟩
  obtain ⟨w1, hw1⟩ : ∃ V : World, V = w.alloc (.cells (arL 16 f).toArray 22) := ⟨_, rfl⟩
  have hs1 : w1.heap.size = w.heap.size + 1 := by rw [hw1]; simp
  have hBw1 : Below w.heap.size w w1 := by rw [hw1]; exact (Below.refl _ _).alloc (Nat.le_refl _) _
  have hfw1 : Ar w1 w.heap.size 16 f := by rw [hw1]; exact Ar.new w 16 f _
  obtain ⟨w2, hw2⟩ : ∃ V : World, V = w1.alloc (.cells (arL 12 q).toArray 23) := ⟨_, rfl⟩
  have hs2 : w2.heap.size = w.heap.size + 2 := by rw [hw2]; simp [hs1]
  have hBw2 : Below w.heap.size w w2 := by rw [hw2]; exact hBw1.alloc (by omega) _
  have hfw2 := hfw1.alloc (by omega) (.cells (arL 12 q).toArray 23)
  rw [← hw2] at hfw2
  have hqw2 : Ar w2 (w.heap.size + 1) 12 q := by rw [hw2, ← hs1]; exact Ar.new w1 12 q _
  obtain ⟨w3, hw3⟩ : ∃ V : World, V = w2.alloc (.cells (arL 16 g).toArray 22) := ⟨_, rfl⟩
  have hs3 : w3.heap.size = w.heap.size + 3 := by rw [hw3]; simp [hs2]
  have hBw3 : Below w.heap.size w w3 := by rw [hw3]; exact hBw2.alloc (by omega) _
  have hfw3 := hfw2.alloc (by omega) (.cells (arL 16 g).toArray 22)
  rw [← hw3] at hfw3
  have hqw3 := hqw2.alloc (by omega) (.cells (arL 16 g).toArray 22)
  rw [← hw3] at hqw3
  have hgw3 : Ar w3 (w.heap.size + 2) 16 g := by rw [hw3, ← hs2]; exact Ar.new w2 16 g _
  rw [hkf] at hw1
  rw [hkq] at hw2
  rw [hkg] at hw3
  rw [hkf, hkq, hkg]
  clear hkf hkq hkg hs hf hq hg
  go_enter Tryd.func4, Tryd.ntmps4
  go_upto_region 1 with fail
  rw [← hw1, ← hw2, ← hw3]
  clear hw1 hw2 hw3
  try simp only [Nat.add_assoc, Nat.reduceAdd]
  obtain ⟨gf, hgf⟩ : ∃ g : Nat, w.heap.size = g := ⟨_, rfl⟩
  obtain ⟨gq, hgq⟩ : ∃ g : Nat, w.heap.size + 1 = g := ⟨_, rfl⟩
  obtain ⟨gg, hgg⟩ : ∃ g : Nat, w.heap.size + 2 = g := ⟨_, rfl⟩
  rw [hgf] at hfw3
  rw [hgq] at hqw3
  rw [hgg] at hgw3
  try rw [hgg]
  try rw [hgq]
  try simp only [hgf]
  have hlf : w.heap.size ≤ gf := by omega
  have hlq : w.heap.size ≤ gq := by omega
  have hlg : w.heap.size ≤ gg := by omega
  have hltq : gf < gq := by omega
  have hltg : gq < gg := by omega
  clear hgq hgg hs1 hs2 hs3
  go_wp2_with fail
  refine (sawake _ (HX.out.keep hBw3)).mono ?_
  rintro e x1 ⟨rfl, hq⟩
  have hfx1 := (hfw3).to (by omega) hq
  have hqx1 := (hqw3).to (by omega) hq
  have hgx1 := (hgw3).to (by omega) hq
  have hBx1 := hBw3.trans (hq.mono hBw3.size)
  clear hq hfw3 hqw3 hgw3 hBw3
  by_cases h150 : 150 < n
  · have h151 : (150 : Int) < (n : Int) := by omega
    go_wp2_with fail
    refine (sawake _ (HX.out.keep hBx1)).mono ?_
    rintro e x2 ⟨rfl, hq⟩
    have hfx2 := (hfx1).to (by omega) hq
    have hqx2 := (hqx1).to (by omega) hq
    have hgx2 := (hgx1).to (by omega) hq
    have hBx2 := hBx1.trans (hq.mono hBx1.size)
    clear hq hfx1 hqx1 hgx1 hBx1
    go_wp2_with fail
    go_ret
    exact ⟨rfl, hBx2⟩
  · have h151 : ¬ (150 : Int) < (n : Int) := by omega
    have hn6 := Lib.hid (show n ≤ 1000000 by omega)
    obtain ⟨s, hs0⟩ : ∃ s : Nat → Nat, enF f zF = s := ⟨_, rfl⟩
    have HS0 := Lib.hid hs0
    have HSL := Lib.hid (show B16 s by rw [← hs0]; exact enR_lt Hf.out zF_lt 10)
    clear hs0
    go_wp2_with (refine wpList_load_ar rfl _ _ rfl _ _ _ rfl hfx1 Tryd.arr16b (size16b _) ?_)
    refine (fnew f _ Hf.out (HX.out.keep hBx1)).mono ?_
    rintro e x3 ⟨gC, rfl, hgC, hCx3, hq⟩
    have hfx3 := (hfx1).to (by omega) hq
    have hqx3 := (hqx1).to (by omega) hq
    have hgx3 := (hgx1).to (by omega) hq
    have hBx3 := hBx1.trans (hq.mono hBx1.size)
    clear hq hfx1 hqx1 hgx1 hBx1
    go_wp2_with fail
    refine (tnew (some ⟨gC, 0, none⟩) f _ Hf.out (exp_made gC f _ hCx3) (HX.out.keep hBx3)).mono ?_
    rintro e x4 ⟨gT, rfl, hgT, hTx4, hq⟩
    rw [HS0.out] at hTx4
    have hfx4 := (hfx3).to (by omega) hq
    have hqx4 := (hqx3).to (by omega) hq
    have hgx4 := (hgx3).to (by omega) hq
    have hCx4 := (hCx3).to hq
    have hBx4 := hBx3.trans (hq.mono hBx3.size)
    clear hq hfx3 hqx3 hgx3 hCx3 hBx3
    clear h151 h150
    obtain ⟨a, ha⟩ : ∃ a : Nat → Nat, o0F (enF f (nbF q)) (q 11) = a := ⟨_, rfl⟩
    have HA := Lib.hid ha
    have HAB := Lib.hid (show B16 a by rw [← ha]; exact o0F_lt (enR_lt Hf.out (nbF_lt Hq.out) 10) _)
    clear ha
    go_wp2_with (refine wpList_load_ar rfl _ _ rfl _ _ _ rfl hfx4 Tryd.arr16b (size16b _) ?_)
    refine (refprepare f _ Hf.out).mono ?_
    rintro e x5 ⟨rfl, hq⟩
    have hfx5 := (hfx4).to (by omega) hq
    have hqx5 := (hqx4).to (by omega) hq
    have hgx5 := (hgx4).to (by omega) hq
    have hCx5 := (hCx4).to hq
    have hTx5 := (hTx4).to hq
    have hBx5 := hBx4.trans (hq.mono hBx4.size)
    clear hq hfx4 hqx4 hgx4 hCx4 hTx4 hBx4
    obtain ⟨gk, hgk⟩ : ∃ g : Nat, x5.heap.size = g := ⟨_, rfl⟩
    have hlgfgk : gf < gk := by rw [← hgk]; exact hfx5.lt (by omega)
    have hlgqgk : gq < gk := by rw [← hgk]; exact hqx5.lt (by omega)
    have hlgggk : gg < gk := by rw [← hgk]; exact hgx5.lt (by omega)
    have hlgCgk : gC < gk := by rw [← hgk]; exact hCx5.lt
    have hlgTgk : gT < gk := by rw [← hgk]; exact hTx5.lt
    have hlwgk : w.heap.size ≤ gk := by rw [← hgk]; exact hBx5.size
    have hq : Below x5.heap.size x5 (x5.alloc (.cells (arL 432 fun _ => 0).toArray 36)) := (Below.refl _ _).alloc (Nat.le_refl _) _
    have hfx6a := (hfx5).to (by omega) hq
    have hqx6a := (hqx5).to (by omega) hq
    have hgx6a := (hgx5).to (by omega) hq
    have hCx6a := (hCx5).to hq
    have hTx6a := (hTx5).to hq
    have hkx6a := Ar.new x5 432 (fun _ => 0) 36
    have hBx6a := hBx5.alloc hBx5.size (.cells (arL 432 fun _ => 0).toArray 36)
    rw [hgk] at hkx6a
    clear hq hfx5 hqx5 hgx5 hCx5 hTx5 hBx5
    go_upto_region 5 with (first | (refine wpList_store_ar rfl _ _ _ rfl _ _ _ (pkF (ek f) sb) rfl rfl hkx6a (sizeK _) ?_; intro x6 hkx6 belx6 sizx6 keex6) | fail)
    have hfx6 := (hfx6a).keep hlgfgk belx6
    have hqx6 := (hqx6a).keep hlgqgk belx6
    have hgx6 := (hgx6a).keep hlgggk belx6
    have hCx6 := (hCx6a).keep hlgCgk belx6
    have hTx6 := (hTx6a).keep hlgTgk belx6
    have hBx6 := hBx6a.trans (belx6.mono hlwgk)
    clear hfx6a hqx6a hgx6a hCx6a hTx6a hkx6a hBx6a belx6 sizx6 keex6 hgk
    try dsimp only [Act.put]
    go_wp2_with (refine wpList_load_ar rfl _ _ rfl _ _ _ rfl hqx6 Tryd.arr12 (size12 _) ?_)
    refine (scrypt (some ⟨gT, 0, none⟩) f s q a A n c l _ Hf.out HS0.out Hq.out HA.out ((HSS.out.below hBx6).more hBx6.size) HNC.out hn6.out (wtabs gT gC f s _ HS0.out (hTx6) (hCx6)) (HX.out.keep hBx6)).mono ?_
    rintro e x7 ⟨A2, c2, rfl, hc0, hcc, hq⟩
    clear hcc
    obtain ⟨gc, hgc⟩ : ∃ g, x7.heap.size - 1 = g := ⟨_, rfl⟩
    have hcx7 : Sy x7 gc A2 (n) (ctL f s a l) := by rw [← hgc]; exact Sy.new hc0 (Nat.lt_of_lt_of_le (Nat.zero_lt_of_lt (hCx6.lt)) hq.size)
    clear hc0 hgc
    have hfx7 := (hfx6).to (by omega) hq
    have hqx7 := (hqx6).to (by omega) hq
    have hgx7 := (hgx6).to (by omega) hq
    have hCx7 := (hCx6).to hq
    have hTx7 := (hTx6).to hq
    have hkx7 := (hkx6).to (by omega) hq
    have hBx7 := hBx6.trans (hq.mono hBx6.size)
    clear hq hfx6 hqx6 hgx6 hCx6 hTx6 hkx6 hBx6
    have hgb := Lib.hid (csF_lt l)
    have hob := Lib.hid (ofF_lt HSL.out HAB.out n)
    obtain ⟨G, hG⟩ : ∃ G, csF l = G := ⟨_, rfl⟩
    obtain ⟨O, hO⟩ : ∃ O, ofF s a n = O := ⟨_, rfl⟩
    have HG := Lib.hid hG
    have HO := Lib.hid hO
    rw [hG] at hgb
    rw [hO] at hob
    rw [hG, hO]
    clear hG hO
    obtain ⟨v8, hv8⟩ : ∃ V : World, V = x7.alloc (.cells (arL 16 fun _ => 0).toArray 22) := ⟨_, rfl⟩
    have hsv8 : v8.heap.size = x7.heap.size + 1 := by rw [hv8]; simp
    have hq : Below x7.heap.size x7 v8 := by rw [hv8]; exact (Below.refl _ _).alloc (Nat.le_refl _) _
    have hfv8 := (hfx7).to (by omega) hq
    have hqv8 := (hqx7).to (by omega) hq
    have hgv8 := (hgx7).to (by omega) hq
    have hCv8 := (hCx7).to hq
    have hTv8 := (hTx7).to hq
    have hkv8 := (hkx7).to (by omega) hq
    have hcv8 := (hcx7).to hq
    have hBv8 := hBx7.trans (hq.mono hBx7.size)
    have hxv8 : Ar v8 x7.heap.size 16 (fun _ => 0) := by rw [hv8]; exact Ar.new x7 16 _ _
    have hlgfgx : gf < x7.heap.size := hfx7.lt (by omega)
    have hlgqgx : gq < x7.heap.size := hqx7.lt (by omega)
    have hlgggx : gg < x7.heap.size := hgx7.lt (by omega)
    have hlgCgx : gC < x7.heap.size := hCx7.lt
    have hlgTgx : gT < x7.heap.size := hTx7.lt
    have hlgkgx : gk < x7.heap.size := hkx7.lt (by omega)
    have hlgcgx : gc < x7.heap.size := hcx7.lt
    have hlwgx : w.heap.size ≤ x7.heap.size := hBx7.size
    clear hq hfx7 hqx7 hgx7 hCx7 hTx7 hkx7 hcx7 hBx7
    obtain ⟨v9, hv9⟩ : ∃ V : World, V = v8.alloc (.cells (arL 16 fun _ => 0).toArray 22) := ⟨_, rfl⟩
    have hq : Below v8.heap.size v8 v9 := by rw [hv9]; exact (Below.refl _ _).alloc (Nat.le_refl _) _
    have hfv9 := (hfv8).to (by omega) hq
    have hqv9 := (hqv8).to (by omega) hq
    have hgv9 := (hgv8).to (by omega) hq
    have hCv9 := (hCv8).to hq
    have hTv9 := (hTv8).to hq
    have hkv9 := (hkv8).to (by omega) hq
    have hcv9 := (hcv8).to hq
    have hxv9 := hxv8.to (by omega) hq
    have hBv9 := hBv8.trans (hq.mono hBv8.size)
    have hov9 : Ar v9 (x7.heap.size + 1) 16 (fun _ => 0) := by rw [hv9, ← hsv8]; exact Ar.new v8 16 _ _
    clear hq hsv8 hfv8 hqv8 hgv8 hCv8 hTv8 hkv8 hcv8 hxv8 hBv8
    go_upto_region 6 with (first | (refine wpList_store_ar rfl _ _ _ rfl _ _ _ (G) rfl rfl (by rw [← hv8, ← hv9]; exact hxv9) (size16b _) ?_; intro x10 hxx10 bel8 siz8 kee8) | (refine wpList_store_ar rfl _ _ _ rfl _ _ _ (O) rfl rfl (kee8 _ _ _ (by omega) (by rw [← hv8, ← hv9]; exact hov9)) (size16b _) ?_; intro x11 hox11 bel9 siz9 kee9) | fail)
    rw [← hv8, ← hv9] at bel8
    obtain ⟨gx, hgx⟩ : ∃ g : Nat, x7.heap.size = g := ⟨_, rfl⟩
    obtain ⟨go, hgo⟩ : ∃ g : Nat, x7.heap.size + 1 = g := ⟨_, rfl⟩
    have hlgxgo : gx < go := by omega
    try rw [hgo]
    try rw [hgx]
    rw [hgx] at hxx10 bel8 hlwgx hlgfgx hlgqgx hlgggx hlgCgx hlgTgx hlgkgx hlgcgx
    rw [hgo] at hox11 bel9
    have hxx11 := hxx10.keep hlgxgo bel9
    have hfx11 := (hfv9.keep hlgfgx bel8).keep (Nat.lt_trans hlgfgx hlgxgo) bel9
    have hqx11 := (hqv9.keep hlgqgx bel8).keep (Nat.lt_trans hlgqgx hlgxgo) bel9
    have hgx11 := (hgv9.keep hlgggx bel8).keep (Nat.lt_trans hlgggx hlgxgo) bel9
    have hCx11 := (hCv9.keep hlgCgx bel8).keep (Nat.lt_trans hlgCgx hlgxgo) bel9
    have hTx11 := (hTv9.keep hlgTgx bel8).keep (Nat.lt_trans hlgTgx hlgxgo) bel9
    have hkx11 := (hkv9.keep hlgkgx bel8).keep (Nat.lt_trans hlgkgx hlgxgo) bel9
    have hcx11 := (hcv9.keep hlgcgx bel8).keep (Nat.lt_trans hlgcgx hlgxgo) bel9
    have hBx11 := (hBv9.trans (bel8.mono hlwgx)).trans (bel9.mono (Nat.le_trans hlwgx (Nat.le_of_lt hlgxgo)))
    clear hxx10 bel8 bel9 hfv9 hqv9 hgv9 hCv9 hTv9 hkv9 hcv9 hxv9 hov9 hBv9 siz8 siz9 kee8 kee9 hv8 hv9 hgx hgo
    try dsimp only [Act.put]
    go_wp2_with (first | (refine wpList_load_mid rfl _ _ rfl gk 0 rfl (arL 432 (pkF (ek f) sb)) _ hkx11.range HS.out HW.out (sizeK _) ?_) | (refine wpList_load_ar rfl _ _ rfl _ _ _ rfl hqx11 Tryd.arr12 (size12 _) ?_))
    refine (rcrypt f q s a A n c l _ Hf.out Hq.out HS0.out HA.out ((HSS.out.below hBx11).more hBx11.size) HNC.out hn6.out).mono ?_
    rintro e x12 ⟨A5, c5, rfl, hO5, hq⟩
    have hw0 := Sl.of_own hO5
    clear hO5
    obtain ⟨gw, hgw⟩ : ∃ g, x12.heap.size - 1 = g := ⟨_, rfl⟩
    have hwx12 : Sy x12 gw A5 (n) (ctL f s a l) := by rw [← hgw]; exact Sy.new hw0 (Nat.lt_of_lt_of_le (Nat.zero_lt_of_lt (hCx11.lt)) hq.size)
    clear hw0 hgw
    rw [HG.out, HO.out]
    have hfx12 := (hfx11).to (by omega) hq
    have hqx12 := (hqx11).to (by omega) hq
    have hgx12 := (hgx11).to (by omega) hq
    have hCx12 := (hCx11).to hq
    have hTx12 := (hTx11).to hq
    have hkx12 := (hkx11).to (by omega) hq
    have hcx12 := (hcx11).to hq
    have hxx12 := (hxx11).to (by omega) hq
    have hox12 := (hox11).to (by omega) hq
    have hBx12 := hBx11.trans (hq.mono hBx11.size)
    clear hq hfx11 hqx11 hgx11 hCx11 hTx11 hkx11 hcx11 hxx11 hox11 hBx11
    obtain ⟨v1, hv1⟩ : ∃ V : World, V = x12.alloc (.cells (rsL (.slice none 0 0) (fun _ => 0) (fun _ => 0)).toArray 43) := ⟨_, rfl⟩
    have hq : Below x12.heap.size x12 v1 := by rw [hv1]; exact (Below.refl _ _).alloc (Nat.le_refl _) _
    have hfv1 := (hfx12).to (by omega) hq
    have hqv1 := (hqx12).to (by omega) hq
    have hgv1 := (hgx12).to (by omega) hq
    have hCv1 := (hCx12).to hq
    have hTv1 := (hTx12).to hq
    have hkv1 := (hkx12).to (by omega) hq
    have hcv1 := (hcx12).to hq
    have hxv1 := (hxx12).to (by omega) hq
    have hov1 := (hox12).to (by omega) hq
    have hwv1 := (hwx12).to hq
    have hBv1 := hBx12.trans (hq.mono hBx12.size)
    have hrv1 : Cx v1 x12.heap.size 33 (fun j => (rsL (.slice none 0 0) (fun _ => 0) (fun _ => 0)).getD j undef) := by rw [hv1, rsL_cx]; exact Cx.new x12 33 _ _
    have hlgfgr : gf < x12.heap.size := hfx12.lt (by omega)
    have hlgqgr : gq < x12.heap.size := hqx12.lt (by omega)
    have hlgggr : gg < x12.heap.size := hgx12.lt (by omega)
    have hlgCgr : gC < x12.heap.size := hCx12.lt
    have hlgTgr : gT < x12.heap.size := hTx12.lt
    have hlgkgr : gk < x12.heap.size := hkx12.lt (by omega)
    have hlgcgr : gc < x12.heap.size := hcx12.lt
    have hlgxgr : gx < x12.heap.size := hxx12.lt (by omega)
    have hlgogr : go < x12.heap.size := hox12.lt (by omega)
    have hlgwgr : gw < x12.heap.size := hwx12.lt
    have hlw : w.heap.size ≤ x12.heap.size := hBx12.size
    clear hq hfx12 hqx12 hgx12 hCx12 hTx12 hkx12 hcx12 hxx12 hox12 hwx12 hBx12
    go_upto_region 7 with (first | (refine wpList_store_cx rfl _ _ _ rfl _ 33 0 _ (rsL (.slice A5 n c5) G O) rfl rfl (by rw [← hv1]; exact hrv1) (by rw [rsL_len]; decide) (sizeR _ _ _) (rsL_one rfl _ _) ?_; intro z13 hy1 bel1 siz1 kee1) | fail)
    rw [← hv1] at bel1 siz1
    obtain ⟨hvz13, hcz13, hoz13⟩ := rs_put hy1
    obtain ⟨gr, hgr⟩ : ∃ g : Nat, x12.heap.size = g := ⟨_, rfl⟩
    try rw [hgr]
    rw [hgr] at hlw bel1 hvz13 hcz13 hoz13 hlgfgr hlgqgr hlgggr hlgCgr hlgTgr hlgkgr hlgcgr hlgxgr hlgogr hlgwgr
    have hxfz13 := hfv1.keep hlgfgr bel1
    have hxqz13 := hqv1.keep hlgqgr bel1
    have hxgz13 := hgv1.keep hlgggr bel1
    have hxCz13 := hCv1.keep hlgCgr bel1
    have hxTz13 := hTv1.keep hlgTgr bel1
    have hxkz13 := hkv1.keep hlgkgr bel1
    have hxcz13 := hcv1.keep hlgcgr bel1
    have hxxz13 := hxv1.keep hlgxgr bel1
    have hxoz13 := hov1.keep hlgogr bel1
    have hxwz13 := hwv1.keep hlgwgr bel1
    have hRvz13 := hvz13
    have hRcz13 := hcz13
    have hRoz13 := hoz13
    clear hvz13 hcz13 hoz13
    have hfz13 := hxfz13
    have hqz13 := hxqz13
    have hgz13 := hxgz13
    have hCz13 := hxCz13
    have hTz13 := hxTz13
    have hkz13 := hxkz13
    have hcz13 := hxcz13
    have hxz13 := hxxz13
    have hoz13 := hxoz13
    have hwz13 := hxwz13
    have hBz13 := hBv1.trans (bel1.mono hlw)
    clear hxfz13 hxqz13 hxgz13 hxCz13 hxTz13 hxkz13 hxcz13 hxxz13 hxoz13 hxwz13 hy1 bel1 siz1 kee1 hgr hv1 hrv1 hfv1 hqv1 hgv1 hCv1 hTv1 hkv1 hcv1 hxv1 hov1 hwv1 hBv1
    try dsimp only [Act.put]
    obtain ⟨TG, hTG⟩ : ∃ t, tgF f s g O l = t := ⟨_, rfl⟩
    have HTG := Lib.hid hTG
    clear hTG
    have HR2 := Lib.hid (run_res2 g O)
    have heq := fun X => eq16_true (f := X) (g := X) (fun _ _ => rfl)
    have hgd := Tryd.eqg16
    refine wp_region_held_drew (S := fun W => Ce W gr (.slice A5 n c5) ∧ Po W gr 1 16 (G) ∧ Po W gr 17 16 (O) ∧ Ar W gf 16 (f) ∧ Ar W gq 12 (q) ∧ Ar W gg 16 (g) ∧ Ci W gC (f) ∧ Ti W gT (some ⟨gC, 0, none⟩) (s) ∧ Ar W gk 432 (pkF (ek f) sb) ∧ Sy W gc A2 (n) (ctL f s a l) ∧ Ar W gx 16 (G) ∧ Ar W go 16 (O) ∧ Sy W gw A5 (n) (ctL f s a l) ∧ Below w.heap.size w W) (by kernel_rfl) ⟨hRvz13.drew, hRcz13.drew, hRoz13.drew, hfz13.drew, hqz13.drew, hgz13.drew, hCz13.drew, hTz13.drew, hkz13.drew, hcz13.drew, hxz13.drew, hoz13.drew, hwz13.drew, hBz13.drew⟩ (fun hHeld => ?_)
    clear hRvz13 hRcz13 hRoz13 hfz13 hqz13 hgz13 hCz13 hTz13 hkz13 hcz13 hxz13 hoz13 hwz13 hBz13 
    generalize World.drew z13 = qd at *
    refine wpAnyH_take (i := 0) (v := ?vq1) rfl (by kernel_rfl) (by kernel_rfl) (by kernel_rfl) (fun _ _ _ h => h) (Or.inl ⟨by rfl, ?hyq1⟩) (by assumption) ?restq1
    case hyq1 =>
      intro W hSw
      go_simp
      try with_reducible rfl
    simp only [Act.put, List.setIfInBounds_toArray, List.set_cons_zero, List.set_cons_succ, List.getElem_toArray, List.getElem_cons_zero]
    refine wpAnyH_take (i := 1) (v := ?vq2) rfl (by kernel_rfl) (by kernel_rfl) (by kernel_rfl) (fun _ _ _ h => h) (Or.inl ⟨by rfl, ?hyq2⟩) (by assumption) ?restq2
    case hyq2 =>
      intro W hSw
      go_simp
      try with_reducible rfl
    simp only [Act.put, List.setIfInBounds_toArray, List.set_cons_zero, List.set_cons_succ, List.getElem_toArray, List.getElem_cons_zero, List.getElem_cons_succ]
    refine wpAnyH_take (i := 2) (v := ?vq3) rfl (by kernel_rfl) (by kernel_rfl) (by kernel_rfl) (fun _ _ _ h => h) (Or.inl ⟨by rfl, ?hyq3⟩) (by assumption) ?restq3
    case hyq3 =>
      intro W hSw
      have cF := hSw.1.1
      go_simp
      try with_reducible rfl
    simp only [Act.put, List.setIfInBounds_toArray, List.set_cons_zero, List.set_cons_succ, List.getElem_toArray, List.getElem_cons_zero, List.getElem_cons_succ]
    refine wpAnyH_ready (rs := [3]) (by kernel_rfl) (by simp) ?_
    refine AllReadyH.cons rfl (fun K hK => ?_) AllReadyH.nil
    go_simp
    refine (same_true A2 A5 n c2 c5 (ctL f s a l) _ (hHeld.2.2.2.2.2.2.2.2.2.1).sl (hHeld.2.2.2.2.2.2.2.2.2.2.2.2.1).sl (by have := hn6.out; omega)).mono ?_
    rintro e q4 ⟨rfl, hq⟩
    go_wp2_with fail
    refine hK.out _ _ ⟨(hHeld.1).to hq, (hHeld.2.1).to (by omega) hq, (hHeld.2.2.1).to (by omega) hq, (hHeld.2.2.2.1).to (by omega) hq, (hHeld.2.2.2.2.1).to (by omega) hq, (hHeld.2.2.2.2.2.1).to (by omega) hq, (hHeld.2.2.2.2.2.2.1).to hq, (hHeld.2.2.2.2.2.2.2.1).to hq, (hHeld.2.2.2.2.2.2.2.2.1).to (by omega) hq, (hHeld.2.2.2.2.2.2.2.2.2.1).to hq, (hHeld.2.2.2.2.2.2.2.2.2.2.1).to (by omega) hq, (hHeld.2.2.2.2.2.2.2.2.2.2.2.1).to (by omega) hq, (hHeld.2.2.2.2.2.2.2.2.2.2.2.2.1).to hq, (hHeld.2.2.2.2.2.2.2.2.2.2.2.2.2).trans (hq.mono (hHeld.2.2.2.2.2.2.2.2.2.2.2.2.2).size)⟩ (fun hHeld2 => ?_)
    clear hK K hHeld hq
    have hHeld := hHeld2
    clear hHeld2
    try simp only [Act.put, List.setIfInBounds_toArray, List.set_cons_zero, List.set_cons_succ, List.getElem_toArray, List.getElem_cons_zero, List.getElem_cons_succ]
    refine wpAnyH_take (i := 4) (v := ?vq5) rfl (by kernel_rfl) (by kernel_rfl) (by kernel_rfl) (fun _ _ _ h => h) (Or.inl ⟨by rfl, ?hyq5⟩) (by assumption) ?restq5
    case hyq5 =>
      intro W hSw
      go_simp
      try with_reducible rfl
    simp only [Act.put, List.setIfInBounds_toArray, List.set_cons_zero, List.set_cons_succ, List.getElem_toArray, List.getElem_cons_zero, List.getElem_cons_succ]
    refine wpAnyH_take (i := 5) (v := .agg (arL 16 (G)).toArray) rfl (by kernel_rfl) (by kernel_rfl) (by kernel_rfl) (fun _ _ _ h => h) (yieldsIf_load_mid (by rfl) _ _ rfl gx (0) rfl (arL 16 (G)) _ (fun W hSw => hSw.2.2.2.2.2.2.2.2.2.2.1.range) Tryd.arr16b rfl (size16b _)) (by assumption) ?_
    simp only [Act.put, List.setIfInBounds_toArray, List.set_cons_zero, List.set_cons_succ, List.getElem_toArray, List.getElem_cons_zero, List.getElem_cons_succ]
    refine wpAnyH_take (i := 6) (v := ?vq6) rfl (by kernel_rfl) (by kernel_rfl) (by kernel_rfl) (fun _ _ _ h => h) (Or.inl ⟨by rfl, ?hyq6⟩) (by assumption) ?restq6
    case hyq6 =>
      intro W hSw
      go_simp
      try with_reducible rfl
    simp only [Act.put, List.setIfInBounds_toArray, List.set_cons_zero, List.set_cons_succ, List.getElem_toArray, List.getElem_cons_zero, List.getElem_cons_succ]
    refine wpAnyH_take (i := 7) (v := .agg (arL 16 (G)).toArray) rfl (by kernel_rfl) (by kernel_rfl) (by kernel_rfl) (fun _ _ _ h => h) (yieldsIf_load_mid (by rfl) _ _ rfl gr (1) rfl (arL 16 (G)) _ (fun W hSw => (hSw.2.1).range) Tryd.arr16b rfl (size16b _)) (by assumption) ?_
    simp only [Act.put, List.setIfInBounds_toArray, List.set_cons_zero, List.set_cons_succ, List.getElem_toArray, List.getElem_cons_zero, List.getElem_cons_succ]
    refine wpAnyH_take (i := 8) (v := ?vq7) rfl (by kernel_rfl) (by kernel_rfl) (by kernel_rfl) (fun _ _ _ h => h) (Or.inl ⟨by rfl, ?hyq7⟩) (by assumption) ?restq7
    case hyq7 =>
      intro W hSw
      go_simp
      try with_reducible rfl
    simp only [Act.put, List.setIfInBounds_toArray, List.set_cons_zero, List.set_cons_succ, List.getElem_toArray, List.getElem_cons_zero, List.getElem_cons_succ]
    refine wpAnyH_take (i := 9) (v := ?vq8) rfl (by kernel_rfl) (by kernel_rfl) (by kernel_rfl) (fun _ _ _ h => h) (Or.inl ⟨by rfl, ?hyq8⟩) (by assumption) ?restq8
    case hyq8 =>
      intro W hSw
      go_simp
      try with_reducible rfl
    simp only [Act.put, List.setIfInBounds_toArray, List.set_cons_zero, List.set_cons_succ, List.getElem_toArray, List.getElem_cons_zero, List.getElem_cons_succ]
    refine wpAnyH_take (i := 10) (v := ?vq9) rfl (by kernel_rfl) (by kernel_rfl) (by kernel_rfl) (fun _ _ _ h => h) (Or.inl ⟨by rfl, ?hyq9⟩) (by assumption) ?restq9
    case hyq9 =>
      intro W hSw
      go_simp
      try with_reducible rfl
    simp only [Act.put, List.setIfInBounds_toArray, List.set_cons_zero, List.set_cons_succ, List.getElem_toArray, List.getElem_cons_zero, List.getElem_cons_succ]
    refine wpAnyH_take (i := 11) (v := .agg (arL 16 (O)).toArray) rfl (by kernel_rfl) (by kernel_rfl) (by kernel_rfl) (fun _ _ _ h => h) (yieldsIf_load_mid (by rfl) _ _ rfl go (0) rfl (arL 16 (O)) _ (fun W hSw => hSw.2.2.2.2.2.2.2.2.2.2.2.1.range) Tryd.arr16b rfl (size16b _)) (by assumption) ?_
    simp only [Act.put, List.setIfInBounds_toArray, List.set_cons_zero, List.set_cons_succ, List.getElem_toArray, List.getElem_cons_zero, List.getElem_cons_succ]
    refine wpAnyH_take (i := 12) (v := ?vq10) rfl (by kernel_rfl) (by kernel_rfl) (by kernel_rfl) (fun _ _ _ h => h) (Or.inl ⟨by rfl, ?hyq10⟩) (by assumption) ?restq10
    case hyq10 =>
      intro W hSw
      go_simp
      try with_reducible rfl
    simp only [Act.put, List.setIfInBounds_toArray, List.set_cons_zero, List.set_cons_succ, List.getElem_toArray, List.getElem_cons_zero, List.getElem_cons_succ]
    refine wpAnyH_take (i := 13) (v := .agg (arL 16 (O)).toArray) rfl (by kernel_rfl) (by kernel_rfl) (by kernel_rfl) (fun _ _ _ h => h) (yieldsIf_load_mid (by rfl) _ _ rfl gr (17) rfl (arL 16 (O)) _ (fun W hSw => (hSw.2.2.1).range) Tryd.arr16b rfl (size16b _)) (by assumption) ?_
    simp only [Act.put, List.setIfInBounds_toArray, List.set_cons_zero, List.set_cons_succ, List.getElem_toArray, List.getElem_cons_zero, List.getElem_cons_succ]
    refine wpAnyH_take (i := 14) (v := ?vq11) rfl (by kernel_rfl) (by kernel_rfl) (by kernel_rfl) (fun _ _ _ h => h) (Or.inl ⟨by rfl, ?hyq11⟩) (by assumption) ?restq11
    case hyq11 =>
      intro W hSw
      go_simp
      try with_reducible rfl
    simp only [Act.put, List.setIfInBounds_toArray, List.set_cons_zero, List.set_cons_succ, List.getElem_toArray, List.getElem_cons_zero, List.getElem_cons_succ]
    refine wpAnyH_take (i := 15) (v := ?vq12) rfl (by kernel_rfl) (by kernel_rfl) (by kernel_rfl) (fun _ _ _ h => h) (Or.inl ⟨by rfl, ?hyq12⟩) (by assumption) ?restq12
    case hyq12 =>
      intro W hSw
      go_simp
      try with_reducible rfl
    simp only [Act.put, List.setIfInBounds_toArray, List.set_cons_zero, List.set_cons_succ, List.getElem_toArray, List.getElem_cons_zero, List.getElem_cons_succ]
    refine wpAnyH_take (i := 16) (v := ?vq13) rfl (by kernel_rfl) (by kernel_rfl) (by kernel_rfl) (fun _ _ _ h => h) (Or.inl ⟨by rfl, ?hyq13⟩) (by assumption) ?restq13
    case hyq13 =>
      intro W hSw
      go_simp
      try with_reducible rfl
    simp only [Act.put, List.setIfInBounds_toArray, List.set_cons_zero, List.set_cons_succ, List.getElem_toArray, List.getElem_cons_zero, List.getElem_cons_succ]
    refine wpAnyH_take (i := 17) (v := ?vq14) rfl (by kernel_rfl) (by kernel_rfl) (by kernel_rfl) (fun _ _ _ h => h) (Or.inl ⟨by rfl, ?hyq14⟩) (by assumption) ?restq14
    case hyq14 =>
      intro W hSw
      go_simp
      try with_reducible rfl
    simp only [Act.put, List.setIfInBounds_toArray, List.set_cons_zero, List.set_cons_succ, List.getElem_toArray, List.getElem_cons_zero, List.getElem_cons_succ]
    refine wpAnyH_take (i := 18) (v := ?vq15) rfl (by kernel_rfl) (by kernel_rfl) (by kernel_rfl) (fun _ _ _ h => h) (Or.inl ⟨by rfl, ?hyq15⟩) (by assumption) ?restq15
    case hyq15 =>
      intro W hSw
      go_simp
      try with_reducible rfl
    simp only [Act.put, List.setIfInBounds_toArray, List.set_cons_zero, List.set_cons_succ, List.getElem_toArray, List.getElem_cons_zero, List.getElem_cons_succ]
    refine wpAnyH_take (i := 19) (v := ?vq16) rfl (by kernel_rfl) (by kernel_rfl) (by kernel_rfl) (fun _ _ _ h => h) (Or.inl ⟨by rfl, ?hyq16⟩) (by assumption) ?restq16
    case hyq16 =>
      intro W hSw
      go_simp
      try with_reducible rfl
    simp only [Act.put, List.setIfInBounds_toArray, List.set_cons_zero, List.set_cons_succ, List.getElem_toArray, List.getElem_cons_zero, List.getElem_cons_succ]
    refine wpAnyH_take (i := 20) (v := ?vq17) rfl (by kernel_rfl) (by kernel_rfl) (by kernel_rfl) (fun _ _ _ h => h) (Or.inl ⟨by rfl, ?hyq17⟩) (by assumption) ?restq17
    case hyq17 =>
      intro W hSw
      go_simp
      try with_reducible rfl
    simp only [Act.put, List.setIfInBounds_toArray, List.set_cons_zero, List.set_cons_succ, List.getElem_toArray, List.getElem_cons_zero, List.getElem_cons_succ]
    refine wpAnyH_take (i := 21) (v := ?vq18) rfl (by kernel_rfl) (by kernel_rfl) (by kernel_rfl) (fun _ _ _ h => h) (Or.inl ⟨by rfl, ?hyq18⟩) (by assumption) ?restq18
    case hyq18 =>
      intro W hSw
      go_simp
      try with_reducible rfl
    simp only [Act.put, List.setIfInBounds_toArray, List.set_cons_zero, List.set_cons_succ, List.getElem_toArray, List.getElem_cons_zero, List.getElem_cons_succ]
    refine wpAnyH_take (i := 22) (v := ?vq19) rfl (by kernel_rfl) (by kernel_rfl) (by kernel_rfl) (fun _ _ _ h => h) (Or.inl ⟨by rfl, ?hyq19⟩) (by assumption) ?restq19
    case hyq19 =>
      intro W hSw
      go_simp
      try with_reducible rfl
    simp only [Act.put, List.setIfInBounds_toArray, List.set_cons_zero, List.set_cons_succ, List.getElem_toArray, List.getElem_cons_zero, List.getElem_cons_succ]
    refine wpAnyH_take (i := 23) (v := ?vq20) rfl (by kernel_rfl) (by kernel_rfl) (by kernel_rfl) (fun _ _ _ h => h) (Or.inl ⟨by rfl, ?hyq20⟩) (by assumption) ?restq20
    case hyq20 =>
      intro W hSw
      go_simp
      try with_reducible rfl
    simp only [Act.put, List.setIfInBounds_toArray, List.set_cons_zero, List.set_cons_succ, List.getElem_toArray, List.getElem_cons_zero, List.getElem_cons_succ]
    refine wpAnyH_take (i := 24) (v := ?vq21) rfl (by kernel_rfl) (by kernel_rfl) (by kernel_rfl) (fun _ _ _ h => h) (Or.inl ⟨by rfl, ?hyq21⟩) (by assumption) ?restq21
    case hyq21 =>
      intro W hSw
      go_simp
      try with_reducible rfl
    simp only [Act.put, List.setIfInBounds_toArray, List.set_cons_zero, List.set_cons_succ, List.getElem_toArray, List.getElem_cons_zero, List.getElem_cons_succ]
    refine wpAnyH_take (i := 25) (v := .agg (arL 16 (g)).toArray) rfl (by kernel_rfl) (by kernel_rfl) (by kernel_rfl) (fun _ _ _ h => h) (yieldsIf_load_mid (by rfl) _ _ rfl gg (0) rfl (arL 16 (g)) _ (fun W hSw => hSw.2.2.2.2.2.1.range) Tryd.arr16b rfl (size16b _)) (by assumption) ?_
    simp only [Act.put, List.setIfInBounds_toArray, List.set_cons_zero, List.set_cons_succ, List.getElem_toArray, List.getElem_cons_zero, List.getElem_cons_succ]
    refine wpAnyH_take (i := 26) (v := .agg (arL 16 (O)).toArray) rfl (by kernel_rfl) (by kernel_rfl) (by kernel_rfl) (fun _ _ _ h => h) (yieldsIf_load_mid (by rfl) _ _ rfl go (0) rfl (arL 16 (O)) _ (fun W hSw => hSw.2.2.2.2.2.2.2.2.2.2.2.1.range) Tryd.arr16b rfl (size16b _)) (by assumption) ?_
    simp only [Act.put, List.setIfInBounds_toArray, List.set_cons_zero, List.set_cons_succ, List.getElem_toArray, List.getElem_cons_zero, List.getElem_cons_succ]
    refine wpAnyH_take (i := 27) (v := ?vq22) rfl (by kernel_rfl) (by kernel_rfl) (by kernel_rfl) (fun _ _ _ h => h) (Or.inl ⟨by rfl, ?hyq22⟩) (by assumption) ?restq22
    case hyq22 =>
      intro W hSw
      go_simp
      try with_reducible rfl
    simp only [Act.put, List.setIfInBounds_toArray, List.set_cons_zero, List.set_cons_succ, List.getElem_toArray, List.getElem_cons_zero, List.getElem_cons_succ]
    refine wpAnyH_take (i := 29) (v := .agg (arL 432 (pkF (ek f) sb)).toArray) rfl (by kernel_rfl) (by kernel_rfl) (by kernel_rfl) (fun _ _ _ h => h) (yieldsIf_load_mid (by rfl) _ _ rfl gk (0) rfl (arL 432 (pkF (ek f) sb)) _ (fun W hSw => hSw.2.2.2.2.2.2.2.2.1.range) HS.out HW.out (sizeK _)) (by assumption) ?_
    simp only [Act.put, List.setIfInBounds_toArray, List.set_cons_zero, List.set_cons_succ, List.getElem_toArray, List.getElem_cons_zero, List.getElem_cons_succ]
    refine wpAnyH_take (i := 30) (v := .agg (arL 16 (g)).toArray) rfl (by kernel_rfl) (by kernel_rfl) (by kernel_rfl) (fun _ _ _ h => h) (yieldsIf_load_mid (by rfl) _ _ rfl gg (0) rfl (arL 16 (g)) _ (fun W hSw => hSw.2.2.2.2.2.1.range) Tryd.arr16b rfl (size16b _)) (by assumption) ?_
    simp only [Act.put, List.setIfInBounds_toArray, List.set_cons_zero, List.set_cons_succ, List.getElem_toArray, List.getElem_cons_zero, List.getElem_cons_succ]
    refine wpAnyH_take (i := 31) (v := .agg (arL 16 (O)).toArray) rfl (by kernel_rfl) (by kernel_rfl) (by kernel_rfl) (fun _ _ _ h => h) (yieldsIf_load_mid (by rfl) _ _ rfl go (0) rfl (arL 16 (O)) _ (fun W hSw => hSw.2.2.2.2.2.2.2.2.2.2.2.1.range) Tryd.arr16b rfl (size16b _)) (by assumption) ?_
    simp only [Act.put, List.setIfInBounds_toArray, List.set_cons_zero, List.set_cons_succ, List.getElem_toArray, List.getElem_cons_zero, List.getElem_cons_succ]
    refine wpAnyH_take (i := 32) (v := .agg (rsL (.slice none 0 0) g O).toArray) rfl (by kernel_rfl) (by kernel_rfl) (by kernel_rfl) (fun _ _ _ h => h) (yieldsIf_build_by (by rfl) _ _ rfl [(1, .agg (arL 16 g).toArray), (2, .agg (arL 16 O).toArray)] rfl (rsL (.slice none 0 0) g O).toArray HR2.out) (by assumption) ?_
    simp only [Act.put, List.setIfInBounds_toArray, List.set_cons_zero, List.set_cons_succ, List.getElem_toArray, List.getElem_cons_zero, List.getElem_cons_succ]
    refine wpAnyH_take (i := 33) (v := ?vq23) rfl (by kernel_rfl) (by kernel_rfl) (by kernel_rfl) (fun _ _ _ h => h) (Or.inl ⟨by rfl, ?hyq23⟩) (by assumption) ?restq23
    case hyq23 =>
      intro W hSw
      go_simp
      try with_reducible rfl
    simp only [Act.put, List.setIfInBounds_toArray, List.set_cons_zero, List.set_cons_succ, List.getElem_toArray, List.getElem_cons_zero, List.getElem_cons_succ]
    refine wpAnyH_ready (rs := [28]) (by kernel_rfl) (by simp) ?_
    refine AllReadyH.cons rfl (fun K hK => ?_) AllReadyH.nil
    go_simp
    refine (stag (some ⟨gT, 0, none⟩) f s g O A n c l _ Hf.out HS0.out Hg.out hob.out ((HSS.out.below (hHeld.2.2.2.2.2.2.2.2.2.2.2.2.2)).more (hHeld.2.2.2.2.2.2.2.2.2.2.2.2.2).size) HNC.out hn6.out (wtabs gT gC f s _ HS0.out (hHeld.2.2.2.2.2.2.2.1) (hHeld.2.2.2.2.2.2.1)) (HX.out.keep (hHeld.2.2.2.2.2.2.2.2.2.2.2.2.2))).mono ?_
    rintro e q24 ⟨rfl, hq⟩
    rw [HTG.out]
    go_wp2_with fail
    refine hK.out _ _ ⟨(hHeld.1).to hq, (hHeld.2.1).to (by omega) hq, (hHeld.2.2.1).to (by omega) hq, (hHeld.2.2.2.1).to (by omega) hq, (hHeld.2.2.2.2.1).to (by omega) hq, (hHeld.2.2.2.2.2.1).to (by omega) hq, (hHeld.2.2.2.2.2.2.1).to hq, (hHeld.2.2.2.2.2.2.2.1).to hq, (hHeld.2.2.2.2.2.2.2.2.1).to (by omega) hq, (hHeld.2.2.2.2.2.2.2.2.2.1).to hq, (hHeld.2.2.2.2.2.2.2.2.2.2.1).to (by omega) hq, (hHeld.2.2.2.2.2.2.2.2.2.2.2.1).to (by omega) hq, (hHeld.2.2.2.2.2.2.2.2.2.2.2.2.1).to hq, (hHeld.2.2.2.2.2.2.2.2.2.2.2.2.2).trans (hq.mono (hHeld.2.2.2.2.2.2.2.2.2.2.2.2.2).size)⟩ (fun hHeld2 => ?_)
    clear hK K hHeld hq
    have hHeld := hHeld2
    clear hHeld2
    try simp only [Act.put, List.setIfInBounds_toArray, List.set_cons_zero, List.set_cons_succ, List.getElem_toArray, List.getElem_cons_zero, List.getElem_cons_succ]
    refine wpAnyH_ready (rs := [34]) (by kernel_rfl) (by simp) ?_
    refine AllReadyH.cons rfl (fun K hK => ?_) AllReadyH.nil
    go_simp
    refine (rtag f s g O (.slice none 0 0) A n c l _ Hf.out HS0.out Hg.out hob.out ((HSS.out.below (hHeld.2.2.2.2.2.2.2.2.2.2.2.2.2)).more (hHeld.2.2.2.2.2.2.2.2.2.2.2.2.2).size) HNC.out hn6.out).mono ?_
    rintro e q25 ⟨rfl, hq⟩
    rw [HTG.out]
    go_wp2_with fail
    refine hK.out _ _ ⟨(hHeld.1).to hq, (hHeld.2.1).to (by omega) hq, (hHeld.2.2.1).to (by omega) hq, (hHeld.2.2.2.1).to (by omega) hq, (hHeld.2.2.2.2.1).to (by omega) hq, (hHeld.2.2.2.2.2.1).to (by omega) hq, (hHeld.2.2.2.2.2.2.1).to hq, (hHeld.2.2.2.2.2.2.2.1).to hq, (hHeld.2.2.2.2.2.2.2.2.1).to (by omega) hq, (hHeld.2.2.2.2.2.2.2.2.2.1).to hq, (hHeld.2.2.2.2.2.2.2.2.2.2.1).to (by omega) hq, (hHeld.2.2.2.2.2.2.2.2.2.2.2.1).to (by omega) hq, (hHeld.2.2.2.2.2.2.2.2.2.2.2.2.1).to hq, (hHeld.2.2.2.2.2.2.2.2.2.2.2.2.2).trans (hq.mono (hHeld.2.2.2.2.2.2.2.2.2.2.2.2.2).size)⟩ (fun hHeld2 => ?_)
    clear hK K hHeld hq
    have hHeld := hHeld2
    clear hHeld2
    try simp only [Act.put, List.setIfInBounds_toArray, List.set_cons_zero, List.set_cons_succ, List.getElem_toArray, List.getElem_cons_zero, List.getElem_cons_succ]
    refine wpAnyH_take (i := 35) (v := ?vq26) rfl (by kernel_rfl) (by kernel_rfl) (by kernel_rfl) (fun _ _ _ h => h) (Or.inl ⟨by rfl, ?hyq26⟩) (by assumption) ?restq26
    case hyq26 =>
      intro W hSw
      go_simp
      try with_reducible rfl
    simp only [Act.put, List.setIfInBounds_toArray, List.set_cons_zero, List.set_cons_succ, List.getElem_toArray, List.getElem_cons_zero, List.getElem_cons_succ]
    refine wpAnyH_take (i := 36) (v := ?vq27) rfl (by kernel_rfl) (by kernel_rfl) (by kernel_rfl) (fun _ _ _ h => h) (Or.inl ⟨by rfl, ?hyq27⟩) (by assumption) ?restq27
    case hyq27 =>
      intro W hSw
      go_simp
      try with_reducible rfl
    simp only [Act.put, List.setIfInBounds_toArray, List.set_cons_zero, List.set_cons_succ, List.getElem_toArray, List.getElem_cons_zero, List.getElem_cons_succ]
    refine wpAnyH_take (i := 37) (v := ?vq28) rfl (by kernel_rfl) (by kernel_rfl) (by kernel_rfl) (fun _ _ _ h => h) (Or.inl ⟨by rfl, ?hyq28⟩) (by assumption) ?restq28
    case hyq28 =>
      intro W hSw
      go_simp
      try with_reducible rfl
    simp only [Act.put, List.setIfInBounds_toArray, List.set_cons_zero, List.set_cons_succ, List.getElem_toArray, List.getElem_cons_zero, List.getElem_cons_succ]
    refine wpAnyH_done (by kernel_rfl) ?_ _
    have hBe := hHeld.2.2.2.2.2.2.2.2.2.2.2.2.2
    clear hHeld
    go_wp2_with fail
    go_ret
    exact ⟨rfl, hBe⟩
end Go.Proofs.YthapnnbdoecoaaaDoor
