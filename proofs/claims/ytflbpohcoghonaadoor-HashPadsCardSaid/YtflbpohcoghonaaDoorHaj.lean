/-
  The walk of the law HashPads of layer 11: for every key and all bytes it returns true, and writes nothing that was there.
-/
import Derived.Test.YtflbpohcoghonaaDoorHag
import Derived.Deep.RegionHeld3
namespace Go.Proofs.YtflbpohcoghonaaDoor
open Go.RowKit
set_option linter.unusedVariables false
set_option maxRecDepth 100000
set_option linter.unusedSimpArgs false
theorem haF_short {f s : Nat → Nat} {l : List UInt8} {n : Nat} (hl : l.length = n) (h0 : n ≠ 0) (h : n < 16) : haF f s l = enF f (adF (lF (padL l 16)) s) := by
  subst hl
  unfold haF
  rw [Nat.div_eq_of_lt h]
  show adF zF (hrF f s (atF zF s 0) (l.drop 0)) = _
  rw [zero_ad, atF_zero, List.drop_zero, hrF_yes rfl h0 h, zero_ad]
theorem haF_pad {f s : Nat → Nat} {l : List UInt8} {n : Nat} (hl : l.length = n) (h : n < 16) : haF f s (padL l 16) = enF f (adF (lF (padL l 16)) (dk s 2)) := by
  have hp : (padL l 16).length = 16 := padL_len l 16 (by omega)
  have e : pt (padL l 16) 0 = lF (padL l 16) := funext fun j => by unfold pt; rw [Nat.mul_zero, Nat.zero_add]
  unfold haF
  rw [hp, show 16 / 16 = 1 from rfl, hrF_no (n := 0) (by rw [List.length_drop, hp]) (.inl rfl), ad_zero]
  show adF zF (enF f (adF (pt (padL l 16) 0) (atF zF s 1))) = _
  rw [zero_ad, e, atF_one]
theorem slice16all (g : Nat) (w : World) : (Instr.sliceAt 22 (.pointer (some ⟨g, 0, none⟩)) none none none).run Tryd.prog w = .ok (.slice (some ⟨g, 0, none⟩) 16 16) w := by
  have hal : Tryd.prog.arrayLen 22 = 16 := by simp [Program.arrayLen]
  have hel : Tryd.prog.elem 22 = 5 := by simp [Program.elem]
  have hs : (sizeOf 5).run Tryd.prog w = .ok 1 w := by kernel_rfl
  rw [run_sliceAt_array_all w 22 ⟨g, 0, none⟩ (by rw [hal, hel]; exact Tryd.arr16x), hal, hel, hs]
  simp [Result.andThen_ok, slicedAt, Addr.add]

set_option maxHeartbeats 8000000 in
theorem hpads (f : Nat → Nat) (A : Option Addr) (n c : Nat) (l : List UInt8) (w : World) (hf : ∀ j, j < 16 → f j < 256) (hS : Sl w w.heap.size A n l) (hnc : n ≤ c) (hcm : c ≤ maxLen) (hs : Boxes w) :
    Calls Tryd.prog 5 #[.agg (arL 16 f).toArray, .slice A n c] w fun e w' => e = .returned (.bool true) ∧ Below w.heap.size w w' := by
  have HX := Lib.hid hs
  have hz := zero16b
  have hzK := zeroK
  have z0 := run_zero16
  have hlen := hS.len
  have HLEN := Lib.hid hlen
  have HSS := Lib.hid hS
  have HNC := Lib.hid hnc
  have hn63 : n ≤ 9223372036854775807 := by have h := hcm; simp [maxLen] at h; omega
  clear hlen hS hnc hcm
  obtain ⟨dK, hfs, hrow⟩ := Tryd.structK
  have HS := Lib.hid hfs
  have HW := Lib.hid hrow
  clear hfs hrow
  have Hf := Lib.hid hf
  obtain ⟨kf, hkf⟩ : ∃ k : Array Value, (arL 16 f).toArray = k := ⟨_, rfl⟩
  obtain ⟨w1, hw1⟩ : ∃ V : World, V = w.alloc (.cells (arL 16 f).toArray 22) := ⟨_, rfl⟩
  have hs1 : w1.heap.size = w.heap.size + 1 := by rw [hw1]; simp
  have hBw1 : Below w.heap.size w w1 := by rw [hw1]; exact (Below.refl _ _).alloc (Nat.le_refl _) _
  have hfw1 : Ar w1 w.heap.size 16 f := by rw [hw1]; exact Ar.new w 16 f _
  rw [hkf] at hw1
  rw [hkf]
  clear hkf hs hf
  go_enter Tryd.func5, Tryd.ntmps5
  go_upto_region 1 with fail
  rw [← hw1]
  clear hw1
  try simp only [Nat.add_assoc, Nat.reduceAdd]
  obtain ⟨gf, hgf⟩ : ∃ g : Nat, w.heap.size = g := ⟨_, rfl⟩
  rw [hgf] at hfw1
  try simp only [hgf]
  have hlf : w.heap.size ≤ gf := by omega
  clear  hs1
  go_wp2_with fail
  refine (hawake _ (HX.out.keep hBw1)).mono ?_
  rintro e x1 ⟨rfl, hq⟩
  have hfx1 := (hfw1).to (by omega) hq
  have hBx1 := hBw1.trans (hq.mono hBw1.size)
  clear hq hfw1 hBw1
  by_cases h15 : n < 1 ∨ 15 < n
  · rcases h15 with h15 | h15
    · have h3 : (n : Int) < 1 := by omega
      go_wp2_with fail
      refine (hawake _ (HX.out.keep hBx1)).mono ?_
      rintro e x2 ⟨rfl, hq⟩
      have hfx2 := (hfx1).to (by omega) hq
      have hBx2 := hBx1.trans (hq.mono hBx1.size)
      clear hq hfx1 hBx1
      go_wp2_with fail
      go_ret
      exact ⟨rfl, hBx2⟩
    · have h3 : ¬ (n : Int) < 1 := by omega
      have h4 : (15 : Int) < (n : Int) := by omega
      go_wp2_with fail
      refine (hawake _ (HX.out.keep hBx1)).mono ?_
      rintro e x3 ⟨rfl, hq⟩
      have hfx3 := (hfx1).to (by omega) hq
      have hBx3 := hBx1.trans (hq.mono hBx1.size)
      clear hq hfx1 hBx1
      go_wp2_with fail
      go_ret
      exact ⟨rfl, hBx3⟩
  · have h3 : ¬ (n : Int) < 1 := by omega
    have h4 : ¬ (15 : Int) < (n : Int) := by omega
    have hn16 := Lib.hid (show n < 16 by omega)
    have hn0 := Lib.hid (show n ≠ 0 by omega)
    have hn6 := Lib.hid (show n ≤ 1000000 by omega)
    clear h15
    obtain ⟨s, hs0⟩ : ∃ s : Nat → Nat, enF f zF = s := ⟨_, rfl⟩
    have HS0 := Lib.hid hs0
    have HSL := Lib.hid (show B16 s by rw [← hs0]; exact enR_lt Hf.out zF_lt 10)
    clear hs0
    go_wp2_with (refine wpList_load_ar rfl _ _ rfl _ _ _ rfl hfx1 Tryd.arr16b (size16b _) ?_)
    refine (fnew f _ Hf.out (HX.out.keep hBx1)).mono ?_
    rintro e x4 ⟨gC, rfl, hgC, hCx4, hq⟩
    have hfx4 := (hfx1).to (by omega) hq
    have hBx4 := hBx1.trans (hq.mono hBx1.size)
    clear hq hfx1 hBx1
    go_wp2_with fail
    refine (tnew (some ⟨gC, 0, none⟩) f _ Hf.out (exp_made gC f _ hCx4) (HX.out.keep hBx4)).mono ?_
    rintro e x5 ⟨gT, rfl, hgT, hTx5, hq⟩
    rw [HS0.out] at hTx5
    have hfx5 := (hfx4).to (by omega) hq
    have hCx5 := (hCx4).to hq
    have hBx5 := hBx4.trans (hq.mono hBx4.size)
    clear hq hfx4 hCx4 hBx4
    clear h3 h4 hn63
    have HS1 := Lib.hid (haF_short (f := f) (s := s) HLEN.out hn0.out hn16.out)
    have HS2 := Lib.hid (haF_pad (f := f) (s := s) HLEN.out hn16.out)
    have HDB := Lib.hid (dk_lt HSL.out 2)
    obtain ⟨D, hD⟩ : ∃ D, dk s 2 = D := ⟨_, rfl⟩
    have HDD := Lib.hid hD
    rw [hD] at HS2 HDB
    obtain ⟨P, hP⟩ : ∃ P : Nat → Nat, lF (padL l 16) = P := ⟨_, rfl⟩
    have hpb := Lib.hid (show B16 P by rw [← hP]; exact fun _ _ => lF_lt _ _)
    have HPD := Lib.hid hP
    rw [hP] at HS1 HS2
    clear hP hD
    have hxb := Lib.hid (adF_lt hpb.out HSL.out)
    have hyb := Lib.hid (adF_lt hpb.out HDB.out)
    go_wp2_with fail
    refine (refpad A n c l _ ((HSS.out.below hBx5).more hBx5.size) hn16.out).mono ?_
    rintro e x6 ⟨rfl, hq⟩
    rw [HPD.out]
    have hfx6 := (hfx5).to (by omega) hq
    have hCx6 := (hCx5).to hq
    have hTx6 := (hTx5).to hq
    have hBx6 := hBx5.trans (hq.mono hBx5.size)
    clear hq hfx5 hCx5 hTx5 hBx5
    obtain ⟨gp, hgp⟩ : ∃ g : Nat, x6.heap.size = g := ⟨_, rfl⟩
    have hlgfgp : gf < gp := by rw [← hgp]; exact hfx6.lt (by omega)
    have hlgCgp : gC < gp := by rw [← hgp]; exact hCx6.lt
    have hlgTgp : gT < gp := by rw [← hgp]; exact hTx6.lt
    have hlwgp : w.heap.size ≤ gp := by rw [← hgp]; exact hBx6.size
    have hq : Below x6.heap.size x6 (x6.alloc (.cells (arL 16 fun _ => 0).toArray 22)) := (Below.refl _ _).alloc (Nat.le_refl _) _
    have hfx7a := (hfx6).to (by omega) hq
    have hCx7a := (hCx6).to hq
    have hTx7a := (hTx6).to hq
    have hpx7a := Ar.new x6 16 (fun _ => 0) 22
    have hBx7a := hBx6.alloc hBx6.size (.cells (arL 16 fun _ => 0).toArray 22)
    rw [hgp] at hpx7a
    clear hq hfx6 hCx6 hTx6 hBx6
    go_upto_region 5 with (first | (refine wpList_store_ar rfl _ _ _ rfl _ _ _ (P) rfl rfl hpx7a (size16b _) ?_; intro x7 hpx7 belx7 sizx7 keex7) | fail)
    have hfx7 := (hfx7a).keep hlgfgp belx7
    have hCx7 := (hCx7a).keep hlgCgp belx7
    have hTx7 := (hTx7a).keep hlgTgp belx7
    have hBx7 := hBx7a.trans (belx7.mono hlwgp)
    clear hfx7a hCx7a hTx7a hpx7a hBx7a belx7 sizx7 keex7 hgp
    try dsimp only [Act.put]
    go_wp2_with fail
    refine (hsum (some ⟨gT, 0, none⟩) f s A n c l _ Hf.out HS0.out ((HSS.out.below hBx7).more hBx7.size) HNC.out hn6.out (wtabm gT gC f s _ HS0.out (hTx7) (hCx7)) (HX.out.keep hBx7)).mono ?_
    rintro e x8 ⟨rfl, hq⟩
    rw [HS1.out]
    have hfx8 := (hfx7).to (by omega) hq
    have hCx8 := (hCx7).to hq
    have hTx8 := (hTx7).to hq
    have hpx8 := (hpx7).to (by omega) hq
    have hBx8 := hBx7.trans (hq.mono hBx7.size)
    clear hq hfx7 hCx7 hTx7 hpx7 hBx7
    obtain ⟨ga, hga⟩ : ∃ g : Nat, x8.heap.size = g := ⟨_, rfl⟩
    have hlgfga : gf < ga := by rw [← hga]; exact hfx8.lt (by omega)
    have hlgCga : gC < ga := by rw [← hga]; exact hCx8.lt
    have hlgTga : gT < ga := by rw [← hga]; exact hTx8.lt
    have hlgpga : gp < ga := by rw [← hga]; exact hpx8.lt (by omega)
    have hlwga : w.heap.size ≤ ga := by rw [← hga]; exact hBx8.size
    have hq : Below x8.heap.size x8 (x8.alloc (.cells (arL 16 fun _ => 0).toArray 22)) := (Below.refl _ _).alloc (Nat.le_refl _) _
    have hfx9a := (hfx8).to (by omega) hq
    have hCx9a := (hCx8).to hq
    have hTx9a := (hTx8).to hq
    have hpx9a := (hpx8).to (by omega) hq
    have hax9a := Ar.new x8 16 (fun _ => 0) 22
    have hBx9a := hBx8.alloc hBx8.size (.cells (arL 16 fun _ => 0).toArray 22)
    rw [hga] at hax9a
    clear hq hfx8 hCx8 hTx8 hpx8 hBx8
    go_upto_region 6 with (first | (refine wpList_store_ar rfl _ _ _ rfl _ _ _ (enF f (adF P s)) rfl rfl hax9a (size16b _) ?_; intro x9 hax9 belx9 sizx9 keex9) | fail)
    have hfx9 := (hfx9a).keep hlgfga belx9
    have hCx9 := (hCx9a).keep hlgCga belx9
    have hTx9 := (hTx9a).keep hlgTga belx9
    have hpx9 := (hpx9a).keep hlgpga belx9
    have hBx9 := hBx9a.trans (belx9.mono hlwga)
    clear hfx9a hCx9a hTx9a hpx9a hax9a hBx9a belx9 sizx9 keex9 hga
    try dsimp only [Act.put]
    have hsla := slice16all
    have hpp := Lib.hid (Sl.of_ar (l := padL l 16) (by rw [HPD.out]; exact hpx9) (padL_len l 16 (by have := HLEN.out; have := hn16.out; omega)) (hpx9.lt (by omega)))
    go_wp2_with fail
    refine (hsum (some ⟨gT, 0, none⟩) f s (some ⟨gp, 0, none⟩) 16 16 (padL l 16) _ Hf.out HS0.out hpp.out (Nat.le_refl _) (by omega) (wtabm gT gC f s _ HS0.out (hTx9) (hCx9)) (HX.out.keep hBx9)).mono ?_
    rintro e x10 ⟨rfl, hq⟩
    rw [HS2.out]
    have hfx10 := (hfx9).to (by omega) hq
    have hCx10 := (hCx9).to hq
    have hTx10 := (hTx9).to hq
    have hpx10 := (hpx9).to (by omega) hq
    have hax10 := (hax9).to (by omega) hq
    have hBx10 := hBx9.trans (hq.mono hBx9.size)
    clear hq hfx9 hCx9 hTx9 hpx9 hax9 hBx9
    clear hsla hpp
    obtain ⟨gb, hgb⟩ : ∃ g : Nat, x10.heap.size = g := ⟨_, rfl⟩
    have hlgfgb : gf < gb := by rw [← hgb]; exact hfx10.lt (by omega)
    have hlgCgb : gC < gb := by rw [← hgb]; exact hCx10.lt
    have hlgTgb : gT < gb := by rw [← hgb]; exact hTx10.lt
    have hlgpgb : gp < gb := by rw [← hgb]; exact hpx10.lt (by omega)
    have hlgagb : ga < gb := by rw [← hgb]; exact hax10.lt (by omega)
    have hlwgb : w.heap.size ≤ gb := by rw [← hgb]; exact hBx10.size
    have hq : Below x10.heap.size x10 (x10.alloc (.cells (arL 16 fun _ => 0).toArray 22)) := (Below.refl _ _).alloc (Nat.le_refl _) _
    have hfx11a := (hfx10).to (by omega) hq
    have hCx11a := (hCx10).to hq
    have hTx11a := (hTx10).to hq
    have hpx11a := (hpx10).to (by omega) hq
    have hax11a := (hax10).to (by omega) hq
    have hbx11a := Ar.new x10 16 (fun _ => 0) 22
    have hBx11a := hBx10.alloc hBx10.size (.cells (arL 16 fun _ => 0).toArray 22)
    rw [hgb] at hbx11a
    clear hq hfx10 hCx10 hTx10 hpx10 hax10 hBx10
    go_upto_region 7 with (first | (refine wpList_store_ar rfl _ _ _ rfl _ _ _ (enF f (adF P D)) rfl rfl hbx11a (size16b _) ?_; intro x11 hbx11 belx11 sizx11 keex11) | fail)
    have hfx11 := (hfx11a).keep hlgfgb belx11
    have hCx11 := (hCx11a).keep hlgCgb belx11
    have hTx11 := (hTx11a).keep hlgTgb belx11
    have hpx11 := (hpx11a).keep hlgpgb belx11
    have hax11 := (hax11a).keep hlgagb belx11
    have hBx11 := hBx11a.trans (belx11.mono hlwgb)
    clear hfx11a hCx11a hTx11a hpx11a hax11a hbx11a hBx11a belx11 sizx11 keex11 hgb
    try dsimp only [Act.put]
    go_wp2_with (refine wpList_load_ar rfl _ _ rfl _ _ _ rfl hfx11 Tryd.arr16b (size16b _) ?_)
    refine (refprepare f _ Hf.out).mono ?_
    rintro e x12 ⟨rfl, hq⟩
    have hfx12 := (hfx11).to (by omega) hq
    have hCx12 := (hCx11).to hq
    have hTx12 := (hTx11).to hq
    have hpx12 := (hpx11).to (by omega) hq
    have hax12 := (hax11).to (by omega) hq
    have hbx12 := (hbx11).to (by omega) hq
    have hBx12 := hBx11.trans (hq.mono hBx11.size)
    clear hq hfx11 hCx11 hTx11 hpx11 hax11 hbx11 hBx11
    obtain ⟨gk, hgk⟩ : ∃ g : Nat, x12.heap.size = g := ⟨_, rfl⟩
    have hlgfgk : gf < gk := by rw [← hgk]; exact hfx12.lt (by omega)
    have hlgCgk : gC < gk := by rw [← hgk]; exact hCx12.lt
    have hlgTgk : gT < gk := by rw [← hgk]; exact hTx12.lt
    have hlgpgk : gp < gk := by rw [← hgk]; exact hpx12.lt (by omega)
    have hlgagk : ga < gk := by rw [← hgk]; exact hax12.lt (by omega)
    have hlgbgk : gb < gk := by rw [← hgk]; exact hbx12.lt (by omega)
    have hlwgk : w.heap.size ≤ gk := by rw [← hgk]; exact hBx12.size
    have hq : Below x12.heap.size x12 (x12.alloc (.cells (arL 432 fun _ => 0).toArray 34)) := (Below.refl _ _).alloc (Nat.le_refl _) _
    have hfx13a := (hfx12).to (by omega) hq
    have hCx13a := (hCx12).to hq
    have hTx13a := (hTx12).to hq
    have hpx13a := (hpx12).to (by omega) hq
    have hax13a := (hax12).to (by omega) hq
    have hbx13a := (hbx12).to (by omega) hq
    have hkx13a := Ar.new x12 432 (fun _ => 0) 34
    have hBx13a := hBx12.alloc hBx12.size (.cells (arL 432 fun _ => 0).toArray 34)
    rw [hgk] at hkx13a
    clear hq hfx12 hCx12 hTx12 hpx12 hax12 hbx12 hBx12
    go_upto_region 8 with (first | (refine wpList_store_ar rfl _ _ _ rfl _ _ _ (pkF (ek f) sb) rfl rfl hkx13a (sizeK _) ?_; intro x13 hkx13 belx13 sizx13 keex13) | fail)
    have hfx13 := (hfx13a).keep hlgfgk belx13
    have hCx13 := (hCx13a).keep hlgCgk belx13
    have hTx13 := (hTx13a).keep hlgTgk belx13
    have hpx13 := (hpx13a).keep hlgpgk belx13
    have hax13 := (hax13a).keep hlgagk belx13
    have hbx13 := (hbx13a).keep hlgbgk belx13
    have hBx13 := hBx13a.trans (belx13.mono hlwgk)
    clear hfx13a hCx13a hTx13a hpx13a hax13a hbx13a hkx13a hBx13a belx13 sizx13 keex13 hgk
    try dsimp only [Act.put]
    apply wp_region_viaG (F := fun gx W => Ar W gf 16 (f) ∧ Ci W gC (f) ∧ Ti W gT (some ⟨gC, 0, none⟩) (s) ∧ Ar W gp 16 (P) ∧ Ar W ga 16 (enF f (adF P s)) ∧ Ar W gb 16 (enF f (adF P D)) ∧ Ar W gk 432 (pkF (ek f) sb) ∧ Ar W gx 16 (adF P s) ∧ gk < gx ∧ Below w.heap.size w W)
    case h1 =>
      refine wp_region_noPanic ?_
      refine wp_region_held_drew (S := fun W => Ar W gf 16 (f) ∧ Ci W gC (f) ∧ Ti W gT (some ⟨gC, 0, none⟩) (s) ∧ Ar W gp 16 (P) ∧ Ar W ga 16 (enF f (adF P s)) ∧ Ar W gb 16 (enF f (adF P D)) ∧ Ar W gk 432 (pkF (ek f) sb) ∧ Below w.heap.size w W) (by kernel_rfl) ⟨hfx13.drew, hCx13.drew, hTx13.drew, hpx13.drew, hax13.drew, hbx13.drew, hkx13.drew, hBx13.drew⟩ (fun hHeld => ?_)
      generalize World.drew x13 = cd at *
      refine wpAnyH_take (i := 0) (v := .agg (arL 16 (P)).toArray) rfl (by kernel_rfl) (by kernel_rfl) (by kernel_rfl) (fun _ _ _ h => h) (yieldsIf_load_mid (by rfl) _ _ rfl gp (0) rfl (arL 16 (P)) _ (fun W hSw => hSw.2.2.2.1.range) Tryd.arr16b rfl (size16b _)) (by assumption) ?_
      simp only [Act.put, List.setIfInBounds_toArray, List.set_cons_zero, List.set_cons_succ, List.getElem_toArray, List.getElem_cons_zero]
      refine wpAnyH_take (i := 1) (v := ?vc1) rfl (by kernel_rfl) (by kernel_rfl) (by kernel_rfl) (fun _ _ _ h => h) (Or.inl ⟨by rfl, ?hyc1⟩) (by assumption) ?restc1
      case hyc1 =>
        intro W hSw
        go_simp
        try with_reducible rfl
      simp only [Act.put, List.setIfInBounds_toArray, List.set_cons_zero, List.set_cons_succ, List.getElem_toArray, List.getElem_cons_zero, List.getElem_cons_succ]
      refine wpAnyH_ready (rs := [2, 4]) (by kernel_rfl) (by simp) ?_
      refine AllReadyH.cons rfl (fun K hK => ?_) (AllReadyH.cons rfl (fun K hK => ?_) AllReadyH.nil)
      · go_simp
        refine (tstar (.pointer (some ⟨gT, 0, none⟩)) (some ⟨gC, 0, none⟩) s _ (tab_made _ _ _ _ (hHeld.2.2.1))).mono ?_
        rintro e c2 ⟨rfl, hq⟩
        go_wp2_with fail
        refine hK.out _ _ ⟨(hHeld.1).to (by omega) hq, (hHeld.2.1).to hq, (hHeld.2.2.1).to hq, (hHeld.2.2.2.1).to (by omega) hq, (hHeld.2.2.2.2.1).to (by omega) hq, (hHeld.2.2.2.2.2.1).to (by omega) hq, (hHeld.2.2.2.2.2.2.1).to (by omega) hq, (hHeld.2.2.2.2.2.2.2).trans (hq.mono (hHeld.2.2.2.2.2.2.2).size)⟩ (fun hHeld2 => ?_)
        clear hK K hHeld hq
        have hHeld := hHeld2
        clear hHeld2
        try simp only [Act.put, List.setIfInBounds_toArray, List.set_cons_zero, List.set_cons_succ, List.getElem_toArray, List.getElem_cons_zero, List.getElem_cons_succ]
        refine wpAnyH_ready (rs := [3, 4]) (by kernel_rfl) (by simp) ?_
        refine AllReadyH.cons rfl (fun K hK => ?_) (AllReadyH.cons rfl (fun K hK => ?_) AllReadyH.nil)
        · go_simp
          refine (refxor8 P s _ hpb.out HSL.out).mono ?_
          rintro e c3 ⟨rfl, hq⟩
          go_wp2_with fail
          refine hK.out _ _ ⟨(hHeld.1).to (by omega) hq, (hHeld.2.1).to hq, (hHeld.2.2.1).to hq, (hHeld.2.2.2.1).to (by omega) hq, (hHeld.2.2.2.2.1).to (by omega) hq, (hHeld.2.2.2.2.2.1).to (by omega) hq, (hHeld.2.2.2.2.2.2.1).to (by omega) hq, (hHeld.2.2.2.2.2.2.2).trans (hq.mono (hHeld.2.2.2.2.2.2.2).size)⟩ (fun hHeld2 => ?_)
          clear hK K hHeld hq
          have hHeld := hHeld2
          clear hHeld2
          try simp only [Act.put, List.setIfInBounds_toArray, List.set_cons_zero, List.set_cons_succ, List.getElem_toArray, List.getElem_cons_zero, List.getElem_cons_succ]
          refine wpAnyH_ready (rs := [4]) (by kernel_rfl) (by simp) ?_
          refine AllReadyH.cons rfl (fun K hK => ?_) AllReadyH.nil
          obtain ⟨gx, hggx⟩ : ∃ g : Nat, c3.heap.size = g := ⟨_, rfl⟩
          have hlgkgx : gk < gx := by rw [← hggx]; exact (hHeld.2.2.2.2.2.2.1).lt (by omega)
          have hq : Below c3.heap.size c3 (c3.alloc (.cells (arL 16 fun _ => 0).toArray 22)) := (Below.refl _ _).alloc (Nat.le_refl _) _
          have hxc4 := Ar.new c3 16 (fun _ => 0) 22
          rw [hggx] at hxc4
          have hSc4 := show Ar (c3.alloc (.cells (arL 16 fun _ => 0).toArray 22)) gf 16 (f) ∧ Ci (c3.alloc (.cells (arL 16 fun _ => 0).toArray 22)) gC (f) ∧ Ti (c3.alloc (.cells (arL 16 fun _ => 0).toArray 22)) gT (some ⟨gC, 0, none⟩) (s) ∧ Ar (c3.alloc (.cells (arL 16 fun _ => 0).toArray 22)) gp 16 (P) ∧ Ar (c3.alloc (.cells (arL 16 fun _ => 0).toArray 22)) ga 16 (enF f (adF P s)) ∧ Ar (c3.alloc (.cells (arL 16 fun _ => 0).toArray 22)) gb 16 (enF f (adF P D)) ∧ Ar (c3.alloc (.cells (arL 16 fun _ => 0).toArray 22)) gk 432 (pkF (ek f) sb) ∧ Below w.heap.size w (c3.alloc (.cells (arL 16 fun _ => 0).toArray 22)) from ⟨(hHeld.1).to (by omega) hq, (hHeld.2.1).to hq, (hHeld.2.2.1).to hq, (hHeld.2.2.2.1).to (by omega) hq, (hHeld.2.2.2.2.1).to (by omega) hq, (hHeld.2.2.2.2.2.1).to (by omega) hq, (hHeld.2.2.2.2.2.2.1).to (by omega) hq, (hHeld.2.2.2.2.2.2.2).trans (hq.mono (hHeld.2.2.2.2.2.2.2).size)⟩
          go_simp
          obtain ⟨c4, hwc4⟩ : ∃ V : World, V = c3.alloc (.cells (arL 16 fun _ => 0).toArray 22) := ⟨_, rfl⟩
          rw [show c3.alloc (.cells (arL 16 fun _ => 0).toArray 22) = c4 from hwc4.symm] at hSc4
          have hxc4 : Ar c4 gx 16 (fun _ => 0) := by rw [hwc4]; exact hxc4
          try rw [hggx]
          rw [← hwc4]
          refine hK.out _ _ hSc4 (fun hHeld2 => ?_)
          clear hK K hHeld hq hSc4 hwc4 hggx
          have hHeld := hHeld2
          clear hHeld2
          try simp only [Act.put, List.setIfInBounds_toArray, List.set_cons_zero, List.set_cons_succ, List.getElem_toArray, List.getElem_cons_zero, List.getElem_cons_succ]
          refine wpAnyH_ready (rs := [5]) (by kernel_rfl) (by simp) ?_
          refine AllReadyH.cons rfl (fun K hK => ?_) AllReadyH.nil
          rw [if_pos (by rfl)]
          refine wp_store_mid _ _ _ rfl gx 0 (arL 16 (adF P s)).toArray rfl rfl hxc4.there (size16b _) (all_oneCell_toArray (arL_one 16 (adF P s))) ?_
          have hxc5 := hxc4.whole (adF P s)
          have hSc5 := show Ar (World.setCells c4 gx 0 (arL 16 (adF P s))) gf 16 (f) ∧ Ci (World.setCells c4 gx 0 (arL 16 (adF P s))) gC (f) ∧ Ti (World.setCells c4 gx 0 (arL 16 (adF P s))) gT (some ⟨gC, 0, none⟩) (s) ∧ Ar (World.setCells c4 gx 0 (arL 16 (adF P s))) gp 16 (P) ∧ Ar (World.setCells c4 gx 0 (arL 16 (adF P s))) ga 16 (enF f (adF P s)) ∧ Ar (World.setCells c4 gx 0 (arL 16 (adF P s))) gb 16 (enF f (adF P D)) ∧ Ar (World.setCells c4 gx 0 (arL 16 (adF P s))) gk 432 (pkF (ek f) sb) ∧ Below w.heap.size w (World.setCells c4 gx 0 (arL 16 (adF P s))) from ⟨(hHeld.1).apart (b := gx) (by omega) (arL 16 (adF P s)) 0, (hHeld.2.1).keep (by omega) (below_setCells _ gx (arL 16 (adF P s)) 0), (hHeld.2.2.1).keep (by omega) (below_setCells _ gx (arL 16 (adF P s)) 0), (hHeld.2.2.2.1).apart (b := gx) (by omega) (arL 16 (adF P s)) 0, (hHeld.2.2.2.2.1).apart (b := gx) (by omega) (arL 16 (adF P s)) 0, (hHeld.2.2.2.2.2.1).apart (b := gx) (by omega) (arL 16 (adF P s)) 0, (hHeld.2.2.2.2.2.2.1).apart (b := gx) (by omega) (arL 16 (adF P s)) 0, (hHeld.2.2.2.2.2.2.2).trans (Below.setCells (Below.refl w.heap.size _) (b := gx) (by omega) (arL 16 (adF P s)) 0)⟩
          dsimp only [List.toList_toArray]
          generalize World.setCells c4 gx 0 (arL 16 (adF P s)) = c5 at *
          refine hK.out _ _ hSc5 (fun hHeld2 => ?_)
          clear hK K hHeld hSc5 hxc4
          have hHeld := hHeld2
          clear hHeld2
          try simp only [Act.put]
          refine wpAnyH_done (by kernel_rfl) ?_ _
          refine NoPanic.normal ?_
          exact ⟨rfl, gx, rfl, hHeld.1, hHeld.2.1, hHeld.2.2.1, hHeld.2.2.2.1, hHeld.2.2.2.2.1, hHeld.2.2.2.2.2.1, hHeld.2.2.2.2.2.2.1, hxc5, by omega, hHeld.2.2.2.2.2.2.2⟩
        · obtain ⟨gx, hggx⟩ : ∃ g : Nat, c2.heap.size = g := ⟨_, rfl⟩
          have hlgkgx : gk < gx := by rw [← hggx]; exact (hHeld.2.2.2.2.2.2.1).lt (by omega)
          have hq : Below c2.heap.size c2 (c2.alloc (.cells (arL 16 fun _ => 0).toArray 22)) := (Below.refl _ _).alloc (Nat.le_refl _) _
          have hxc6 := Ar.new c2 16 (fun _ => 0) 22
          rw [hggx] at hxc6
          have hSc6 := show Ar (c2.alloc (.cells (arL 16 fun _ => 0).toArray 22)) gf 16 (f) ∧ Ci (c2.alloc (.cells (arL 16 fun _ => 0).toArray 22)) gC (f) ∧ Ti (c2.alloc (.cells (arL 16 fun _ => 0).toArray 22)) gT (some ⟨gC, 0, none⟩) (s) ∧ Ar (c2.alloc (.cells (arL 16 fun _ => 0).toArray 22)) gp 16 (P) ∧ Ar (c2.alloc (.cells (arL 16 fun _ => 0).toArray 22)) ga 16 (enF f (adF P s)) ∧ Ar (c2.alloc (.cells (arL 16 fun _ => 0).toArray 22)) gb 16 (enF f (adF P D)) ∧ Ar (c2.alloc (.cells (arL 16 fun _ => 0).toArray 22)) gk 432 (pkF (ek f) sb) ∧ Below w.heap.size w (c2.alloc (.cells (arL 16 fun _ => 0).toArray 22)) from ⟨(hHeld.1).to (by omega) hq, (hHeld.2.1).to hq, (hHeld.2.2.1).to hq, (hHeld.2.2.2.1).to (by omega) hq, (hHeld.2.2.2.2.1).to (by omega) hq, (hHeld.2.2.2.2.2.1).to (by omega) hq, (hHeld.2.2.2.2.2.2.1).to (by omega) hq, (hHeld.2.2.2.2.2.2.2).trans (hq.mono (hHeld.2.2.2.2.2.2.2).size)⟩
          go_simp
          obtain ⟨c6, hwc6⟩ : ∃ V : World, V = c2.alloc (.cells (arL 16 fun _ => 0).toArray 22) := ⟨_, rfl⟩
          rw [show c2.alloc (.cells (arL 16 fun _ => 0).toArray 22) = c6 from hwc6.symm] at hSc6
          have hxc6 : Ar c6 gx 16 (fun _ => 0) := by rw [hwc6]; exact hxc6
          try rw [hggx]
          rw [← hwc6]
          refine hK.out _ _ hSc6 (fun hHeld2 => ?_)
          clear hK K hHeld hq hSc6 hwc6 hggx
          have hHeld := hHeld2
          clear hHeld2
          try simp only [Act.put, List.setIfInBounds_toArray, List.set_cons_zero, List.set_cons_succ, List.getElem_toArray, List.getElem_cons_zero, List.getElem_cons_succ]
          refine wpAnyH_ready (rs := [3]) (by kernel_rfl) (by simp) ?_
          refine AllReadyH.cons rfl (fun K hK => ?_) AllReadyH.nil
          go_simp
          refine (refxor8 P s _ hpb.out HSL.out).mono ?_
          rintro e c7 ⟨rfl, hq⟩
          go_wp2_with fail
          have hxc7 := (hxc6).to (by omega) hq
          refine hK.out _ _ ⟨(hHeld.1).to (by omega) hq, (hHeld.2.1).to hq, (hHeld.2.2.1).to hq, (hHeld.2.2.2.1).to (by omega) hq, (hHeld.2.2.2.2.1).to (by omega) hq, (hHeld.2.2.2.2.2.1).to (by omega) hq, (hHeld.2.2.2.2.2.2.1).to (by omega) hq, (hHeld.2.2.2.2.2.2.2).trans (hq.mono (hHeld.2.2.2.2.2.2.2).size)⟩ (fun hHeld2 => ?_)
          clear hK K hHeld hq hxc6
          have hHeld := hHeld2
          clear hHeld2
          try simp only [Act.put, List.setIfInBounds_toArray, List.set_cons_zero, List.set_cons_succ, List.getElem_toArray, List.getElem_cons_zero, List.getElem_cons_succ]
          refine wpAnyH_ready (rs := [5]) (by kernel_rfl) (by simp) ?_
          refine AllReadyH.cons rfl (fun K hK => ?_) AllReadyH.nil
          rw [if_pos (by rfl)]
          refine wp_store_mid _ _ _ rfl gx 0 (arL 16 (adF P s)).toArray rfl rfl hxc7.there (size16b _) (all_oneCell_toArray (arL_one 16 (adF P s))) ?_
          have hxc8 := hxc7.whole (adF P s)
          have hSc8 := show Ar (World.setCells c7 gx 0 (arL 16 (adF P s))) gf 16 (f) ∧ Ci (World.setCells c7 gx 0 (arL 16 (adF P s))) gC (f) ∧ Ti (World.setCells c7 gx 0 (arL 16 (adF P s))) gT (some ⟨gC, 0, none⟩) (s) ∧ Ar (World.setCells c7 gx 0 (arL 16 (adF P s))) gp 16 (P) ∧ Ar (World.setCells c7 gx 0 (arL 16 (adF P s))) ga 16 (enF f (adF P s)) ∧ Ar (World.setCells c7 gx 0 (arL 16 (adF P s))) gb 16 (enF f (adF P D)) ∧ Ar (World.setCells c7 gx 0 (arL 16 (adF P s))) gk 432 (pkF (ek f) sb) ∧ Below w.heap.size w (World.setCells c7 gx 0 (arL 16 (adF P s))) from ⟨(hHeld.1).apart (b := gx) (by omega) (arL 16 (adF P s)) 0, (hHeld.2.1).keep (by omega) (below_setCells _ gx (arL 16 (adF P s)) 0), (hHeld.2.2.1).keep (by omega) (below_setCells _ gx (arL 16 (adF P s)) 0), (hHeld.2.2.2.1).apart (b := gx) (by omega) (arL 16 (adF P s)) 0, (hHeld.2.2.2.2.1).apart (b := gx) (by omega) (arL 16 (adF P s)) 0, (hHeld.2.2.2.2.2.1).apart (b := gx) (by omega) (arL 16 (adF P s)) 0, (hHeld.2.2.2.2.2.2.1).apart (b := gx) (by omega) (arL 16 (adF P s)) 0, (hHeld.2.2.2.2.2.2.2).trans (Below.setCells (Below.refl w.heap.size _) (b := gx) (by omega) (arL 16 (adF P s)) 0)⟩
          dsimp only [List.toList_toArray]
          generalize World.setCells c7 gx 0 (arL 16 (adF P s)) = c8 at *
          refine hK.out _ _ hSc8 (fun hHeld2 => ?_)
          clear hK K hHeld hSc8 hxc7
          have hHeld := hHeld2
          clear hHeld2
          try simp only [Act.put]
          refine wpAnyH_done (by kernel_rfl) ?_ _
          refine NoPanic.normal ?_
          exact ⟨rfl, gx, rfl, hHeld.1, hHeld.2.1, hHeld.2.2.1, hHeld.2.2.2.1, hHeld.2.2.2.2.1, hHeld.2.2.2.2.2.1, hHeld.2.2.2.2.2.2.1, hxc8, by omega, hHeld.2.2.2.2.2.2.2⟩
      · obtain ⟨gx, hggx⟩ : ∃ g : Nat, cd.heap.size = g := ⟨_, rfl⟩
        have hlgkgx : gk < gx := by rw [← hggx]; exact (hHeld.2.2.2.2.2.2.1).lt (by omega)
        have hq : Below cd.heap.size cd (cd.alloc (.cells (arL 16 fun _ => 0).toArray 22)) := (Below.refl _ _).alloc (Nat.le_refl _) _
        have hxc9 := Ar.new cd 16 (fun _ => 0) 22
        rw [hggx] at hxc9
        have hSc9 := show Ar (cd.alloc (.cells (arL 16 fun _ => 0).toArray 22)) gf 16 (f) ∧ Ci (cd.alloc (.cells (arL 16 fun _ => 0).toArray 22)) gC (f) ∧ Ti (cd.alloc (.cells (arL 16 fun _ => 0).toArray 22)) gT (some ⟨gC, 0, none⟩) (s) ∧ Ar (cd.alloc (.cells (arL 16 fun _ => 0).toArray 22)) gp 16 (P) ∧ Ar (cd.alloc (.cells (arL 16 fun _ => 0).toArray 22)) ga 16 (enF f (adF P s)) ∧ Ar (cd.alloc (.cells (arL 16 fun _ => 0).toArray 22)) gb 16 (enF f (adF P D)) ∧ Ar (cd.alloc (.cells (arL 16 fun _ => 0).toArray 22)) gk 432 (pkF (ek f) sb) ∧ Below w.heap.size w (cd.alloc (.cells (arL 16 fun _ => 0).toArray 22)) from ⟨(hHeld.1).to (by omega) hq, (hHeld.2.1).to hq, (hHeld.2.2.1).to hq, (hHeld.2.2.2.1).to (by omega) hq, (hHeld.2.2.2.2.1).to (by omega) hq, (hHeld.2.2.2.2.2.1).to (by omega) hq, (hHeld.2.2.2.2.2.2.1).to (by omega) hq, (hHeld.2.2.2.2.2.2.2).trans (hq.mono (hHeld.2.2.2.2.2.2.2).size)⟩
        go_simp
        obtain ⟨c9, hwc9⟩ : ∃ V : World, V = cd.alloc (.cells (arL 16 fun _ => 0).toArray 22) := ⟨_, rfl⟩
        rw [show cd.alloc (.cells (arL 16 fun _ => 0).toArray 22) = c9 from hwc9.symm] at hSc9
        have hxc9 : Ar c9 gx 16 (fun _ => 0) := by rw [hwc9]; exact hxc9
        try rw [hggx]
        rw [← hwc9]
        refine hK.out _ _ hSc9 (fun hHeld2 => ?_)
        clear hK K hHeld hq hSc9 hwc9 hggx
        have hHeld := hHeld2
        clear hHeld2
        try simp only [Act.put, List.setIfInBounds_toArray, List.set_cons_zero, List.set_cons_succ, List.getElem_toArray, List.getElem_cons_zero, List.getElem_cons_succ]
        refine wpAnyH_ready (rs := [2]) (by kernel_rfl) (by simp) ?_
        refine AllReadyH.cons rfl (fun K hK => ?_) AllReadyH.nil
        go_simp
        refine (tstar (.pointer (some ⟨gT, 0, none⟩)) (some ⟨gC, 0, none⟩) s _ (tab_made _ _ _ _ (hHeld.2.2.1))).mono ?_
        rintro e c10 ⟨rfl, hq⟩
        go_wp2_with fail
        have hxc10 := (hxc9).to (by omega) hq
        refine hK.out _ _ ⟨(hHeld.1).to (by omega) hq, (hHeld.2.1).to hq, (hHeld.2.2.1).to hq, (hHeld.2.2.2.1).to (by omega) hq, (hHeld.2.2.2.2.1).to (by omega) hq, (hHeld.2.2.2.2.2.1).to (by omega) hq, (hHeld.2.2.2.2.2.2.1).to (by omega) hq, (hHeld.2.2.2.2.2.2.2).trans (hq.mono (hHeld.2.2.2.2.2.2.2).size)⟩ (fun hHeld2 => ?_)
        clear hK K hHeld hq hxc9
        have hHeld := hHeld2
        clear hHeld2
        try simp only [Act.put, List.setIfInBounds_toArray, List.set_cons_zero, List.set_cons_succ, List.getElem_toArray, List.getElem_cons_zero, List.getElem_cons_succ]
        refine wpAnyH_ready (rs := [3]) (by kernel_rfl) (by simp) ?_
        refine AllReadyH.cons rfl (fun K hK => ?_) AllReadyH.nil
        go_simp
        refine (refxor8 P s _ hpb.out HSL.out).mono ?_
        rintro e c11 ⟨rfl, hq⟩
        go_wp2_with fail
        have hxc11 := (hxc10).to (by omega) hq
        refine hK.out _ _ ⟨(hHeld.1).to (by omega) hq, (hHeld.2.1).to hq, (hHeld.2.2.1).to hq, (hHeld.2.2.2.1).to (by omega) hq, (hHeld.2.2.2.2.1).to (by omega) hq, (hHeld.2.2.2.2.2.1).to (by omega) hq, (hHeld.2.2.2.2.2.2.1).to (by omega) hq, (hHeld.2.2.2.2.2.2.2).trans (hq.mono (hHeld.2.2.2.2.2.2.2).size)⟩ (fun hHeld2 => ?_)
        clear hK K hHeld hq hxc10
        have hHeld := hHeld2
        clear hHeld2
        try simp only [Act.put, List.setIfInBounds_toArray, List.set_cons_zero, List.set_cons_succ, List.getElem_toArray, List.getElem_cons_zero, List.getElem_cons_succ]
        refine wpAnyH_ready (rs := [5]) (by kernel_rfl) (by simp) ?_
        refine AllReadyH.cons rfl (fun K hK => ?_) AllReadyH.nil
        rw [if_pos (by rfl)]
        refine wp_store_mid _ _ _ rfl gx 0 (arL 16 (adF P s)).toArray rfl rfl hxc11.there (size16b _) (all_oneCell_toArray (arL_one 16 (adF P s))) ?_
        have hxc12 := hxc11.whole (adF P s)
        have hSc12 := show Ar (World.setCells c11 gx 0 (arL 16 (adF P s))) gf 16 (f) ∧ Ci (World.setCells c11 gx 0 (arL 16 (adF P s))) gC (f) ∧ Ti (World.setCells c11 gx 0 (arL 16 (adF P s))) gT (some ⟨gC, 0, none⟩) (s) ∧ Ar (World.setCells c11 gx 0 (arL 16 (adF P s))) gp 16 (P) ∧ Ar (World.setCells c11 gx 0 (arL 16 (adF P s))) ga 16 (enF f (adF P s)) ∧ Ar (World.setCells c11 gx 0 (arL 16 (adF P s))) gb 16 (enF f (adF P D)) ∧ Ar (World.setCells c11 gx 0 (arL 16 (adF P s))) gk 432 (pkF (ek f) sb) ∧ Below w.heap.size w (World.setCells c11 gx 0 (arL 16 (adF P s))) from ⟨(hHeld.1).apart (b := gx) (by omega) (arL 16 (adF P s)) 0, (hHeld.2.1).keep (by omega) (below_setCells _ gx (arL 16 (adF P s)) 0), (hHeld.2.2.1).keep (by omega) (below_setCells _ gx (arL 16 (adF P s)) 0), (hHeld.2.2.2.1).apart (b := gx) (by omega) (arL 16 (adF P s)) 0, (hHeld.2.2.2.2.1).apart (b := gx) (by omega) (arL 16 (adF P s)) 0, (hHeld.2.2.2.2.2.1).apart (b := gx) (by omega) (arL 16 (adF P s)) 0, (hHeld.2.2.2.2.2.2.1).apart (b := gx) (by omega) (arL 16 (adF P s)) 0, (hHeld.2.2.2.2.2.2.2).trans (Below.setCells (Below.refl w.heap.size _) (b := gx) (by omega) (arL 16 (adF P s)) 0)⟩
        dsimp only [List.toList_toArray]
        generalize World.setCells c11 gx 0 (arL 16 (adF P s)) = c12 at *
        refine hK.out _ _ hSc12 (fun hHeld2 => ?_)
        clear hK K hHeld hSc12 hxc11
        have hHeld := hHeld2
        clear hHeld2
        try simp only [Act.put]
        refine wpAnyH_done (by kernel_rfl) ?_ _
        refine NoPanic.normal ?_
        exact ⟨rfl, gx, rfl, hHeld.1, hHeld.2.1, hHeld.2.2.1, hHeld.2.2.2.1, hHeld.2.2.2.2.1, hHeld.2.2.2.2.2.1, hHeld.2.2.2.2.2.2.1, hxc12, by omega, hHeld.2.2.2.2.2.2.2⟩
    rintro gx x14 ⟨hfx14, hCx14, hTx14, hpx14, hax14, hbx14, hkx14, hxx14, hlgx, hBx14⟩
    clear hfx13 hCx13 hTx13 hpx13 hax13 hbx13 hkx13 hBx13
    go_upto_region 9 with fail
    apply wp_region_viaG (F := fun gy W => Ar W gf 16 (f) ∧ Ci W gC (f) ∧ Ti W gT (some ⟨gC, 0, none⟩) (s) ∧ Ar W gp 16 (P) ∧ Ar W ga 16 (enF f (adF P s)) ∧ Ar W gb 16 (enF f (adF P D)) ∧ Ar W gk 432 (pkF (ek f) sb) ∧ Ar W gx 16 (adF P s) ∧ Ar W gy 16 (adF P D) ∧ gx < gy ∧ Below w.heap.size w W)
    case h1 =>
      refine wp_region_noPanic ?_
      refine wp_region_held_drew (S := fun W => Ar W gf 16 (f) ∧ Ci W gC (f) ∧ Ti W gT (some ⟨gC, 0, none⟩) (s) ∧ Ar W gp 16 (P) ∧ Ar W ga 16 (enF f (adF P s)) ∧ Ar W gb 16 (enF f (adF P D)) ∧ Ar W gk 432 (pkF (ek f) sb) ∧ Ar W gx 16 (adF P s) ∧ Below w.heap.size w W) (by kernel_rfl) ⟨hfx14.drew, hCx14.drew, hTx14.drew, hpx14.drew, hax14.drew, hbx14.drew, hkx14.drew, hxx14.drew, hBx14.drew⟩ (fun hHeld => ?_)
      generalize World.drew x14 = dd at *
      refine wpAnyH_take (i := 0) (v := .agg (arL 16 (P)).toArray) rfl (by kernel_rfl) (by kernel_rfl) (by kernel_rfl) (fun _ _ _ h => h) (yieldsIf_load_mid (by rfl) _ _ rfl gp (0) rfl (arL 16 (P)) _ (fun W hSw => hSw.2.2.2.1.range) Tryd.arr16b rfl (size16b _)) (by assumption) ?_
      simp only [Act.put, List.setIfInBounds_toArray, List.set_cons_zero, List.set_cons_succ, List.getElem_toArray, List.getElem_cons_zero]
      refine wpAnyH_take (i := 1) (v := ?vd1) rfl (by kernel_rfl) (by kernel_rfl) (by kernel_rfl) (fun _ _ _ h => h) (Or.inl ⟨by rfl, ?hyd1⟩) (by assumption) ?restd1
      case hyd1 =>
        intro W hSw
        go_simp
        try with_reducible rfl
      simp only [Act.put, List.setIfInBounds_toArray, List.set_cons_zero, List.set_cons_succ, List.getElem_toArray, List.getElem_cons_zero, List.getElem_cons_succ]
      refine wpAnyH_ready (rs := [2, 4]) (by kernel_rfl) (by simp) ?_
      refine AllReadyH.cons rfl (fun K hK => ?_) (AllReadyH.cons rfl (fun K hK => ?_) AllReadyH.nil)
      · go_simp
        refine (tat0 _ _ s _ (tab_made _ _ _ _ (hHeld.2.2.1))).mono ?_
        rintro e d2 ⟨rfl, hq⟩
        rw [HDD.out]
        go_wp2_with fail
        refine hK.out _ _ ⟨(hHeld.1).to (by omega) hq, (hHeld.2.1).to hq, (hHeld.2.2.1).to hq, (hHeld.2.2.2.1).to (by omega) hq, (hHeld.2.2.2.2.1).to (by omega) hq, (hHeld.2.2.2.2.2.1).to (by omega) hq, (hHeld.2.2.2.2.2.2.1).to (by omega) hq, (hHeld.2.2.2.2.2.2.2.1).to (by omega) hq, (hHeld.2.2.2.2.2.2.2.2).trans (hq.mono (hHeld.2.2.2.2.2.2.2.2).size)⟩ (fun hHeld2 => ?_)
        clear hK K hHeld hq
        have hHeld := hHeld2
        clear hHeld2
        try simp only [Act.put, List.setIfInBounds_toArray, List.set_cons_zero, List.set_cons_succ, List.getElem_toArray, List.getElem_cons_zero, List.getElem_cons_succ]
        refine wpAnyH_ready (rs := [3, 4]) (by kernel_rfl) (by simp) ?_
        refine AllReadyH.cons rfl (fun K hK => ?_) (AllReadyH.cons rfl (fun K hK => ?_) AllReadyH.nil)
        · go_simp
          refine (refxor8 P D _ hpb.out HDB.out).mono ?_
          rintro e d3 ⟨rfl, hq⟩
          go_wp2_with fail
          refine hK.out _ _ ⟨(hHeld.1).to (by omega) hq, (hHeld.2.1).to hq, (hHeld.2.2.1).to hq, (hHeld.2.2.2.1).to (by omega) hq, (hHeld.2.2.2.2.1).to (by omega) hq, (hHeld.2.2.2.2.2.1).to (by omega) hq, (hHeld.2.2.2.2.2.2.1).to (by omega) hq, (hHeld.2.2.2.2.2.2.2.1).to (by omega) hq, (hHeld.2.2.2.2.2.2.2.2).trans (hq.mono (hHeld.2.2.2.2.2.2.2.2).size)⟩ (fun hHeld2 => ?_)
          clear hK K hHeld hq
          have hHeld := hHeld2
          clear hHeld2
          try simp only [Act.put, List.setIfInBounds_toArray, List.set_cons_zero, List.set_cons_succ, List.getElem_toArray, List.getElem_cons_zero, List.getElem_cons_succ]
          refine wpAnyH_ready (rs := [4]) (by kernel_rfl) (by simp) ?_
          refine AllReadyH.cons rfl (fun K hK => ?_) AllReadyH.nil
          obtain ⟨gy, hggy⟩ : ∃ g : Nat, d3.heap.size = g := ⟨_, rfl⟩
          have hlgxgy : gx < gy := by rw [← hggy]; exact (hHeld.2.2.2.2.2.2.2.1).lt (by omega)
          have hq : Below d3.heap.size d3 (d3.alloc (.cells (arL 16 fun _ => 0).toArray 22)) := (Below.refl _ _).alloc (Nat.le_refl _) _
          have hyd4 := Ar.new d3 16 (fun _ => 0) 22
          rw [hggy] at hyd4
          have hSd4 := show Ar (d3.alloc (.cells (arL 16 fun _ => 0).toArray 22)) gf 16 (f) ∧ Ci (d3.alloc (.cells (arL 16 fun _ => 0).toArray 22)) gC (f) ∧ Ti (d3.alloc (.cells (arL 16 fun _ => 0).toArray 22)) gT (some ⟨gC, 0, none⟩) (s) ∧ Ar (d3.alloc (.cells (arL 16 fun _ => 0).toArray 22)) gp 16 (P) ∧ Ar (d3.alloc (.cells (arL 16 fun _ => 0).toArray 22)) ga 16 (enF f (adF P s)) ∧ Ar (d3.alloc (.cells (arL 16 fun _ => 0).toArray 22)) gb 16 (enF f (adF P D)) ∧ Ar (d3.alloc (.cells (arL 16 fun _ => 0).toArray 22)) gk 432 (pkF (ek f) sb) ∧ Ar (d3.alloc (.cells (arL 16 fun _ => 0).toArray 22)) gx 16 (adF P s) ∧ Below w.heap.size w (d3.alloc (.cells (arL 16 fun _ => 0).toArray 22)) from ⟨(hHeld.1).to (by omega) hq, (hHeld.2.1).to hq, (hHeld.2.2.1).to hq, (hHeld.2.2.2.1).to (by omega) hq, (hHeld.2.2.2.2.1).to (by omega) hq, (hHeld.2.2.2.2.2.1).to (by omega) hq, (hHeld.2.2.2.2.2.2.1).to (by omega) hq, (hHeld.2.2.2.2.2.2.2.1).to (by omega) hq, (hHeld.2.2.2.2.2.2.2.2).trans (hq.mono (hHeld.2.2.2.2.2.2.2.2).size)⟩
          go_simp
          obtain ⟨d4, hwd4⟩ : ∃ V : World, V = d3.alloc (.cells (arL 16 fun _ => 0).toArray 22) := ⟨_, rfl⟩
          rw [show d3.alloc (.cells (arL 16 fun _ => 0).toArray 22) = d4 from hwd4.symm] at hSd4
          have hyd4 : Ar d4 gy 16 (fun _ => 0) := by rw [hwd4]; exact hyd4
          try rw [hggy]
          rw [← hwd4]
          refine hK.out _ _ hSd4 (fun hHeld2 => ?_)
          clear hK K hHeld hq hSd4 hwd4 hggy
          have hHeld := hHeld2
          clear hHeld2
          try simp only [Act.put, List.setIfInBounds_toArray, List.set_cons_zero, List.set_cons_succ, List.getElem_toArray, List.getElem_cons_zero, List.getElem_cons_succ]
          refine wpAnyH_ready (rs := [5]) (by kernel_rfl) (by simp) ?_
          refine AllReadyH.cons rfl (fun K hK => ?_) AllReadyH.nil
          rw [if_pos (by rfl)]
          refine wp_store_mid _ _ _ rfl gy 0 (arL 16 (adF P D)).toArray rfl rfl hyd4.there (size16b _) (all_oneCell_toArray (arL_one 16 (adF P D))) ?_
          have hyd5 := hyd4.whole (adF P D)
          have hSd5 := show Ar (World.setCells d4 gy 0 (arL 16 (adF P D))) gf 16 (f) ∧ Ci (World.setCells d4 gy 0 (arL 16 (adF P D))) gC (f) ∧ Ti (World.setCells d4 gy 0 (arL 16 (adF P D))) gT (some ⟨gC, 0, none⟩) (s) ∧ Ar (World.setCells d4 gy 0 (arL 16 (adF P D))) gp 16 (P) ∧ Ar (World.setCells d4 gy 0 (arL 16 (adF P D))) ga 16 (enF f (adF P s)) ∧ Ar (World.setCells d4 gy 0 (arL 16 (adF P D))) gb 16 (enF f (adF P D)) ∧ Ar (World.setCells d4 gy 0 (arL 16 (adF P D))) gk 432 (pkF (ek f) sb) ∧ Ar (World.setCells d4 gy 0 (arL 16 (adF P D))) gx 16 (adF P s) ∧ Below w.heap.size w (World.setCells d4 gy 0 (arL 16 (adF P D))) from ⟨(hHeld.1).apart (b := gy) (by omega) (arL 16 (adF P D)) 0, (hHeld.2.1).keep (by omega) (below_setCells _ gy (arL 16 (adF P D)) 0), (hHeld.2.2.1).keep (by omega) (below_setCells _ gy (arL 16 (adF P D)) 0), (hHeld.2.2.2.1).apart (b := gy) (by omega) (arL 16 (adF P D)) 0, (hHeld.2.2.2.2.1).apart (b := gy) (by omega) (arL 16 (adF P D)) 0, (hHeld.2.2.2.2.2.1).apart (b := gy) (by omega) (arL 16 (adF P D)) 0, (hHeld.2.2.2.2.2.2.1).apart (b := gy) (by omega) (arL 16 (adF P D)) 0, (hHeld.2.2.2.2.2.2.2.1).apart (b := gy) (by omega) (arL 16 (adF P D)) 0, (hHeld.2.2.2.2.2.2.2.2).trans (Below.setCells (Below.refl w.heap.size _) (b := gy) (by omega) (arL 16 (adF P D)) 0)⟩
          dsimp only [List.toList_toArray]
          generalize World.setCells d4 gy 0 (arL 16 (adF P D)) = d5 at *
          refine hK.out _ _ hSd5 (fun hHeld2 => ?_)
          clear hK K hHeld hSd5 hyd4
          have hHeld := hHeld2
          clear hHeld2
          try simp only [Act.put]
          refine wpAnyH_done (by kernel_rfl) ?_ _
          refine NoPanic.normal ?_
          exact ⟨rfl, gy, rfl, hHeld.1, hHeld.2.1, hHeld.2.2.1, hHeld.2.2.2.1, hHeld.2.2.2.2.1, hHeld.2.2.2.2.2.1, hHeld.2.2.2.2.2.2.1, hHeld.2.2.2.2.2.2.2.1, hyd5, by omega, hHeld.2.2.2.2.2.2.2.2⟩
        · obtain ⟨gy, hggy⟩ : ∃ g : Nat, d2.heap.size = g := ⟨_, rfl⟩
          have hlgxgy : gx < gy := by rw [← hggy]; exact (hHeld.2.2.2.2.2.2.2.1).lt (by omega)
          have hq : Below d2.heap.size d2 (d2.alloc (.cells (arL 16 fun _ => 0).toArray 22)) := (Below.refl _ _).alloc (Nat.le_refl _) _
          have hyd6 := Ar.new d2 16 (fun _ => 0) 22
          rw [hggy] at hyd6
          have hSd6 := show Ar (d2.alloc (.cells (arL 16 fun _ => 0).toArray 22)) gf 16 (f) ∧ Ci (d2.alloc (.cells (arL 16 fun _ => 0).toArray 22)) gC (f) ∧ Ti (d2.alloc (.cells (arL 16 fun _ => 0).toArray 22)) gT (some ⟨gC, 0, none⟩) (s) ∧ Ar (d2.alloc (.cells (arL 16 fun _ => 0).toArray 22)) gp 16 (P) ∧ Ar (d2.alloc (.cells (arL 16 fun _ => 0).toArray 22)) ga 16 (enF f (adF P s)) ∧ Ar (d2.alloc (.cells (arL 16 fun _ => 0).toArray 22)) gb 16 (enF f (adF P D)) ∧ Ar (d2.alloc (.cells (arL 16 fun _ => 0).toArray 22)) gk 432 (pkF (ek f) sb) ∧ Ar (d2.alloc (.cells (arL 16 fun _ => 0).toArray 22)) gx 16 (adF P s) ∧ Below w.heap.size w (d2.alloc (.cells (arL 16 fun _ => 0).toArray 22)) from ⟨(hHeld.1).to (by omega) hq, (hHeld.2.1).to hq, (hHeld.2.2.1).to hq, (hHeld.2.2.2.1).to (by omega) hq, (hHeld.2.2.2.2.1).to (by omega) hq, (hHeld.2.2.2.2.2.1).to (by omega) hq, (hHeld.2.2.2.2.2.2.1).to (by omega) hq, (hHeld.2.2.2.2.2.2.2.1).to (by omega) hq, (hHeld.2.2.2.2.2.2.2.2).trans (hq.mono (hHeld.2.2.2.2.2.2.2.2).size)⟩
          go_simp
          obtain ⟨d6, hwd6⟩ : ∃ V : World, V = d2.alloc (.cells (arL 16 fun _ => 0).toArray 22) := ⟨_, rfl⟩
          rw [show d2.alloc (.cells (arL 16 fun _ => 0).toArray 22) = d6 from hwd6.symm] at hSd6
          have hyd6 : Ar d6 gy 16 (fun _ => 0) := by rw [hwd6]; exact hyd6
          try rw [hggy]
          rw [← hwd6]
          refine hK.out _ _ hSd6 (fun hHeld2 => ?_)
          clear hK K hHeld hq hSd6 hwd6 hggy
          have hHeld := hHeld2
          clear hHeld2
          try simp only [Act.put, List.setIfInBounds_toArray, List.set_cons_zero, List.set_cons_succ, List.getElem_toArray, List.getElem_cons_zero, List.getElem_cons_succ]
          refine wpAnyH_ready (rs := [3]) (by kernel_rfl) (by simp) ?_
          refine AllReadyH.cons rfl (fun K hK => ?_) AllReadyH.nil
          go_simp
          refine (refxor8 P D _ hpb.out HDB.out).mono ?_
          rintro e d7 ⟨rfl, hq⟩
          go_wp2_with fail
          have hyd7 := (hyd6).to (by omega) hq
          refine hK.out _ _ ⟨(hHeld.1).to (by omega) hq, (hHeld.2.1).to hq, (hHeld.2.2.1).to hq, (hHeld.2.2.2.1).to (by omega) hq, (hHeld.2.2.2.2.1).to (by omega) hq, (hHeld.2.2.2.2.2.1).to (by omega) hq, (hHeld.2.2.2.2.2.2.1).to (by omega) hq, (hHeld.2.2.2.2.2.2.2.1).to (by omega) hq, (hHeld.2.2.2.2.2.2.2.2).trans (hq.mono (hHeld.2.2.2.2.2.2.2.2).size)⟩ (fun hHeld2 => ?_)
          clear hK K hHeld hq hyd6
          have hHeld := hHeld2
          clear hHeld2
          try simp only [Act.put, List.setIfInBounds_toArray, List.set_cons_zero, List.set_cons_succ, List.getElem_toArray, List.getElem_cons_zero, List.getElem_cons_succ]
          refine wpAnyH_ready (rs := [5]) (by kernel_rfl) (by simp) ?_
          refine AllReadyH.cons rfl (fun K hK => ?_) AllReadyH.nil
          rw [if_pos (by rfl)]
          refine wp_store_mid _ _ _ rfl gy 0 (arL 16 (adF P D)).toArray rfl rfl hyd7.there (size16b _) (all_oneCell_toArray (arL_one 16 (adF P D))) ?_
          have hyd8 := hyd7.whole (adF P D)
          have hSd8 := show Ar (World.setCells d7 gy 0 (arL 16 (adF P D))) gf 16 (f) ∧ Ci (World.setCells d7 gy 0 (arL 16 (adF P D))) gC (f) ∧ Ti (World.setCells d7 gy 0 (arL 16 (adF P D))) gT (some ⟨gC, 0, none⟩) (s) ∧ Ar (World.setCells d7 gy 0 (arL 16 (adF P D))) gp 16 (P) ∧ Ar (World.setCells d7 gy 0 (arL 16 (adF P D))) ga 16 (enF f (adF P s)) ∧ Ar (World.setCells d7 gy 0 (arL 16 (adF P D))) gb 16 (enF f (adF P D)) ∧ Ar (World.setCells d7 gy 0 (arL 16 (adF P D))) gk 432 (pkF (ek f) sb) ∧ Ar (World.setCells d7 gy 0 (arL 16 (adF P D))) gx 16 (adF P s) ∧ Below w.heap.size w (World.setCells d7 gy 0 (arL 16 (adF P D))) from ⟨(hHeld.1).apart (b := gy) (by omega) (arL 16 (adF P D)) 0, (hHeld.2.1).keep (by omega) (below_setCells _ gy (arL 16 (adF P D)) 0), (hHeld.2.2.1).keep (by omega) (below_setCells _ gy (arL 16 (adF P D)) 0), (hHeld.2.2.2.1).apart (b := gy) (by omega) (arL 16 (adF P D)) 0, (hHeld.2.2.2.2.1).apart (b := gy) (by omega) (arL 16 (adF P D)) 0, (hHeld.2.2.2.2.2.1).apart (b := gy) (by omega) (arL 16 (adF P D)) 0, (hHeld.2.2.2.2.2.2.1).apart (b := gy) (by omega) (arL 16 (adF P D)) 0, (hHeld.2.2.2.2.2.2.2.1).apart (b := gy) (by omega) (arL 16 (adF P D)) 0, (hHeld.2.2.2.2.2.2.2.2).trans (Below.setCells (Below.refl w.heap.size _) (b := gy) (by omega) (arL 16 (adF P D)) 0)⟩
          dsimp only [List.toList_toArray]
          generalize World.setCells d7 gy 0 (arL 16 (adF P D)) = d8 at *
          refine hK.out _ _ hSd8 (fun hHeld2 => ?_)
          clear hK K hHeld hSd8 hyd7
          have hHeld := hHeld2
          clear hHeld2
          try simp only [Act.put]
          refine wpAnyH_done (by kernel_rfl) ?_ _
          refine NoPanic.normal ?_
          exact ⟨rfl, gy, rfl, hHeld.1, hHeld.2.1, hHeld.2.2.1, hHeld.2.2.2.1, hHeld.2.2.2.2.1, hHeld.2.2.2.2.2.1, hHeld.2.2.2.2.2.2.1, hHeld.2.2.2.2.2.2.2.1, hyd8, by omega, hHeld.2.2.2.2.2.2.2.2⟩
      · obtain ⟨gy, hggy⟩ : ∃ g : Nat, dd.heap.size = g := ⟨_, rfl⟩
        have hlgxgy : gx < gy := by rw [← hggy]; exact (hHeld.2.2.2.2.2.2.2.1).lt (by omega)
        have hq : Below dd.heap.size dd (dd.alloc (.cells (arL 16 fun _ => 0).toArray 22)) := (Below.refl _ _).alloc (Nat.le_refl _) _
        have hyd9 := Ar.new dd 16 (fun _ => 0) 22
        rw [hggy] at hyd9
        have hSd9 := show Ar (dd.alloc (.cells (arL 16 fun _ => 0).toArray 22)) gf 16 (f) ∧ Ci (dd.alloc (.cells (arL 16 fun _ => 0).toArray 22)) gC (f) ∧ Ti (dd.alloc (.cells (arL 16 fun _ => 0).toArray 22)) gT (some ⟨gC, 0, none⟩) (s) ∧ Ar (dd.alloc (.cells (arL 16 fun _ => 0).toArray 22)) gp 16 (P) ∧ Ar (dd.alloc (.cells (arL 16 fun _ => 0).toArray 22)) ga 16 (enF f (adF P s)) ∧ Ar (dd.alloc (.cells (arL 16 fun _ => 0).toArray 22)) gb 16 (enF f (adF P D)) ∧ Ar (dd.alloc (.cells (arL 16 fun _ => 0).toArray 22)) gk 432 (pkF (ek f) sb) ∧ Ar (dd.alloc (.cells (arL 16 fun _ => 0).toArray 22)) gx 16 (adF P s) ∧ Below w.heap.size w (dd.alloc (.cells (arL 16 fun _ => 0).toArray 22)) from ⟨(hHeld.1).to (by omega) hq, (hHeld.2.1).to hq, (hHeld.2.2.1).to hq, (hHeld.2.2.2.1).to (by omega) hq, (hHeld.2.2.2.2.1).to (by omega) hq, (hHeld.2.2.2.2.2.1).to (by omega) hq, (hHeld.2.2.2.2.2.2.1).to (by omega) hq, (hHeld.2.2.2.2.2.2.2.1).to (by omega) hq, (hHeld.2.2.2.2.2.2.2.2).trans (hq.mono (hHeld.2.2.2.2.2.2.2.2).size)⟩
        go_simp
        obtain ⟨d9, hwd9⟩ : ∃ V : World, V = dd.alloc (.cells (arL 16 fun _ => 0).toArray 22) := ⟨_, rfl⟩
        rw [show dd.alloc (.cells (arL 16 fun _ => 0).toArray 22) = d9 from hwd9.symm] at hSd9
        have hyd9 : Ar d9 gy 16 (fun _ => 0) := by rw [hwd9]; exact hyd9
        try rw [hggy]
        rw [← hwd9]
        refine hK.out _ _ hSd9 (fun hHeld2 => ?_)
        clear hK K hHeld hq hSd9 hwd9 hggy
        have hHeld := hHeld2
        clear hHeld2
        try simp only [Act.put, List.setIfInBounds_toArray, List.set_cons_zero, List.set_cons_succ, List.getElem_toArray, List.getElem_cons_zero, List.getElem_cons_succ]
        refine wpAnyH_ready (rs := [2]) (by kernel_rfl) (by simp) ?_
        refine AllReadyH.cons rfl (fun K hK => ?_) AllReadyH.nil
        go_simp
        refine (tat0 _ _ s _ (tab_made _ _ _ _ (hHeld.2.2.1))).mono ?_
        rintro e d10 ⟨rfl, hq⟩
        rw [HDD.out]
        go_wp2_with fail
        have hyd10 := (hyd9).to (by omega) hq
        refine hK.out _ _ ⟨(hHeld.1).to (by omega) hq, (hHeld.2.1).to hq, (hHeld.2.2.1).to hq, (hHeld.2.2.2.1).to (by omega) hq, (hHeld.2.2.2.2.1).to (by omega) hq, (hHeld.2.2.2.2.2.1).to (by omega) hq, (hHeld.2.2.2.2.2.2.1).to (by omega) hq, (hHeld.2.2.2.2.2.2.2.1).to (by omega) hq, (hHeld.2.2.2.2.2.2.2.2).trans (hq.mono (hHeld.2.2.2.2.2.2.2.2).size)⟩ (fun hHeld2 => ?_)
        clear hK K hHeld hq hyd9
        have hHeld := hHeld2
        clear hHeld2
        try simp only [Act.put, List.setIfInBounds_toArray, List.set_cons_zero, List.set_cons_succ, List.getElem_toArray, List.getElem_cons_zero, List.getElem_cons_succ]
        refine wpAnyH_ready (rs := [3]) (by kernel_rfl) (by simp) ?_
        refine AllReadyH.cons rfl (fun K hK => ?_) AllReadyH.nil
        go_simp
        refine (refxor8 P D _ hpb.out HDB.out).mono ?_
        rintro e d11 ⟨rfl, hq⟩
        go_wp2_with fail
        have hyd11 := (hyd10).to (by omega) hq
        refine hK.out _ _ ⟨(hHeld.1).to (by omega) hq, (hHeld.2.1).to hq, (hHeld.2.2.1).to hq, (hHeld.2.2.2.1).to (by omega) hq, (hHeld.2.2.2.2.1).to (by omega) hq, (hHeld.2.2.2.2.2.1).to (by omega) hq, (hHeld.2.2.2.2.2.2.1).to (by omega) hq, (hHeld.2.2.2.2.2.2.2.1).to (by omega) hq, (hHeld.2.2.2.2.2.2.2.2).trans (hq.mono (hHeld.2.2.2.2.2.2.2.2).size)⟩ (fun hHeld2 => ?_)
        clear hK K hHeld hq hyd10
        have hHeld := hHeld2
        clear hHeld2
        try simp only [Act.put, List.setIfInBounds_toArray, List.set_cons_zero, List.set_cons_succ, List.getElem_toArray, List.getElem_cons_zero, List.getElem_cons_succ]
        refine wpAnyH_ready (rs := [5]) (by kernel_rfl) (by simp) ?_
        refine AllReadyH.cons rfl (fun K hK => ?_) AllReadyH.nil
        rw [if_pos (by rfl)]
        refine wp_store_mid _ _ _ rfl gy 0 (arL 16 (adF P D)).toArray rfl rfl hyd11.there (size16b _) (all_oneCell_toArray (arL_one 16 (adF P D))) ?_
        have hyd12 := hyd11.whole (adF P D)
        have hSd12 := show Ar (World.setCells d11 gy 0 (arL 16 (adF P D))) gf 16 (f) ∧ Ci (World.setCells d11 gy 0 (arL 16 (adF P D))) gC (f) ∧ Ti (World.setCells d11 gy 0 (arL 16 (adF P D))) gT (some ⟨gC, 0, none⟩) (s) ∧ Ar (World.setCells d11 gy 0 (arL 16 (adF P D))) gp 16 (P) ∧ Ar (World.setCells d11 gy 0 (arL 16 (adF P D))) ga 16 (enF f (adF P s)) ∧ Ar (World.setCells d11 gy 0 (arL 16 (adF P D))) gb 16 (enF f (adF P D)) ∧ Ar (World.setCells d11 gy 0 (arL 16 (adF P D))) gk 432 (pkF (ek f) sb) ∧ Ar (World.setCells d11 gy 0 (arL 16 (adF P D))) gx 16 (adF P s) ∧ Below w.heap.size w (World.setCells d11 gy 0 (arL 16 (adF P D))) from ⟨(hHeld.1).apart (b := gy) (by omega) (arL 16 (adF P D)) 0, (hHeld.2.1).keep (by omega) (below_setCells _ gy (arL 16 (adF P D)) 0), (hHeld.2.2.1).keep (by omega) (below_setCells _ gy (arL 16 (adF P D)) 0), (hHeld.2.2.2.1).apart (b := gy) (by omega) (arL 16 (adF P D)) 0, (hHeld.2.2.2.2.1).apart (b := gy) (by omega) (arL 16 (adF P D)) 0, (hHeld.2.2.2.2.2.1).apart (b := gy) (by omega) (arL 16 (adF P D)) 0, (hHeld.2.2.2.2.2.2.1).apart (b := gy) (by omega) (arL 16 (adF P D)) 0, (hHeld.2.2.2.2.2.2.2.1).apart (b := gy) (by omega) (arL 16 (adF P D)) 0, (hHeld.2.2.2.2.2.2.2.2).trans (Below.setCells (Below.refl w.heap.size _) (b := gy) (by omega) (arL 16 (adF P D)) 0)⟩
        dsimp only [List.toList_toArray]
        generalize World.setCells d11 gy 0 (arL 16 (adF P D)) = d12 at *
        refine hK.out _ _ hSd12 (fun hHeld2 => ?_)
        clear hK K hHeld hSd12 hyd11
        have hHeld := hHeld2
        clear hHeld2
        try simp only [Act.put]
        refine wpAnyH_done (by kernel_rfl) ?_ _
        refine NoPanic.normal ?_
        exact ⟨rfl, gy, rfl, hHeld.1, hHeld.2.1, hHeld.2.2.1, hHeld.2.2.2.1, hHeld.2.2.2.2.1, hHeld.2.2.2.2.2.1, hHeld.2.2.2.2.2.2.1, hHeld.2.2.2.2.2.2.2.1, hyd12, by omega, hHeld.2.2.2.2.2.2.2.2⟩
    rintro gy x15 ⟨hfx15, hCx15, hTx15, hpx15, hax15, hbx15, hkx15, hxx15, hyx15, hlgy, hBx15⟩
    clear hfx14 hCx14 hTx14 hpx14 hax14 hbx14 hkx14 hxx14 hBx14
    have heq := fun X => eq16_true (f := X) (g := X) (fun _ _ => rfl)
    have hgd := Tryd.eqg16
    go_upto_region 10 with fail
    by_cases hxy : ∀ j, j < 16 → adF P s j = adF P D j
    · have h1 := eq16_true (f := adF P s) (g := adF P D) hxy
      have h2 := eq16_true (f := enF f (adF P s)) (g := enF f (adF P D)) (enR_congr f hxy 10)
      clear hxy
      refine wp_region_held_drew (S := fun W => Ar W ga 16 (enF f (adF P s)) ∧ Ar W gb 16 (enF f (adF P D)) ∧ Ar W gk 432 (pkF (ek f) sb) ∧ Ar W gx 16 (adF P s) ∧ Ar W gy 16 (adF P D) ∧ Below w.heap.size w W) (by kernel_rfl) ⟨hax15.drew, hbx15.drew, hkx15.drew, hxx15.drew, hyx15.drew, hBx15.drew⟩ (fun hHeld => ?_)
      clear hax15 hbx15 hkx15 hxx15 hyx15 hfx15 hCx15 hTx15 hpx15 hBx15 
      generalize World.drew x15 = rd at *
      refine wpAnyH_take (i := 0) (v := .agg (arL 16 (enF f (adF P s))).toArray) rfl (by kernel_rfl) (by kernel_rfl) (by kernel_rfl) (fun _ _ _ h => h) (yieldsIf_load_mid (by rfl) _ _ rfl ga (0) rfl (arL 16 (enF f (adF P s))) _ (fun W hSw => hSw.1.range) Tryd.arr16b rfl (size16b _)) (by assumption) ?_
      simp only [Act.put, List.setIfInBounds_toArray, List.set_cons_zero, List.set_cons_succ, List.getElem_toArray, List.getElem_cons_zero]
      refine wpAnyH_take (i := 1) (v := .agg (arL 432 (pkF (ek f) sb)).toArray) rfl (by kernel_rfl) (by kernel_rfl) (by kernel_rfl) (fun _ _ _ h => h) (yieldsIf_load_mid (by rfl) _ _ rfl gk (0) rfl (arL 432 (pkF (ek f) sb)) _ (fun W hSw => hSw.2.2.1.range) HS.out HW.out (sizeK _)) (by assumption) ?_
      simp only [Act.put, List.setIfInBounds_toArray, List.set_cons_zero, List.set_cons_succ, List.getElem_toArray, List.getElem_cons_zero, List.getElem_cons_succ]
      refine wpAnyH_take (i := 2) (v := .agg (arL 16 (adF P s)).toArray) rfl (by kernel_rfl) (by kernel_rfl) (by kernel_rfl) (fun _ _ _ h => h) (yieldsIf_load_mid (by rfl) _ _ rfl gx (0) rfl (arL 16 (adF P s)) _ (fun W hSw => hSw.2.2.2.1.range) Tryd.arr16b rfl (size16b _)) (by assumption) ?_
      simp only [Act.put, List.setIfInBounds_toArray, List.set_cons_zero, List.set_cons_succ, List.getElem_toArray, List.getElem_cons_zero, List.getElem_cons_succ]
      refine wpAnyH_ready (rs := [3]) (by kernel_rfl) (by simp) ?_
      refine AllReadyH.cons rfl (fun K hK => ?_) AllReadyH.nil
      go_simp
      refine (refencrypt f (adF P s) _ Hf.out hxb.out).mono ?_
      rintro e r1 ⟨rfl, hq⟩
      go_wp2_with fail
      refine hK.out _ _ ⟨(hHeld.1).to (by omega) hq, (hHeld.2.1).to (by omega) hq, (hHeld.2.2.1).to (by omega) hq, (hHeld.2.2.2.1).to (by omega) hq, (hHeld.2.2.2.2.1).to (by omega) hq, (hHeld.2.2.2.2.2).trans (hq.mono (hHeld.2.2.2.2.2).size)⟩ (fun hHeld2 => ?_)
      clear hK K hHeld hq
      have hHeld := hHeld2
      clear hHeld2
      try simp only [Act.put, List.setIfInBounds_toArray, List.set_cons_zero, List.set_cons_succ, List.getElem_toArray, List.getElem_cons_zero, List.getElem_cons_succ]
      refine wpAnyH_take (i := 4) (v := ?vr2) rfl (by kernel_rfl) (by kernel_rfl) (by kernel_rfl) (fun _ _ _ h => h) (Or.inl ⟨by rfl, ?hyr2⟩) (by assumption) ?restr2
      case hyr2 =>
        intro W hSw
        go_simp
        try with_reducible rfl
      simp only [Act.put, List.setIfInBounds_toArray, List.set_cons_zero, List.set_cons_succ, List.getElem_toArray, List.getElem_cons_zero, List.getElem_cons_succ]
      refine wpAnyH_take (i := 5) (v := ?vr3) rfl (by kernel_rfl) (by kernel_rfl) (by kernel_rfl) (fun _ _ _ h => h) (Or.inl ⟨by rfl, ?hyr3⟩) (by assumption) ?restr3
      case hyr3 =>
        intro W hSw
        go_simp
        try with_reducible rfl
      simp only [Act.put, List.setIfInBounds_toArray, List.set_cons_zero, List.set_cons_succ, List.getElem_toArray, List.getElem_cons_zero, List.getElem_cons_succ]
      refine wpAnyH_take (i := 6) (v := .agg (arL 16 (enF f (adF P D))).toArray) rfl (by kernel_rfl) (by kernel_rfl) (by kernel_rfl) (fun _ _ _ h => h) (yieldsIf_load_mid (by rfl) _ _ rfl gb (0) rfl (arL 16 (enF f (adF P D))) _ (fun W hSw => hSw.2.1.range) Tryd.arr16b rfl (size16b _)) (by assumption) ?_
      simp only [Act.put, List.setIfInBounds_toArray, List.set_cons_zero, List.set_cons_succ, List.getElem_toArray, List.getElem_cons_zero, List.getElem_cons_succ]
      refine wpAnyH_take (i := 7) (v := .agg (arL 432 (pkF (ek f) sb)).toArray) rfl (by kernel_rfl) (by kernel_rfl) (by kernel_rfl) (fun _ _ _ h => h) (yieldsIf_load_mid (by rfl) _ _ rfl gk (0) rfl (arL 432 (pkF (ek f) sb)) _ (fun W hSw => hSw.2.2.1.range) HS.out HW.out (sizeK _)) (by assumption) ?_
      simp only [Act.put, List.setIfInBounds_toArray, List.set_cons_zero, List.set_cons_succ, List.getElem_toArray, List.getElem_cons_zero, List.getElem_cons_succ]
      refine wpAnyH_take (i := 8) (v := .agg (arL 16 (adF P D)).toArray) rfl (by kernel_rfl) (by kernel_rfl) (by kernel_rfl) (fun _ _ _ h => h) (yieldsIf_load_mid (by rfl) _ _ rfl gy (0) rfl (arL 16 (adF P D)) _ (fun W hSw => hSw.2.2.2.2.1.range) Tryd.arr16b rfl (size16b _)) (by assumption) ?_
      simp only [Act.put, List.setIfInBounds_toArray, List.set_cons_zero, List.set_cons_succ, List.getElem_toArray, List.getElem_cons_zero, List.getElem_cons_succ]
      refine wpAnyH_ready (rs := [9]) (by kernel_rfl) (by simp) ?_
      refine AllReadyH.cons rfl (fun K hK => ?_) AllReadyH.nil
      go_simp
      refine (refencrypt f (adF P D) _ Hf.out hyb.out).mono ?_
      rintro e r4 ⟨rfl, hq⟩
      go_wp2_with fail
      refine hK.out _ _ ⟨(hHeld.1).to (by omega) hq, (hHeld.2.1).to (by omega) hq, (hHeld.2.2.1).to (by omega) hq, (hHeld.2.2.2.1).to (by omega) hq, (hHeld.2.2.2.2.1).to (by omega) hq, (hHeld.2.2.2.2.2).trans (hq.mono (hHeld.2.2.2.2.2).size)⟩ (fun hHeld2 => ?_)
      clear hK K hHeld hq
      have hHeld := hHeld2
      clear hHeld2
      try simp only [Act.put, List.setIfInBounds_toArray, List.set_cons_zero, List.set_cons_succ, List.getElem_toArray, List.getElem_cons_zero, List.getElem_cons_succ]
      refine wpAnyH_take (i := 10) (v := ?vr5) rfl (by kernel_rfl) (by kernel_rfl) (by kernel_rfl) (fun _ _ _ h => h) (Or.inl ⟨by rfl, ?hyr5⟩) (by assumption) ?restr5
      case hyr5 =>
        intro W hSw
        go_simp
        try with_reducible rfl
      simp only [Act.put, List.setIfInBounds_toArray, List.set_cons_zero, List.set_cons_succ, List.getElem_toArray, List.getElem_cons_zero, List.getElem_cons_succ]
      refine wpAnyH_take (i := 11) (v := ?vr6) rfl (by kernel_rfl) (by kernel_rfl) (by kernel_rfl) (fun _ _ _ h => h) (Or.inl ⟨by rfl, ?hyr6⟩) (by assumption) ?restr6
      case hyr6 =>
        intro W hSw
        go_simp
        try with_reducible rfl
      simp only [Act.put, List.setIfInBounds_toArray, List.set_cons_zero, List.set_cons_succ, List.getElem_toArray, List.getElem_cons_zero, List.getElem_cons_succ]
      refine wpAnyH_take (i := 12) (v := ?vr7) rfl (by kernel_rfl) (by kernel_rfl) (by kernel_rfl) (fun _ _ _ h => h) (Or.inl ⟨by rfl, ?hyr7⟩) (by assumption) ?restr7
      case hyr7 =>
        intro W hSw
        go_simp
        try with_reducible rfl
      simp only [Act.put, List.setIfInBounds_toArray, List.set_cons_zero, List.set_cons_succ, List.getElem_toArray, List.getElem_cons_zero, List.getElem_cons_succ]
      refine wpAnyH_take (i := 13) (v := .agg (arL 16 (enF f (adF P s))).toArray) rfl (by kernel_rfl) (by kernel_rfl) (by kernel_rfl) (fun _ _ _ h => h) (yieldsIf_load_mid (by rfl) _ _ rfl ga (0) rfl (arL 16 (enF f (adF P s))) _ (fun W hSw => hSw.1.range) Tryd.arr16b rfl (size16b _)) (by assumption) ?_
      simp only [Act.put, List.setIfInBounds_toArray, List.set_cons_zero, List.set_cons_succ, List.getElem_toArray, List.getElem_cons_zero, List.getElem_cons_succ]
      refine wpAnyH_take (i := 14) (v := .agg (arL 16 (enF f (adF P D))).toArray) rfl (by kernel_rfl) (by kernel_rfl) (by kernel_rfl) (fun _ _ _ h => h) (yieldsIf_load_mid (by rfl) _ _ rfl gb (0) rfl (arL 16 (enF f (adF P D))) _ (fun W hSw => hSw.2.1.range) Tryd.arr16b rfl (size16b _)) (by assumption) ?_
      simp only [Act.put, List.setIfInBounds_toArray, List.set_cons_zero, List.set_cons_succ, List.getElem_toArray, List.getElem_cons_zero, List.getElem_cons_succ]
      refine wpAnyH_take (i := 15) (v := ?vr8) rfl (by kernel_rfl) (by kernel_rfl) (by kernel_rfl) (fun _ _ _ h => h) (Or.inl ⟨by rfl, ?hyr8⟩) (by assumption) ?restr8
      case hyr8 =>
        intro W hSw
        go_simp
        try with_reducible rfl
      simp only [Act.put, List.setIfInBounds_toArray, List.set_cons_zero, List.set_cons_succ, List.getElem_toArray, List.getElem_cons_zero, List.getElem_cons_succ]
      refine wpAnyH_take (i := 16) (v := .agg (arL 16 (adF P s)).toArray) rfl (by kernel_rfl) (by kernel_rfl) (by kernel_rfl) (fun _ _ _ h => h) (yieldsIf_load_mid (by rfl) _ _ rfl gx (0) rfl (arL 16 (adF P s)) _ (fun W hSw => hSw.2.2.2.1.range) Tryd.arr16b rfl (size16b _)) (by assumption) ?_
      simp only [Act.put, List.setIfInBounds_toArray, List.set_cons_zero, List.set_cons_succ, List.getElem_toArray, List.getElem_cons_zero, List.getElem_cons_succ]
      refine wpAnyH_take (i := 17) (v := .agg (arL 16 (adF P D)).toArray) rfl (by kernel_rfl) (by kernel_rfl) (by kernel_rfl) (fun _ _ _ h => h) (yieldsIf_load_mid (by rfl) _ _ rfl gy (0) rfl (arL 16 (adF P D)) _ (fun W hSw => hSw.2.2.2.2.1.range) Tryd.arr16b rfl (size16b _)) (by assumption) ?_
      simp only [Act.put, List.setIfInBounds_toArray, List.set_cons_zero, List.set_cons_succ, List.getElem_toArray, List.getElem_cons_zero, List.getElem_cons_succ]
      refine wpAnyH_take (i := 18) (v := ?vr9) rfl (by kernel_rfl) (by kernel_rfl) (by kernel_rfl) (fun _ _ _ h => h) (Or.inl ⟨by rfl, ?hyr9⟩) (by assumption) ?restr9
      case hyr9 =>
        intro W hSw
        go_simp
        try with_reducible rfl
      simp only [Act.put, List.setIfInBounds_toArray, List.set_cons_zero, List.set_cons_succ, List.getElem_toArray, List.getElem_cons_zero, List.getElem_cons_succ]
      refine wpAnyH_take (i := 19) (v := ?vr10) rfl (by kernel_rfl) (by kernel_rfl) (by kernel_rfl) (fun _ _ _ h => h) (Or.inl ⟨by rfl, ?hyr10⟩) (by assumption) ?restr10
      case hyr10 =>
        intro W hSw
        go_simp
        try with_reducible rfl
      simp only [Act.put, List.setIfInBounds_toArray, List.set_cons_zero, List.set_cons_succ, List.getElem_toArray, List.getElem_cons_zero, List.getElem_cons_succ]
      refine wpAnyH_take (i := 20) (v := ?vr11) rfl (by kernel_rfl) (by kernel_rfl) (by kernel_rfl) (fun _ _ _ h => h) (Or.inl ⟨by rfl, ?hyr11⟩) (by assumption) ?restr11
      case hyr11 =>
        intro W hSw
        go_simp
        try with_reducible rfl
      simp only [Act.put, List.setIfInBounds_toArray, List.set_cons_zero, List.set_cons_succ, List.getElem_toArray, List.getElem_cons_zero, List.getElem_cons_succ]
      refine wpAnyH_take (i := 21) (v := ?vr12) rfl (by kernel_rfl) (by kernel_rfl) (by kernel_rfl) (fun _ _ _ h => h) (Or.inl ⟨by rfl, ?hyr12⟩) (by assumption) ?restr12
      case hyr12 =>
        intro W hSw
        go_simp
        try with_reducible rfl
      simp only [Act.put, List.setIfInBounds_toArray, List.set_cons_zero, List.set_cons_succ, List.getElem_toArray, List.getElem_cons_zero, List.getElem_cons_succ]
      refine wpAnyH_done (by kernel_rfl) ?_ _
      have hBe := hHeld.2.2.2.2.2
      clear hHeld
      go_wp2_with fail
      go_ret
      exact ⟨rfl, hBe⟩
    · have h1 := eq16_false (f := adF P s) (g := adF P D) hxy
      have h2 := eq16_false (f := enF f (adF P s)) (g := enF f (adF P D)) (fun h => hxy (enF_inj Hf.out hxb.out hyb.out h))
      clear hxy
      refine wp_region_held_drew (S := fun W => Ar W ga 16 (enF f (adF P s)) ∧ Ar W gb 16 (enF f (adF P D)) ∧ Ar W gk 432 (pkF (ek f) sb) ∧ Ar W gx 16 (adF P s) ∧ Ar W gy 16 (adF P D) ∧ Below w.heap.size w W) (by kernel_rfl) ⟨hax15.drew, hbx15.drew, hkx15.drew, hxx15.drew, hyx15.drew, hBx15.drew⟩ (fun hHeld => ?_)
      clear hax15 hbx15 hkx15 hxx15 hyx15 hfx15 hCx15 hTx15 hpx15 hBx15 
      generalize World.drew x15 = nd at *
      refine wpAnyH_take (i := 0) (v := .agg (arL 16 (enF f (adF P s))).toArray) rfl (by kernel_rfl) (by kernel_rfl) (by kernel_rfl) (fun _ _ _ h => h) (yieldsIf_load_mid (by rfl) _ _ rfl ga (0) rfl (arL 16 (enF f (adF P s))) _ (fun W hSw => hSw.1.range) Tryd.arr16b rfl (size16b _)) (by assumption) ?_
      simp only [Act.put, List.setIfInBounds_toArray, List.set_cons_zero, List.set_cons_succ, List.getElem_toArray, List.getElem_cons_zero]
      refine wpAnyH_take (i := 1) (v := .agg (arL 432 (pkF (ek f) sb)).toArray) rfl (by kernel_rfl) (by kernel_rfl) (by kernel_rfl) (fun _ _ _ h => h) (yieldsIf_load_mid (by rfl) _ _ rfl gk (0) rfl (arL 432 (pkF (ek f) sb)) _ (fun W hSw => hSw.2.2.1.range) HS.out HW.out (sizeK _)) (by assumption) ?_
      simp only [Act.put, List.setIfInBounds_toArray, List.set_cons_zero, List.set_cons_succ, List.getElem_toArray, List.getElem_cons_zero, List.getElem_cons_succ]
      refine wpAnyH_take (i := 2) (v := .agg (arL 16 (adF P s)).toArray) rfl (by kernel_rfl) (by kernel_rfl) (by kernel_rfl) (fun _ _ _ h => h) (yieldsIf_load_mid (by rfl) _ _ rfl gx (0) rfl (arL 16 (adF P s)) _ (fun W hSw => hSw.2.2.2.1.range) Tryd.arr16b rfl (size16b _)) (by assumption) ?_
      simp only [Act.put, List.setIfInBounds_toArray, List.set_cons_zero, List.set_cons_succ, List.getElem_toArray, List.getElem_cons_zero, List.getElem_cons_succ]
      refine wpAnyH_ready (rs := [3]) (by kernel_rfl) (by simp) ?_
      refine AllReadyH.cons rfl (fun K hK => ?_) AllReadyH.nil
      go_simp
      refine (refencrypt f (adF P s) _ Hf.out hxb.out).mono ?_
      rintro e n1 ⟨rfl, hq⟩
      go_wp2_with fail
      refine hK.out _ _ ⟨(hHeld.1).to (by omega) hq, (hHeld.2.1).to (by omega) hq, (hHeld.2.2.1).to (by omega) hq, (hHeld.2.2.2.1).to (by omega) hq, (hHeld.2.2.2.2.1).to (by omega) hq, (hHeld.2.2.2.2.2).trans (hq.mono (hHeld.2.2.2.2.2).size)⟩ (fun hHeld2 => ?_)
      clear hK K hHeld hq
      have hHeld := hHeld2
      clear hHeld2
      try simp only [Act.put, List.setIfInBounds_toArray, List.set_cons_zero, List.set_cons_succ, List.getElem_toArray, List.getElem_cons_zero, List.getElem_cons_succ]
      refine wpAnyH_take (i := 4) (v := ?vn2) rfl (by kernel_rfl) (by kernel_rfl) (by kernel_rfl) (fun _ _ _ h => h) (Or.inl ⟨by rfl, ?hyn2⟩) (by assumption) ?restn2
      case hyn2 =>
        intro W hSw
        go_simp
        try with_reducible rfl
      simp only [Act.put, List.setIfInBounds_toArray, List.set_cons_zero, List.set_cons_succ, List.getElem_toArray, List.getElem_cons_zero, List.getElem_cons_succ]
      refine wpAnyH_take (i := 5) (v := ?vn3) rfl (by kernel_rfl) (by kernel_rfl) (by kernel_rfl) (fun _ _ _ h => h) (Or.inl ⟨by rfl, ?hyn3⟩) (by assumption) ?restn3
      case hyn3 =>
        intro W hSw
        go_simp
        try with_reducible rfl
      simp only [Act.put, List.setIfInBounds_toArray, List.set_cons_zero, List.set_cons_succ, List.getElem_toArray, List.getElem_cons_zero, List.getElem_cons_succ]
      refine wpAnyH_take (i := 6) (v := .agg (arL 16 (enF f (adF P D))).toArray) rfl (by kernel_rfl) (by kernel_rfl) (by kernel_rfl) (fun _ _ _ h => h) (yieldsIf_load_mid (by rfl) _ _ rfl gb (0) rfl (arL 16 (enF f (adF P D))) _ (fun W hSw => hSw.2.1.range) Tryd.arr16b rfl (size16b _)) (by assumption) ?_
      simp only [Act.put, List.setIfInBounds_toArray, List.set_cons_zero, List.set_cons_succ, List.getElem_toArray, List.getElem_cons_zero, List.getElem_cons_succ]
      refine wpAnyH_take (i := 7) (v := .agg (arL 432 (pkF (ek f) sb)).toArray) rfl (by kernel_rfl) (by kernel_rfl) (by kernel_rfl) (fun _ _ _ h => h) (yieldsIf_load_mid (by rfl) _ _ rfl gk (0) rfl (arL 432 (pkF (ek f) sb)) _ (fun W hSw => hSw.2.2.1.range) HS.out HW.out (sizeK _)) (by assumption) ?_
      simp only [Act.put, List.setIfInBounds_toArray, List.set_cons_zero, List.set_cons_succ, List.getElem_toArray, List.getElem_cons_zero, List.getElem_cons_succ]
      refine wpAnyH_take (i := 8) (v := .agg (arL 16 (adF P D)).toArray) rfl (by kernel_rfl) (by kernel_rfl) (by kernel_rfl) (fun _ _ _ h => h) (yieldsIf_load_mid (by rfl) _ _ rfl gy (0) rfl (arL 16 (adF P D)) _ (fun W hSw => hSw.2.2.2.2.1.range) Tryd.arr16b rfl (size16b _)) (by assumption) ?_
      simp only [Act.put, List.setIfInBounds_toArray, List.set_cons_zero, List.set_cons_succ, List.getElem_toArray, List.getElem_cons_zero, List.getElem_cons_succ]
      refine wpAnyH_ready (rs := [9]) (by kernel_rfl) (by simp) ?_
      refine AllReadyH.cons rfl (fun K hK => ?_) AllReadyH.nil
      go_simp
      refine (refencrypt f (adF P D) _ Hf.out hyb.out).mono ?_
      rintro e n4 ⟨rfl, hq⟩
      go_wp2_with fail
      refine hK.out _ _ ⟨(hHeld.1).to (by omega) hq, (hHeld.2.1).to (by omega) hq, (hHeld.2.2.1).to (by omega) hq, (hHeld.2.2.2.1).to (by omega) hq, (hHeld.2.2.2.2.1).to (by omega) hq, (hHeld.2.2.2.2.2).trans (hq.mono (hHeld.2.2.2.2.2).size)⟩ (fun hHeld2 => ?_)
      clear hK K hHeld hq
      have hHeld := hHeld2
      clear hHeld2
      try simp only [Act.put, List.setIfInBounds_toArray, List.set_cons_zero, List.set_cons_succ, List.getElem_toArray, List.getElem_cons_zero, List.getElem_cons_succ]
      refine wpAnyH_take (i := 10) (v := ?vn5) rfl (by kernel_rfl) (by kernel_rfl) (by kernel_rfl) (fun _ _ _ h => h) (Or.inl ⟨by rfl, ?hyn5⟩) (by assumption) ?restn5
      case hyn5 =>
        intro W hSw
        go_simp
        try with_reducible rfl
      simp only [Act.put, List.setIfInBounds_toArray, List.set_cons_zero, List.set_cons_succ, List.getElem_toArray, List.getElem_cons_zero, List.getElem_cons_succ]
      refine wpAnyH_take (i := 11) (v := ?vn6) rfl (by kernel_rfl) (by kernel_rfl) (by kernel_rfl) (fun _ _ _ h => h) (Or.inl ⟨by rfl, ?hyn6⟩) (by assumption) ?restn6
      case hyn6 =>
        intro W hSw
        go_simp
        try with_reducible rfl
      simp only [Act.put, List.setIfInBounds_toArray, List.set_cons_zero, List.set_cons_succ, List.getElem_toArray, List.getElem_cons_zero, List.getElem_cons_succ]
      refine wpAnyH_take (i := 12) (v := ?vn7) rfl (by kernel_rfl) (by kernel_rfl) (by kernel_rfl) (fun _ _ _ h => h) (Or.inl ⟨by rfl, ?hyn7⟩) (by assumption) ?restn7
      case hyn7 =>
        intro W hSw
        go_simp
        try with_reducible rfl
      simp only [Act.put, List.setIfInBounds_toArray, List.set_cons_zero, List.set_cons_succ, List.getElem_toArray, List.getElem_cons_zero, List.getElem_cons_succ]
      refine wpAnyH_take (i := 13) (v := .agg (arL 16 (enF f (adF P s))).toArray) rfl (by kernel_rfl) (by kernel_rfl) (by kernel_rfl) (fun _ _ _ h => h) (yieldsIf_load_mid (by rfl) _ _ rfl ga (0) rfl (arL 16 (enF f (adF P s))) _ (fun W hSw => hSw.1.range) Tryd.arr16b rfl (size16b _)) (by assumption) ?_
      simp only [Act.put, List.setIfInBounds_toArray, List.set_cons_zero, List.set_cons_succ, List.getElem_toArray, List.getElem_cons_zero, List.getElem_cons_succ]
      refine wpAnyH_take (i := 14) (v := .agg (arL 16 (enF f (adF P D))).toArray) rfl (by kernel_rfl) (by kernel_rfl) (by kernel_rfl) (fun _ _ _ h => h) (yieldsIf_load_mid (by rfl) _ _ rfl gb (0) rfl (arL 16 (enF f (adF P D))) _ (fun W hSw => hSw.2.1.range) Tryd.arr16b rfl (size16b _)) (by assumption) ?_
      simp only [Act.put, List.setIfInBounds_toArray, List.set_cons_zero, List.set_cons_succ, List.getElem_toArray, List.getElem_cons_zero, List.getElem_cons_succ]
      refine wpAnyH_take (i := 15) (v := ?vn8) rfl (by kernel_rfl) (by kernel_rfl) (by kernel_rfl) (fun _ _ _ h => h) (Or.inl ⟨by rfl, ?hyn8⟩) (by assumption) ?restn8
      case hyn8 =>
        intro W hSw
        go_simp
        try with_reducible rfl
      simp only [Act.put, List.setIfInBounds_toArray, List.set_cons_zero, List.set_cons_succ, List.getElem_toArray, List.getElem_cons_zero, List.getElem_cons_succ]
      refine wpAnyH_take (i := 16) (v := .agg (arL 16 (adF P s)).toArray) rfl (by kernel_rfl) (by kernel_rfl) (by kernel_rfl) (fun _ _ _ h => h) (yieldsIf_load_mid (by rfl) _ _ rfl gx (0) rfl (arL 16 (adF P s)) _ (fun W hSw => hSw.2.2.2.1.range) Tryd.arr16b rfl (size16b _)) (by assumption) ?_
      simp only [Act.put, List.setIfInBounds_toArray, List.set_cons_zero, List.set_cons_succ, List.getElem_toArray, List.getElem_cons_zero, List.getElem_cons_succ]
      refine wpAnyH_take (i := 17) (v := .agg (arL 16 (adF P D)).toArray) rfl (by kernel_rfl) (by kernel_rfl) (by kernel_rfl) (fun _ _ _ h => h) (yieldsIf_load_mid (by rfl) _ _ rfl gy (0) rfl (arL 16 (adF P D)) _ (fun W hSw => hSw.2.2.2.2.1.range) Tryd.arr16b rfl (size16b _)) (by assumption) ?_
      simp only [Act.put, List.setIfInBounds_toArray, List.set_cons_zero, List.set_cons_succ, List.getElem_toArray, List.getElem_cons_zero, List.getElem_cons_succ]
      refine wpAnyH_take (i := 18) (v := ?vn9) rfl (by kernel_rfl) (by kernel_rfl) (by kernel_rfl) (fun _ _ _ h => h) (Or.inl ⟨by rfl, ?hyn9⟩) (by assumption) ?restn9
      case hyn9 =>
        intro W hSw
        go_simp
        try with_reducible rfl
      simp only [Act.put, List.setIfInBounds_toArray, List.set_cons_zero, List.set_cons_succ, List.getElem_toArray, List.getElem_cons_zero, List.getElem_cons_succ]
      refine wpAnyH_take (i := 19) (v := ?vn10) rfl (by kernel_rfl) (by kernel_rfl) (by kernel_rfl) (fun _ _ _ h => h) (Or.inl ⟨by rfl, ?hyn10⟩) (by assumption) ?restn10
      case hyn10 =>
        intro W hSw
        go_simp
        try with_reducible rfl
      simp only [Act.put, List.setIfInBounds_toArray, List.set_cons_zero, List.set_cons_succ, List.getElem_toArray, List.getElem_cons_zero, List.getElem_cons_succ]
      refine wpAnyH_take (i := 20) (v := ?vn11) rfl (by kernel_rfl) (by kernel_rfl) (by kernel_rfl) (fun _ _ _ h => h) (Or.inl ⟨by rfl, ?hyn11⟩) (by assumption) ?restn11
      case hyn11 =>
        intro W hSw
        go_simp
        try with_reducible rfl
      simp only [Act.put, List.setIfInBounds_toArray, List.set_cons_zero, List.set_cons_succ, List.getElem_toArray, List.getElem_cons_zero, List.getElem_cons_succ]
      refine wpAnyH_take (i := 21) (v := ?vn12) rfl (by kernel_rfl) (by kernel_rfl) (by kernel_rfl) (fun _ _ _ h => h) (Or.inl ⟨by rfl, ?hyn12⟩) (by assumption) ?restn12
      case hyn12 =>
        intro W hSw
        go_simp
        try with_reducible rfl
      simp only [Act.put, List.setIfInBounds_toArray, List.set_cons_zero, List.set_cons_succ, List.getElem_toArray, List.getElem_cons_zero, List.getElem_cons_succ]
      refine wpAnyH_done (by kernel_rfl) ?_ _
      have hBe := hHeld.2.2.2.2.2
      clear hHeld
      go_wp2_with fail
      go_ret
      exact ⟨rfl, hBe⟩
end Go.Proofs.YtflbpohcoghonaaDoor
