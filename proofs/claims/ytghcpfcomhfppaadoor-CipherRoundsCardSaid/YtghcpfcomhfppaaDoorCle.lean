/-
  The walk of the law CipherRounds of layer 6: for every key and block it returns true, and writes nothing that was there.
-/
import Derived.Test.YtghcpfcomhfppaaDoorCxl
import Derived.Test.YtghcpfcomhfppaaDoorCaw
import Derived.Test.YtghcpfcomhfppaaDoorEqs
import Derived.Deep.RegionHeld3
namespace Go.Proofs.YtghcpfcomhfppaaDoor
open Go.RowKit
set_option linter.unusedVariables false
set_option maxRecDepth 100000

set_option maxHeartbeats 8000000 in
theorem crounds (f b : Nat → Nat) (w : World) (hf : ∀ j, j < 16 → f j < 256) (hb : ∀ j, j < 16 → b j < 256) (h : Boxes w) :
    Calls Tryd.prog 7 #[.agg (arL 16 f).toArray, .agg (arL 16 b).toArray] w fun e w' => e = .returned (.bool true) ∧ Below w.heap.size w w' := by
  have hz := zero16b
  have hzG := zeroG
  have hz256 := zero256
  have hzK := zeroK
  have hz176 := zero176e
  have HX := Lib.hid h
  have Hf := Lib.hid (show B16 f from hf)
  have Hb := Lib.hid (show B16 b from hb)
  obtain ⟨kf, hkf⟩ : ∃ k : Array Value, (arL 16 f).toArray = k := ⟨_, rfl⟩
  obtain ⟨kb, hkb⟩ : ∃ k : Array Value, (arL 16 b).toArray = k := ⟨_, rfl⟩
  obtain ⟨w1, hw1⟩ : ∃ V : World, V = w.alloc (.cells (arL 16 f).toArray 22) := ⟨_, rfl⟩
  have hs1 : w1.heap.size = w.heap.size + 1 := by rw [hw1]; simp
  have hBw1 : Below w.heap.size w w1 := by rw [hw1]; exact (Below.refl _ _).alloc (Nat.le_refl _) _
  have hfw1 : Ar w1 w.heap.size 16 f := by rw [hw1]; exact Ar.new w 16 f _
  obtain ⟨w2, hw2⟩ : ∃ V : World, V = w1.alloc (.cells (arL 16 b).toArray 22) := ⟨_, rfl⟩
  have hs2 : w2.heap.size = w.heap.size + 2 := by rw [hw2]; simp [hs1]
  have hBw2 : Below w.heap.size w w2 := by rw [hw2]; exact hBw1.alloc (by omega) _
  have hfw2 := hfw1.alloc (by omega) (.cells (arL 16 b).toArray 22)
  rw [← hw2] at hfw2
  have hbw2 : Ar w2 (w.heap.size + 1) 16 b := by rw [hw2, ← hs1]; exact Ar.new w1 16 b _
  rw [hkf] at hw1
  rw [hkb] at hw2
  rw [hkf, hkb]
  clear hkf hkb h hf hb
  go_enter Tryd.func7, Tryd.ntmps7
  go_upto_region 1 with fail
  rw [← hw1, ← hw2]
  clear hw1 hw2
  try simp only [Nat.add_assoc, Nat.reduceAdd]
  obtain ⟨gf, hgf⟩ : ∃ g : Nat, w.heap.size = g := ⟨_, rfl⟩
  obtain ⟨gb, hgb⟩ : ∃ g : Nat, w.heap.size + 1 = g := ⟨_, rfl⟩
  rw [hgf] at hfw2
  rw [hgb] at hbw2
  try rw [hgb]
  have hlf : w.heap.size ≤ gf := by omega
  have hlb : w.heap.size ≤ gb := by omega
  have hltb : gf < gb := by omega
  clear hgb hs1 hs2
  go_wp2_with fail
  refine (cawake _ (HX.out.keep hBw2)).mono ?_
  rintro e x1 ⟨rfl, hq⟩
  have hfx1 := hfw2.to (by omega) hq
  have hbx1 := hbw2.to (by omega) hq
  have hBx1 := hBw2.trans (hq.mono hBw2.size)
  clear hq hfw2 hbw2 hBw2
  go_wp2_with (first | (refine wpList_load_ar rfl _ _ rfl _ _ _ rfl hfx1 Tryd.arr16b (size16b _) ?_))
  refine (kexpand f Hf.out _ (HX.out.keep hBx1)).mono ?_
  rintro e x2 ⟨rfl, hq⟩
  have hfx2 := hfx1.to (by omega) hq
  have hbx2 := hbx1.to (by omega) hq
  have hBx2 := hBx1.trans (hq.mono hBx1.size)
  clear hq hfx1 hbx1 hBx1
  obtain ⟨gl, hgl⟩ : ∃ g : Nat, x2.heap.size = g := ⟨_, rfl⟩
  have hlgl : gb < gl := by rw [← hgl]; exact hbx2.lt (by omega)
  have hfx3a := hfx2.alloc (by omega) (.cells (arL 176 fun _ => 0).toArray 26)
  have hbx3a := hbx2.alloc (by omega) (.cells (arL 176 fun _ => 0).toArray 26)
  have hlx3a := Ar.new x2 176 (fun _ => 0) 26
  have hBx3a := hBx2.alloc hBx2.size (.cells (arL 176 fun _ => 0).toArray 26)
  rw [hgl] at hlx3a
  clear hfx2 hbx2 hBx2
  go_upto_region 4 with (first | (refine wpList_store_ar rfl _ _ _ rfl _ _ _ (ek f) rfl rfl hlx3a (size176e _) ?_; intro x3 hlx3 belx3 sizx3 keex3) | fail)
  have hfx3 := keex3 _ _ _ (by omega) hfx3a
  have hbx3 := keex3 _ _ _ (by omega) hbx3a
  have hBx3 := hBx3a.trans (belx3.mono (by omega))
  clear hfx3a hbx3a hlx3a hBx3a belx3 sizx3 keex3 hgl
  try dsimp only [Act.put]
  have hr0 := Lib.hid (show arL 16 (fun j => ek f j) = arL 16 (rk f 0) from arL_ext (fun j hj => by have := ek_rk f 0 j hj; rwa [Nat.mul_zero, Nat.zero_add] at this))
  have hrow := Lib.hid (fun r => arL_ext (n := 16) (f := fun j => ek f (r * 16 + j)) (g := rk f r) (fun j hj => by rw [Nat.mul_comm r 16, ek_rk f r j hj]))
  have hrk := Lib.hid (fun r => rk_lt f Hf.out r)
  go_wp2_with (first | (refine wpList_load_ar rfl _ _ rfl _ _ _ rfl hbx3 Tryd.arr16b (size16b _) ?_) | (refine wpList_load_arO rfl _ _ rfl _ 176 0 16 _ rfl hlx3 (by omega) Tryd.arr16b (size16b _) ?_))
  rw [hr0.out]
  refine (cadd b (rk f 0) _ Hb.out (hrk.out 0)).mono ?_
  rintro e x4 ⟨rfl, hq⟩
  have hfx4 := hfx3.to (by omega) hq
  have hbx4 := hbx3.to (by omega) hq
  have hlx4 := hlx3.to (by omega) hq
  have hBx4 := hBx3.trans (hq.mono hBx3.size)
  clear hq hfx3 hbx3 hlx3 hBx3
  rw [show adF b (rk f 0) = enR f b 0 from rfl]
  obtain ⟨gs, hgs⟩ : ∃ g : Nat, x4.heap.size = g := ⟨_, rfl⟩
  have hlgs : gl < gs := by rw [← hgs]; exact hlx4.lt (by omega)
  have hfx5a := hfx4.alloc (by omega) (.cells (arL 16 fun _ => 0).toArray 22)
  have hbx5a := hbx4.alloc (by omega) (.cells (arL 16 fun _ => 0).toArray 22)
  have hlx5a := hlx4.alloc (by omega) (.cells (arL 16 fun _ => 0).toArray 22)
  have hsx5a := Ar.new x4 16 (fun _ => 0) 22
  have hBx5a := hBx4.alloc hBx4.size (.cells (arL 16 fun _ => 0).toArray 22)
  rw [hgs] at hsx5a
  clear hfx4 hbx4 hlx4 hBx4
  go_upto_region 5 with (first | (refine wpList_store_ar rfl _ _ _ rfl _ _ _ (enR f b 0) rfl rfl hsx5a (size16b _) ?_; intro x5 hsx5 belx5 sizx5 keex5) | fail)
  have hfx5 := keex5 _ _ _ (by omega) hfx5a
  have hbx5 := keex5 _ _ _ (by omega) hbx5a
  have hlx5 := keex5 _ _ _ (by omega) hlx5a
  have hBx5 := hBx5a.trans (belx5.mono (by omega))
  clear hfx5a hbx5a hlx5a hsx5a hBx5a belx5 sizx5 keex5 hgs
  try dsimp only [Act.put]
  have hel := Lib.hid (enR_lt Hf.out Hb.out)
  have hstep := Lib.hid (show ∀ r, 1 ≤ r → r < 10 → adF (miF (shF (suF (enR f b (r - 1))))) (rk f r) = enR f b r from fun r h1 h2 => by
    obtain ⟨s, rfl⟩ : ∃ s, r = s + 1 := ⟨r - 1, by omega⟩
    rw [enR, if_pos h2, Nat.add_sub_cancel])
  have hlast := Lib.hid (show adF (shF (suF (enR f b 9))) (rk f 10) = enR f b 10 from rfl)
  clear hr0
  go_wp2_with fail
  go_loopw [7] (fun i wr => ∃ r : Nat, 1 ≤ r ∧ r ≤ 11 ∧ i = .int .i64 r ∧ Ar wr gf 16 f ∧ Ar wr gb 16 b ∧ Ar wr gl 176 (ek f) ∧ Ar wr gs 16 (enR f b (r - 1)) ∧ Below w.heap.size w wr) (fun i _ => 11 - (intOf i).toNat)
  case atStart => exact ⟨1, by omega, by omega, rfl, hfx5, hbx5, hlx5, hsx5, hBx5⟩
  case round =>
    clear hfx5 hbx5 hlx5 hsx5 hBx5
    obtain ⟨r, hr1, hr, rfl, hf0, hb0, hl0, hs0, hB0⟩ := hrel
    by_cases hlt : r < 11
    · have i1 : (r : Int) ≤ 10 := by omega
      have i2 : (r : Int) < 11 := by omega
      go_wp2_with (refine wpList_load_ar rfl _ _ rfl _ _ _ rfl hs0 Tryd.arr16b (size16b _) ?_)
      refine (csub (enR f b (r - 1)) _ (hel.out _) (HX.out.keep hB0)).mono ?_
      rintro e u1 ⟨rfl, hq⟩
      have hfu1 := hf0.to (by omega) hq
      have hbu1 := hb0.to (by omega) hq
      have hlu1 := hl0.to (by omega) hq
      have hsu1 := hs0.to (by omega) hq
      have hBu1 := hB0.trans (hq.mono hB0.size)
      clear hq hf0 hb0 hl0 hs0 hB0
      go_wp2_with fail
      refine (cshift (suF (enR f b (r - 1))) _).mono ?_
      rintro e u2 ⟨rfl, hq⟩
      have hfu2 := hfu1.to (by omega) hq
      have hbu2 := hbu1.to (by omega) hq
      have hlu2 := hlu1.to (by omega) hq
      have hsu2 := hsu1.to (by omega) hq
      have hBu2 := hBu1.trans (hq.mono hBu1.size)
      clear hq hfu1 hbu1 hlu1 hsu1 hBu1
      have HS := Lib.hid (show B16 (shF (suF (enR f b (r - 1)))) from shF_lt (suF_lt _))
      by_cases h10 : r < 10
      · have i3 : (r : Int) < 10 := by omega
        have hst := Lib.hid (hstep.out r hr1 h10)
        generalize shF (suF (enR f b (r - 1))) = Y0 at *
        go_upto_region 10 with (first
          | (refine wpList_store_ar rfl _ _ _ rfl _ _ _ Y0 rfl rfl hsu2 (size16b _) ?_; intro u3 hsu3 bel siz kee)
          | fail)
        have hfu3 := kee _ _ _ (by omega) hfu2
        have hbu3 := kee _ _ _ (by omega) hbu2
        have hlu3 := kee _ _ _ (by omega) hlu2
        have hBu3 := hBu2.trans (bel.mono (by omega))
        clear bel siz kee hfu2 hbu2 hlu2 hsu2 hBu2
        go_wp2_with (refine wpList_load_ar rfl _ _ rfl _ _ _ rfl hsu3 Tryd.arr16b (size16b _) ?_)
        refine (cmix Y0 _ HS.out).mono ?_
        rintro e u4 ⟨rfl, hq⟩
        have hfu4 := hfu3.to (by omega) hq
        have hbu4 := hbu3.to (by omega) hq
        have hlu4 := hlu3.to (by omega) hq
        have hsu4 := hsu3.to (by omega) hq
        have hBu4 := hBu3.trans (hq.mono hBu3.size)
        clear hq hfu3 hbu3 hlu3 hsu3 hBu3
        have HM := Lib.hid (miF_lt Y0)
        generalize miF Y0 = Y at *
        go_wp2_with (refine wpList_store_ar rfl _ _ _ rfl _ _ _ Y rfl rfl hsu4 (size16b _) ?_; intro u5 hsu5 bel siz kee)
        have hfu5 := kee _ _ _ (by omega) hfu4
        have hbu5 := kee _ _ _ (by omega) hbu4
        have hlu5 := kee _ _ _ (by omega) hlu4
        have hBu5 := hBu4.trans (bel.mono (by omega))
        clear bel siz kee hfu4 hbu4 hlu4 hsu4 hBu4
        clear HS
        have hsd := hsu5.drew
        refine wp_region_held_drew (S := fun W => Ar W gf 16 (f) ∧ Ar W gb 16 (b) ∧ Ar W gl 176 (ek f) ∧ Below w.heap.size w W) (by kernel_rfl) ⟨hfu5.drew, hbu5.drew, hlu5.drew, hBu5.drew⟩ (fun hHeld => ?_)
        clear hfu5 hbu5 hlu5 hsu5 hBu5
        refine wpAnyH_take (i := 1) (v := ?vq5) rfl (by kernel_rfl) (by kernel_rfl) (by kernel_rfl) (fun _ _ _ h => h) (Or.inl ⟨by rfl, ?hyq5⟩) (by assumption) ?restq5
        case hyq5 =>
          intro W hSw
          go_simp
          try with_reducible rfl
        simp only [Act.put, List.setIfInBounds_toArray, List.set_cons_zero, List.set_cons_succ, List.getElem_toArray, List.getElem_cons_zero, List.getElem_cons_succ]
        refine wpAnyH_take (i := 2) (v := ?vq6) rfl (by kernel_rfl) (by kernel_rfl) (by kernel_rfl) (fun _ _ _ h => h) (Or.inl ⟨by rfl, ?hyq6⟩) (by assumption) ?restq6
        case hyq6 =>
          intro W hSw
          go_simp
          try with_reducible rfl
        simp only [Act.put, List.setIfInBounds_toArray, List.set_cons_zero, List.set_cons_succ, List.getElem_toArray, List.getElem_cons_zero, List.getElem_cons_succ]
        refine wpAnyH_take (i := 3) (v := .agg (arL 16 (rk f r)).toArray) rfl (by kernel_rfl) (by kernel_rfl) (by kernel_rfl) (fun _ _ _ h => h) (yieldsIf_load_mid (by rfl) _ _ rfl gl (r * 16) rfl (arL 16 (rk f r)) _ (fun W hSw => by have q := (hSw.2.2.1).rangeO (r * 16) 16 (by omega); rwa [hrow.out] at q) Tryd.arr16b rfl (size16b _)) (by assumption) ?_
        simp only [Act.put, List.setIfInBounds_toArray, List.set_cons_zero, List.set_cons_succ, List.getElem_toArray, List.getElem_cons_zero, List.getElem_cons_succ]
        refine wpAnyH_ready (rs := [0]) (by kernel_rfl) (by simp) ?_
        refine AllReadyH.cons rfl (fun K hK => ?_) AllReadyH.nil
        rw [if_pos (by rfl)]
        refine wp_load_mid _ _ rfl gs 0 rfl (arL 16 Y) _ hsd.range Tryd.arr16b rfl (size16b _) ?_
        refine hK.out _ _ hHeld (fun hHeld2 => ?_)
        clear hK K hHeld
        have hHeld := hHeld2
        clear hHeld2
        try simp only [Act.put, List.setIfInBounds_toArray, List.set_cons_zero, List.set_cons_succ, List.getElem_toArray, List.getElem_cons_zero]
        refine wpAnyH_ready (rs := [4]) (by kernel_rfl) (by simp) ?_
        refine AllReadyH.cons rfl (fun K hK => ?_) AllReadyH.nil
        go_simp
        refine (cadd Y (rk f r) _ HM.out (hrk.out r)).mono ?_
        rintro e y7 ⟨rfl, hq⟩
        have hsy7 := hsd.to (by omega) hq
        go_wp2_with fail
        refine hK.out _ _ ⟨(hHeld.1).to (by omega) hq, (hHeld.2.1).to (by omega) hq, (hHeld.2.2.1).to (by omega) hq, (hHeld.2.2.2).trans (hq.mono (hHeld.2.2.2).size)⟩ (fun hHeld2 => ?_)
        clear hK K hHeld hq
        have hHeld := hHeld2
        clear hHeld2
        try simp only [Act.put, List.setIfInBounds_toArray, List.set_cons_zero, List.set_cons_succ, List.getElem_toArray, List.getElem_cons_zero, List.getElem_cons_succ]
        refine wpAnyH_ready (rs := [5]) (by kernel_rfl) (by simp) ?_
        refine AllReadyH.cons rfl (fun K hK => ?_) AllReadyH.nil
        rw [if_pos (by rfl)]
        refine wp_store_mid _ _ _ rfl gs 0 _ rfl rfl (by rw [List.size_toArray, arL_len]; exact hsy7.there) (by rw [List.size_toArray]; exact size16b _) (all_oneCell_toArray (arL_one 16 (adF Y (rk f r)))) ?_
        obtain ⟨p1, p2, p3, p4⟩ := hHeld
        have hs9 := hsy7.whole (adF Y (rk f r))
        have hB9 := p4.trans (Below.setCells (Below.refl w.heap.size _) (b := gs) (by omega) (arL 16 (adF Y (rk f r))) 0)
        have hf9 := p1.apart (b := gs) (by omega) (arL 16 (adF Y (rk f r))) 0
        have hb9 := p2.apart (b := gs) (by omega) (arL 16 (adF Y (rk f r))) 0
        have hl9 := p3.apart (b := gs) (by omega) (arL 16 (adF Y (rk f r))) 0
        dsimp only [List.toList_toArray]
        generalize World.setCells y7 gs 0 (arL 16 (adF Y (rk f r))) = u9 at *
        refine hK.out _ _ ⟨hf9, hb9, hl9, hB9⟩ (fun hHeld => ?_)
        clear hK K p1 p2 p3 p4 hsy7 hsd hHeld
        try simp only [Act.put]
        refine wpAnyH_done (by kernel_rfl) ?_ _
        rw [hst.out] at hs9
        clear i2
        go_wp2_with fail
        go_roundw
        case rel => exact ⟨r + 1, by omega, by omega, by go_num, hf9, hb9, hl9, by rw [Nat.add_sub_cancel]; exact hs9, hB9⟩
        case measure => simp [intOf]; try omega
      · obtain rfl : r = 10 := by omega
        have hst := Lib.hid hlast.out
        rw [show 10 - 1 = 9 from rfl] at *
        generalize shF (suF (enR f b 9)) = Y at *
        go_wp2_with (first
          | (refine wpList_store_ar rfl _ _ _ rfl _ _ _ Y rfl rfl hsu2 (size16b _) ?_; intro u5 hsu5 bel siz kee)
          | fail)
        have hfu5 := kee _ _ _ (by omega) hfu2
        have hbu5 := kee _ _ _ (by omega) hbu2
        have hlu5 := kee _ _ _ (by omega) hlu2
        have hBu5 := hBu2.trans (bel.mono (by omega))
        clear bel siz kee hfu2 hbu2 hlu2 hsu2 hBu2
        have HM := HS
        clear HS
        have hsd := hsu5.drew
        refine wp_region_held_drew (S := fun W => Ar W gf 16 (f) ∧ Ar W gb 16 (b) ∧ Ar W gl 176 (ek f) ∧ Below w.heap.size w W) (by kernel_rfl) ⟨hfu5.drew, hbu5.drew, hlu5.drew, hBu5.drew⟩ (fun hHeld => ?_)
        clear hfu5 hbu5 hlu5 hsu5 hBu5
        refine wpAnyH_take (i := 1) (v := ?vq8) rfl (by kernel_rfl) (by kernel_rfl) (by kernel_rfl) (fun _ _ _ h => h) (Or.inl ⟨by rfl, ?hyq8⟩) (by assumption) ?restq8
        case hyq8 =>
          intro W hSw
          go_simp
          try with_reducible rfl
        simp only [Act.put, List.setIfInBounds_toArray, List.set_cons_zero, List.set_cons_succ, List.getElem_toArray, List.getElem_cons_zero, List.getElem_cons_succ]
        refine wpAnyH_take (i := 2) (v := ?vq9) rfl (by kernel_rfl) (by kernel_rfl) (by kernel_rfl) (fun _ _ _ h => h) (Or.inl ⟨by rfl, ?hyq9⟩) (by assumption) ?restq9
        case hyq9 =>
          intro W hSw
          go_simp
          try with_reducible rfl
        simp only [Act.put, List.setIfInBounds_toArray, List.set_cons_zero, List.set_cons_succ, List.getElem_toArray, List.getElem_cons_zero, List.getElem_cons_succ]
        refine wpAnyH_take (i := 3) (v := .agg (arL 16 (rk f 10)).toArray) rfl (by kernel_rfl) (by kernel_rfl) (by kernel_rfl) (fun _ _ _ h => h) (yieldsIf_load_mid (by rfl) _ _ rfl gl (160) rfl (arL 16 (rk f 10)) _ (fun W hSw => by have q := (hSw.2.2.1).rangeO (10 * 16) 16 (by omega); rwa [hrow.out] at q) Tryd.arr16b rfl (size16b _)) (by assumption) ?_
        simp only [Act.put, List.setIfInBounds_toArray, List.set_cons_zero, List.set_cons_succ, List.getElem_toArray, List.getElem_cons_zero, List.getElem_cons_succ]
        refine wpAnyH_ready (rs := [0]) (by kernel_rfl) (by simp) ?_
        refine AllReadyH.cons rfl (fun K hK => ?_) AllReadyH.nil
        rw [if_pos (by rfl)]
        refine wp_load_mid _ _ rfl gs 0 rfl (arL 16 Y) _ hsd.range Tryd.arr16b rfl (size16b _) ?_
        refine hK.out _ _ hHeld (fun hHeld2 => ?_)
        clear hK K hHeld
        have hHeld := hHeld2
        clear hHeld2
        try simp only [Act.put, List.setIfInBounds_toArray, List.set_cons_zero, List.set_cons_succ, List.getElem_toArray, List.getElem_cons_zero]
        refine wpAnyH_ready (rs := [4]) (by kernel_rfl) (by simp) ?_
        refine AllReadyH.cons rfl (fun K hK => ?_) AllReadyH.nil
        go_simp
        refine (cadd Y (rk f 10) _ HM.out (hrk.out 10)).mono ?_
        rintro e y10 ⟨rfl, hq⟩
        have hsy10 := hsd.to (by omega) hq
        go_wp2_with fail
        refine hK.out _ _ ⟨(hHeld.1).to (by omega) hq, (hHeld.2.1).to (by omega) hq, (hHeld.2.2.1).to (by omega) hq, (hHeld.2.2.2).trans (hq.mono (hHeld.2.2.2).size)⟩ (fun hHeld2 => ?_)
        clear hK K hHeld hq
        have hHeld := hHeld2
        clear hHeld2
        try simp only [Act.put, List.setIfInBounds_toArray, List.set_cons_zero, List.set_cons_succ, List.getElem_toArray, List.getElem_cons_zero, List.getElem_cons_succ]
        refine wpAnyH_ready (rs := [5]) (by kernel_rfl) (by simp) ?_
        refine AllReadyH.cons rfl (fun K hK => ?_) AllReadyH.nil
        rw [if_pos (by rfl)]
        refine wp_store_mid _ _ _ rfl gs 0 _ rfl rfl (by rw [List.size_toArray, arL_len]; exact hsy10.there) (by rw [List.size_toArray]; exact size16b _) (all_oneCell_toArray (arL_one 16 (adF Y (rk f 10)))) ?_
        obtain ⟨p1, p2, p3, p4⟩ := hHeld
        have hs9 := hsy10.whole (adF Y (rk f 10))
        have hB9 := p4.trans (Below.setCells (Below.refl w.heap.size _) (b := gs) (by omega) (arL 16 (adF Y (rk f 10))) 0)
        have hf9 := p1.apart (b := gs) (by omega) (arL 16 (adF Y (rk f 10))) 0
        have hb9 := p2.apart (b := gs) (by omega) (arL 16 (adF Y (rk f 10))) 0
        have hl9 := p3.apart (b := gs) (by omega) (arL 16 (adF Y (rk f 10))) 0
        dsimp only [List.toList_toArray]
        generalize World.setCells y10 gs 0 (arL 16 (adF Y (rk f 10))) = u9 at *
        refine hK.out _ _ ⟨hf9, hb9, hl9, hB9⟩ (fun hHeld => ?_)
        clear hK K p1 p2 p3 p4 hsy10 hsd hHeld
        try simp only [Act.put]
        refine wpAnyH_done (by kernel_rfl) ?_ _
        rw [hst.out] at hs9
        clear i2
        go_wp2_with fail
        go_roundw
        case rel => exact ⟨10 + 1, by omega, by omega, by go_num, hf9, hb9, hl9, by rw [Nat.add_sub_cancel]; exact hs9, hB9⟩
        case measure => simp [intOf]; try omega
    · obtain rfl : r = 11 := by omega
      have heq := fun X => eq16_true (f := X) (g := X) (fun _ _ => rfl)
      have hgd := Tryd.eqg16
      rw [show enR f b (11 - 1) = enF f b from rfl] at hs0
      go_wp2_with fail
      refine wp_region_held_drew (S := fun W => Ar W gf 16 (f) ∧ Ar W gb 16 (b) ∧ Ar W gs 16 (enF f b) ∧ Below w.heap.size w W) (by kernel_rfl) ⟨hf0.drew, hb0.drew, hs0.drew, hB0.drew⟩ (fun hHeld => ?_)
      clear hf0 hb0 hl0 hs0 hB0
      refine wpAnyH_take (i := 0) (v := .agg (arL 16 (enF f b)).toArray) rfl (by kernel_rfl) (by kernel_rfl) (by kernel_rfl) (fun _ _ _ h => h) (yieldsIf_load_mid (by rfl) _ _ rfl gs 0 rfl (arL 16 (enF f b)) _ (fun W hSw => hSw.2.2.1.range) Tryd.arr16b rfl (size16b _)) (by assumption) ?_
      simp only [Act.put, List.setIfInBounds_toArray, List.set_cons_zero, List.set_cons_succ, List.getElem_toArray, List.getElem_cons_zero]
      refine wpAnyH_take (i := 1) (v := .agg (arL 16 (f)).toArray) rfl (by kernel_rfl) (by kernel_rfl) (by kernel_rfl) (fun _ _ _ h => h) (yieldsIf_load_mid (by rfl) _ _ rfl gf 0 rfl (arL 16 (f)) _ (fun W hSw => hSw.1.range) Tryd.arr16b rfl (size16b _)) (by assumption) ?_
      simp only [Act.put, List.setIfInBounds_toArray, List.set_cons_zero, List.set_cons_succ, List.getElem_toArray, List.getElem_cons_zero, List.getElem_cons_succ]
      refine wpAnyH_take (i := 2) (v := .agg (arL 16 (b)).toArray) rfl (by kernel_rfl) (by kernel_rfl) (by kernel_rfl) (fun _ _ _ h => h) (yieldsIf_load_mid (by rfl) _ _ rfl gb 0 rfl (arL 16 (b)) _ (fun W hSw => hSw.2.1.range) Tryd.arr16b rfl (size16b _)) (by assumption) ?_
      simp only [Act.put, List.setIfInBounds_toArray, List.set_cons_zero, List.set_cons_succ, List.getElem_toArray, List.getElem_cons_zero, List.getElem_cons_succ]
      refine wpAnyH_ready (rs := [3]) (by kernel_rfl) (by simp) ?_
      refine AllReadyH.cons rfl (fun K hK => ?_) AllReadyH.nil
      go_simp
      refine (cencrypt f b _ Hf.out Hb.out (HX.out.keep (hHeld.2.2.2))).mono ?_
      rintro e y11 ⟨rfl, hq⟩
      go_wp2_with fail
      refine hK.out _ _ ⟨(hHeld.1).to (by omega) hq, (hHeld.2.1).to (by omega) hq, (hHeld.2.2.1).to (by omega) hq, (hHeld.2.2.2).trans (hq.mono (hHeld.2.2.2).size)⟩ (fun hHeld2 => ?_)
      clear hK K hHeld hq
      have hHeld := hHeld2
      clear hHeld2
      try simp only [Act.put, List.setIfInBounds_toArray, List.set_cons_zero, List.set_cons_succ, List.getElem_toArray, List.getElem_cons_zero, List.getElem_cons_succ]
      refine wpAnyH_take (i := 4) (v := ?vq12) rfl (by kernel_rfl) (by kernel_rfl) (by kernel_rfl) (fun _ _ _ h => h) (Or.inl ⟨by rfl, ?hyq12⟩) (by assumption) ?restq12
      case hyq12 =>
        intro W hSw
        go_simp
        try with_reducible rfl
      simp only [Act.put, List.setIfInBounds_toArray, List.set_cons_zero, List.set_cons_succ, List.getElem_toArray, List.getElem_cons_zero, List.getElem_cons_succ]
      refine wpAnyH_take (i := 5) (v := ?vq13) rfl (by kernel_rfl) (by kernel_rfl) (by kernel_rfl) (fun _ _ _ h => h) (Or.inl ⟨by rfl, ?hyq13⟩) (by assumption) ?restq13
      case hyq13 =>
        intro W hSw
        go_simp
        try with_reducible rfl
      simp only [Act.put, List.setIfInBounds_toArray, List.set_cons_zero, List.set_cons_succ, List.getElem_toArray, List.getElem_cons_zero, List.getElem_cons_succ]
      refine wpAnyH_take (i := 6) (v := .agg (arL 16 (enF f b)).toArray) rfl (by kernel_rfl) (by kernel_rfl) (by kernel_rfl) (fun _ _ _ h => h) (yieldsIf_load_mid (by rfl) _ _ rfl gs 0 rfl (arL 16 (enF f b)) _ (fun W hSw => hSw.2.2.1.range) Tryd.arr16b rfl (size16b _)) (by assumption) ?_
      simp only [Act.put, List.setIfInBounds_toArray, List.set_cons_zero, List.set_cons_succ, List.getElem_toArray, List.getElem_cons_zero, List.getElem_cons_succ]
      refine wpAnyH_take (i := 7) (v := .agg (arL 16 (f)).toArray) rfl (by kernel_rfl) (by kernel_rfl) (by kernel_rfl) (fun _ _ _ h => h) (yieldsIf_load_mid (by rfl) _ _ rfl gf 0 rfl (arL 16 (f)) _ (fun W hSw => hSw.1.range) Tryd.arr16b rfl (size16b _)) (by assumption) ?_
      simp only [Act.put, List.setIfInBounds_toArray, List.set_cons_zero, List.set_cons_succ, List.getElem_toArray, List.getElem_cons_zero, List.getElem_cons_succ]
      refine wpAnyH_take (i := 9) (v := .agg (arL 16 (b)).toArray) rfl (by kernel_rfl) (by kernel_rfl) (by kernel_rfl) (fun _ _ _ h => h) (yieldsIf_load_mid (by rfl) _ _ rfl gb 0 rfl (arL 16 (b)) _ (fun W hSw => hSw.2.1.range) Tryd.arr16b rfl (size16b _)) (by assumption) ?_
      simp only [Act.put, List.setIfInBounds_toArray, List.set_cons_zero, List.set_cons_succ, List.getElem_toArray, List.getElem_cons_zero, List.getElem_cons_succ]
      refine wpAnyH_ready (rs := [8]) (by kernel_rfl) (by simp) ?_
      refine AllReadyH.cons rfl (fun K hK => ?_) AllReadyH.nil
      go_simp
      refine (refprepare f _ Hf.out).mono ?_
      rintro e y14 ⟨rfl, hq⟩
      go_wp2_with fail
      refine hK.out _ _ ⟨(hHeld.1).to (by omega) hq, (hHeld.2.1).to (by omega) hq, (hHeld.2.2.1).to (by omega) hq, (hHeld.2.2.2).trans (hq.mono (hHeld.2.2.2).size)⟩ (fun hHeld2 => ?_)
      clear hK K hHeld hq
      have hHeld := hHeld2
      clear hHeld2
      try simp only [Act.put, List.setIfInBounds_toArray, List.set_cons_zero, List.set_cons_succ, List.getElem_toArray, List.getElem_cons_zero, List.getElem_cons_succ]
      refine wpAnyH_ready (rs := [10]) (by kernel_rfl) (by simp) ?_
      refine AllReadyH.cons rfl (fun K hK => ?_) AllReadyH.nil
      go_simp
      refine (refencrypt f b _ Hf.out Hb.out).mono ?_
      rintro e y15 ⟨rfl, hq⟩
      go_wp2_with fail
      refine hK.out _ _ ⟨(hHeld.1).to (by omega) hq, (hHeld.2.1).to (by omega) hq, (hHeld.2.2.1).to (by omega) hq, (hHeld.2.2.2).trans (hq.mono (hHeld.2.2.2).size)⟩ (fun hHeld2 => ?_)
      clear hK K hHeld hq
      have hHeld := hHeld2
      clear hHeld2
      try simp only [Act.put, List.setIfInBounds_toArray, List.set_cons_zero, List.set_cons_succ, List.getElem_toArray, List.getElem_cons_zero, List.getElem_cons_succ]
      refine wpAnyH_take (i := 11) (v := ?vq16) rfl (by kernel_rfl) (by kernel_rfl) (by kernel_rfl) (fun _ _ _ h => h) (Or.inl ⟨by rfl, ?hyq16⟩) (by assumption) ?restq16
      case hyq16 =>
        intro W hSw
        go_simp
        try with_reducible rfl
      simp only [Act.put, List.setIfInBounds_toArray, List.set_cons_zero, List.set_cons_succ, List.getElem_toArray, List.getElem_cons_zero, List.getElem_cons_succ]
      refine wpAnyH_take (i := 12) (v := ?vq17) rfl (by kernel_rfl) (by kernel_rfl) (by kernel_rfl) (fun _ _ _ h => h) (Or.inl ⟨by rfl, ?hyq17⟩) (by assumption) ?restq17
      case hyq17 =>
        intro W hSw
        go_simp
        try with_reducible rfl
      simp only [Act.put, List.setIfInBounds_toArray, List.set_cons_zero, List.set_cons_succ, List.getElem_toArray, List.getElem_cons_zero, List.getElem_cons_succ]
      refine wpAnyH_take (i := 13) (v := ?vq18) rfl (by kernel_rfl) (by kernel_rfl) (by kernel_rfl) (fun _ _ _ h => h) (Or.inl ⟨by rfl, ?hyq18⟩) (by assumption) ?restq18
      case hyq18 =>
        intro W hSw
        go_simp
        try with_reducible rfl
      simp only [Act.put, List.setIfInBounds_toArray, List.set_cons_zero, List.set_cons_succ, List.getElem_toArray, List.getElem_cons_zero, List.getElem_cons_succ]
      refine wpAnyH_done (by kernel_rfl) ?_ _
      have hBe := hHeld.2.2.2
      clear hHeld
      go_wp2_with fail
      go_ret
      exact ⟨rfl, hBe⟩
end Go.Proofs.YtghcpfcomhfppaaDoor
