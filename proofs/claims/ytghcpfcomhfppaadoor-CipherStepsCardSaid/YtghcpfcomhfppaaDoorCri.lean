/-
  Contract of Encrypt in the reference package of layer 6, by a walk through its text, over the contracts of the steps; what was there stays as it was.
-/
import Derived.Test.YtghcpfcomhfppaaDoorCrj
import Derived.Deep.RegionHeld3
namespace Go.Proofs.YtghcpfcomhfppaaDoor
open Go.RowKit
set_option linter.unusedVariables false
set_option maxRecDepth 100000

set_option maxHeartbeats 4000000 in
theorem refencrypt (f b : Nat → Nat) (w : World) (hf : B16 f) (hb : B16 b) :
    Calls Tryd.prog 10 #[.agg (arL 432 (pkF (ek f) sb)).toArray, .agg (arL 16 b).toArray] w fun e w' => e = .returned (.agg (arL 16 (enF f b)).toArray) ∧ Below w.heap.size w w' := by
  have hz := zero16b
  obtain ⟨kA, hkA⟩ : ∃ kA : Array Value, (arL 432 (pkF (ek f) sb)).toArray = kA := ⟨_, rfl⟩
  obtain ⟨kB, hkB⟩ : ∃ kB : Array Value, (arL 16 b).toArray = kB := ⟨_, rfl⟩
  obtain ⟨w1, hw1⟩ : ∃ w1 : World, w1 = w.alloc (.cells (arL 432 (pkF (ek f) sb)).toArray 29) := ⟨_, rfl⟩
  have hs1 : w1.heap.size = w.heap.size + 1 := by rw [hw1]; simp
  have hb1 : Below w.heap.size w w1 := by rw [hw1]; exact (Below.refl _ _).alloc (Nat.le_refl _) _
  have hK1 : Ar w1 w.heap.size 432 (pkF (ek f) sb) := by rw [hw1]; exact Ar.new w 432 _ _
  obtain ⟨w2, hw2⟩ : ∃ w2 : World, w2 = w1.alloc (.cells (arL 16 b).toArray 22) := ⟨_, rfl⟩
  have hs2 : w2.heap.size = w.heap.size + 2 := by rw [hw2]; simp [hs1]
  have hb2 : Below w.heap.size w w2 := by rw [hw2]; exact hb1.alloc (by omega) _
  have hC2 : Ar w2 (w.heap.size + 1) 16 b := by rw [hw2, ← hs1]; exact Ar.new w1 16 b _
  have hK2 : Ar w2 w.heap.size 432 (pkF (ek f) sb) := by rw [hw2]; exact hK1.alloc (by omega) _
  obtain ⟨w3, hw3⟩ : ∃ w3 : World, w3 = w2.alloc (.cells (arL 16 fun _ => 0).toArray 22) := ⟨_, rfl⟩
  have hB3 : Below w.heap.size w w3 := by rw [hw3]; exact hb2.alloc (by omega) _
  have hR3 : Ar w3 (w.heap.size + 2) 16 (fun _ => 0) := by rw [hw3, ← hs2]; exact Ar.new w2 16 _ _
  have hC3 : Ar w3 (w.heap.size + 1) 16 b := by rw [hw3]; exact hC2.alloc (by omega) _
  have hE3 : Ar w3 w.heap.size 432 (pkF (ek f) sb) := by rw [hw3]; exact hK2.alloc (by omega) _
  have HKA := Lib.hid hkA
  have HKB := Lib.hid hkB
  rw [hkA] at hw1
  rw [hkB] at hw2
  rw [hkA, hkB]
  clear hb1 hK1 hkA hkB hb2 hK2 hC2
  have HF := Lib.hid hf
  have HBB := Lib.hid hb
  have hrow := Lib.hid (show ∀ r, r ≤ 10 → arL 16 (fun j => pkF (ek f) sb (r * 16 + j)) = arL 16 (rk f r) from fun r hr => arL_ext (fun j hj => by
    rw [pkF, if_pos (by omega), Nat.mul_comm r 16, ek_rk f r j hj]))
  have htab := Lib.hid (show (arL 256 (fun j => pkF (ek f) sb (176 + j))).toArray = boxA by
    rw [arL_ext (n := 256) (g := sb) (fun j hj => by rw [pkF, if_neg (by omega), Nat.add_sub_cancel_left])]; rfl)
  have hrk := Lib.hid (fun r => rk_lt f hf r)
  have hel := Lib.hid (enR_lt hf hb)
  have hstep := Lib.hid (show ∀ r, 1 ≤ r → r < 10 → adF (miF (shF (suF (enR f b (r - 1))))) (rk f r) = enR f b r from fun r h1 h2 => by
    obtain ⟨s, rfl⟩ : ∃ s, r = s + 1 := ⟨r - 1, by omega⟩
    rw [enR, if_pos h2, Nat.add_sub_cancel])
  have hlast := Lib.hid (show adF (shF (suF (enR f b 9))) (rk f 10) = enR f b 10 from rfl)
  obtain ⟨pk, hpk⟩ : ∃ pk : Nat → Nat, pk = pkF (ek f) sb := ⟨_, rfl⟩
  rw [← hpk] at hrow htab hE3
  clear hf hb hpk HKA
  go_enter Tryd.func10, Tryd.ntmps10
  go_upto_region 1 with fail
  rw [← hw1, ← hw2, ← hw3]
  clear hw1 hw2 hw3 hs1 hs2
  obtain ⟨gE, hgE⟩ : ∃ gE : Nat, w.heap.size = gE := ⟨_, rfl⟩
  obtain ⟨gC, hgC⟩ : ∃ gC : Nat, w.heap.size + 1 = gC := ⟨_, rfl⟩
  obtain ⟨gR, hgR⟩ : ∃ gR : Nat, w.heap.size + 2 = gR := ⟨_, rfl⟩
  have hgR2 : w.heap.size + 1 + 1 = gR := hgR
  rw [hgC] at hC3
  rw [hgR] at hR3
  rw [hgE] at hE3
  try rw [hgR2]
  try rw [hgR]
  try rw [hgC]
  try simp only [hgE]
  have hlB : w.heap.size ≤ gE := by omega
  have hlC : gE < gC := by omega
  have hlR : gC < gR := by omega
  clear hgC hgR hgR2
  refine reReg f b pk gE gC gR w.heap.size (hrow.out 0 (by omega)) HBB.out (hrk.out 0) hlB hlC hlR hC3 hR3 hE3 hB3 ?_
  intro gT w4 hlT hT4 hR4 hE4 hB4
  rw [show adF b (rk f 0) = enR f b 0 from rfl] at hT4
  rw [show adF b (rk f 0) = enR f b 0 from rfl]
  clear hC3 hR3 hE3 hB3
  go_wp2_with fail
  go_loopw [6] (fun i wr => ∃ r : Nat, 1 ≤ r ∧ r ≤ 11 ∧ i = .int .i64 r ∧ Ar wr gT 16 (tr (enR f b (r - 1))) ∧ Ar wr gR 16 (fun _ => 0) ∧ Ar wr gE 432 pk ∧ Below w.heap.size w wr) (fun i _ => 11 - (intOf i).toNat)
  case atStart => exact ⟨1, by omega, by omega, rfl, hT4, hR4, hE4, hB4⟩
  case round =>
    clear hT4 hR4 hE4 hB4
    obtain ⟨r, hr1, hr, rfl, hT0, hR0, hE0, hB0⟩ := hrel
    by_cases hlt : r < 11
    · have i1 : (r : Int) ≤ 10 := by omega
      have i2 : (r : Int) < 11 := by omega
      go_upto_region 5 with fail
      go_upto_region 6 with (first
        | (refine wpList_load_ar rfl _ _ rfl _ _ _ rfl hT0 Tryd.arrG (sizeG _) ?_)
        | (refine wpList_load_arO rfl _ _ rfl _ 432 176 256 _ rfl hE0 (by omega) Tryd.arr256 (size_arL _) ?_; rw [htab.out])
        | fail)
      refine (rSub (enR f b (r - 1)) _ (hel.out _)).mono ?_
      rintro e w10 ⟨rfl, hq⟩
      have hT1 := hT0.to (by omega) hq
      have hR1 := hR0.to (by omega) hq
      have hE1 := hE0.to (by omega) hq
      have hB1 := hB0.trans (hq.mono hB0.size)
      clear hT0 hR0 hE0 hB0 hq
      go_wp2_with fail
      refine (rShift (suF (enR f b (r - 1))) _ (suF_lt _)).mono ?_
      rintro e w11 ⟨rfl, hq⟩
      have hT2 := hT1.to (by omega) hq
      have hR2 := hR1.to (by omega) hq
      have hE2 := hE1.to (by omega) hq
      have hB2 := hB1.trans (hq.mono hB1.size)
      clear hT1 hR1 hE1 hB1 hq
      have HS := Lib.hid (show B16 (shF (suF (enR f b (r - 1)))) from shF_lt (suF_lt _))
      by_cases h10 : r < 10
      · have i3 : (r : Int) < 10 := by omega
        have hst := Lib.hid (hstep.out r hr1 h10)
        generalize shF (suF (enR f b (r - 1))) = Y0 at *
        go_upto_region 7 with (first
          | (refine wpList_store_ar rfl _ _ _ rfl _ _ _ (tr Y0) rfl rfl hT2 (sizeG _) ?_; intro w12 hT3 hb3 hs3 hk3)
          | fail)
        have hR3 := hk3 _ _ _ (by omega) hR2
        have hE3 := hk3 _ _ _ (by omega) hE2
        have hB3 := hB2.trans (hb3.mono (by omega))
        clear hT2 hR2 hE2 hB2 hb3 hs3 hk3
        go_wp2_with (refine wpList_load_ar rfl _ _ rfl _ _ _ rfl hT3 Tryd.arrG (sizeG _) ?_)
        refine (rMix Y0 _ HS.out).mono ?_
        rintro e w13 ⟨rfl, hq⟩
        have hT4 := hT3.to (by omega) hq
        have hR4 := hR3.to (by omega) hq
        have hE4 := hE3.to (by omega) hq
        have hB4 := hB3.trans (hq.mono hB3.size)
        clear hT3 hR3 hE3 hB3 hq
        have HM := Lib.hid (miF_lt Y0)
        generalize miF Y0 = Y at *
        go_wp2_with (refine wpList_store_ar rfl _ _ _ rfl _ _ _ (tr Y) rfl rfl hT4 (sizeG _) ?_; intro w14 hT5 hb5 hs5 hk5)
        have hR5 := hk5 _ _ _ (by omega) hR4
        have hE5 := hk5 _ _ _ (by omega) hE4
        have hB5 := hB4.trans (hb5.mono (by omega))
        clear hT4 hR4 hE4 hB4 hb5 hs5 hk5 HS
        have rE := hE5.rangeO (r * 16) 16 (by omega)
        rw [hrow.out r (by omega)] at rE
        have hTd := hT5.drew
        have hRd := hR5.drew
        have hEd := hE5.drew
        have hBd := hB5.drew
        clear hT5 hR5 hE5 hB5
        refine wp_region_held_drew (S := fun W => W.rangeAt gE (r * 16) (arL 16 (rk f r))) (by kernel_rfl) (by rwa [World.rangeAt_drew]) (fun hHeld => ?_)
        clear rE
        generalize w14.drew = wd at *
        refine wpAnyH_take (i := 1) (v := ?vca1) rfl (by kernel_rfl) (by kernel_rfl) (by kernel_rfl) (fun _ _ _ h => h) (Or.inl ⟨by rfl, ?hyca1⟩) (by assumption) ?restca1
        case hyca1 =>
          intro W hSw
          go_simp
          try with_reducible rfl
        simp only [Act.put, List.setIfInBounds_toArray, List.set_cons_zero, List.set_cons_succ, List.getElem_toArray, List.getElem_cons_zero, List.getElem_cons_succ]
        refine wpAnyH_take (i := 2) (v := ?vca2) rfl (by kernel_rfl) (by kernel_rfl) (by kernel_rfl) (fun _ _ _ h => h) (Or.inl ⟨by rfl, ?hyca2⟩) (by assumption) ?restca2
        case hyca2 =>
          intro W hSw
          go_simp
          try with_reducible rfl
        simp only [Act.put, List.setIfInBounds_toArray, List.set_cons_zero, List.set_cons_succ, List.getElem_toArray, List.getElem_cons_zero, List.getElem_cons_succ]
        refine wpAnyH_take (i := 3) (v := ?vca3) rfl (by kernel_rfl) (by kernel_rfl) (by kernel_rfl) (fun _ _ _ h => h) (Or.inl ⟨by rfl, ?hyca3⟩) (by assumption) ?restca3
        case hyca3 =>
          intro W hSw
          go_simp
          try with_reducible rfl
        simp only [Act.put, List.setIfInBounds_toArray, List.set_cons_zero, List.set_cons_succ, List.getElem_toArray, List.getElem_cons_zero, List.getElem_cons_succ]
        refine wpAnyH_take (i := 4) (v := .agg (arL 16 (rk f r)).toArray) rfl (by kernel_rfl) (by kernel_rfl) (by kernel_rfl) (fun _ _ _ h => h) (yieldsIf_load_mid (by rfl) _ _ rfl gE (r * 16) rfl (arL 16 (rk f r)) _ (fun W hSw => hSw) Tryd.arr16b rfl (size16b _)) (by assumption) ?_
        simp only [Act.put, List.setIfInBounds_toArray, List.set_cons_zero, List.set_cons_succ, List.getElem_toArray, List.getElem_cons_zero, List.getElem_cons_succ]
        refine wpAnyH_ready (rs := [0]) (by kernel_rfl) (by simp) ?_
        refine AllReadyH.cons rfl (fun K hK => ?_) AllReadyH.nil
        rw [if_pos (by rfl)]
        refine wp_load_mid _ _ rfl gT 0 rfl (arL 16 (tr Y)) _ hTd.range Tryd.arrG rfl (sizeG _) ?_
        refine hK.out _ _ hHeld (fun hHeld => ?_)
        clear hK K
        try simp only [Act.put, List.setIfInBounds_toArray, List.set_cons_zero, List.set_cons_succ, List.getElem_toArray, List.getElem_cons_zero]
        refine wpAnyH_ready (rs := [5]) (by kernel_rfl) (by simp) ?_
        refine AllReadyH.cons rfl (fun K hK => ?_) AllReadyH.nil
        go_simp
        refine (rAdd Y (rk f r) _ HM.out (hrk.out r)).mono ?_
        rintro e w16 ⟨rfl, hq⟩
        go_wp2_with fail
        refine hK.out _ _ (row_kept hHeld hq) (fun hHeld => ?_)
        clear hK K
        have hTw16 := hTd.to (by omega) hq
        have hRw16 := hRd.to (by omega) hq
        have hEw16 := hEd.to (by omega) hq
        have hBw16 := hBd.trans (hq.mono hBd.size)
        clear hq hTd hRd hEd hBd
        try simp only [Act.put, List.setIfInBounds_toArray, List.set_cons_zero, List.set_cons_succ, List.getElem_toArray, List.getElem_cons_zero, List.getElem_cons_succ]
        refine wpAnyH_ready (rs := [6]) (by kernel_rfl) (by simp) ?_
        refine AllReadyH.cons rfl (fun K hK => ?_) AllReadyH.nil
        rw [if_pos (by rfl)]
        refine wp_store_mid _ _ _ rfl gT 0 _ rfl rfl (by rw [List.size_toArray, arL_len]; exact hTw16.there) (by rw [List.size_toArray]; exact sizeG _) (all_oneCell_toArray (arL_one 16 (tr (adF Y (rk f r))))) ?_
        have hTw17 := hTw16.whole (tr (adF Y (rk f r)))
        have hBw17 := hBw16.trans (Below.setCells (Below.refl w.heap.size _) (b := gT) (by omega) (arL 16 (tr (adF Y (rk f r)))) 0)
        have hRw17 := hRw16.apart (b := gT) (by omega) (arL 16 (tr (adF Y (rk f r)))) 0
        have hEw17 := hEw16.apart (b := gT) (by omega) (arL 16 (tr (adF Y (rk f r)))) 0
        dsimp only [List.toList_toArray]
        generalize World.setCells w16 gT 0 (arL 16 (tr (adF Y (rk f r)))) = w17 at *
        refine hK.out _ _ (by have q := hEw17.rangeO (r * 16) 16 (by omega); rwa [hrow.out r (by omega)] at q) (fun hHeld => ?_)
        clear hK K hTw16 hRw16 hEw16 hBw16 hHeld
        try simp only [Act.put]
        refine wpAnyH_done (by kernel_rfl) ?_ _
        rw [hst.out] at hTw17
        clear i2
        go_wp2_with fail
        go_roundw
        case rel => exact ⟨r + 1, by omega, by omega, by go_num, by rw [Nat.add_sub_cancel]; exact hTw17, hRw17, hEw17, hBw17⟩
        case measure => simp [intOf]; try omega
      · obtain rfl : r = 10 := by omega
        have hst := Lib.hid hlast.out
        rw [show 10 - 1 = 9 from rfl] at *
        generalize shF (suF (enR f b 9)) = Y at *
        go_wp2_with (first
          | (refine wpList_store_ar rfl _ _ _ rfl _ _ _ (tr Y) rfl rfl hT2 (sizeG _) ?_; intro w14 hT5 hb5 hs5 hk5)
          | fail)
        have hR5 := hk5 _ _ _ (by omega) hR2
        have hE5 := hk5 _ _ _ (by omega) hE2
        have hB5 := hB2.trans (hb5.mono (by omega))
        clear hT2 hR2 hE2 hB2 hb5 hs5 hk5
        have HM := HS
        clear HS
        have rE := hE5.rangeO (160) 16 (by omega)
        rw [hrow.out 10 (by omega)] at rE
        have hTd := hT5.drew
        have hRd := hR5.drew
        have hEd := hE5.drew
        have hBd := hB5.drew
        clear hT5 hR5 hE5 hB5
        refine wp_region_held_drew (S := fun W => W.rangeAt gE (160) (arL 16 (rk f 10))) (by kernel_rfl) (by rwa [World.rangeAt_drew]) (fun hHeld => ?_)
        clear rE
        generalize w14.drew = wd at *
        refine wpAnyH_take (i := 1) (v := ?vcb1) rfl (by kernel_rfl) (by kernel_rfl) (by kernel_rfl) (fun _ _ _ h => h) (Or.inl ⟨by rfl, ?hycb1⟩) (by assumption) ?restcb1
        case hycb1 =>
          intro W hSw
          go_simp
          try with_reducible rfl
        simp only [Act.put, List.setIfInBounds_toArray, List.set_cons_zero, List.set_cons_succ, List.getElem_toArray, List.getElem_cons_zero, List.getElem_cons_succ]
        refine wpAnyH_take (i := 2) (v := ?vcb2) rfl (by kernel_rfl) (by kernel_rfl) (by kernel_rfl) (fun _ _ _ h => h) (Or.inl ⟨by rfl, ?hycb2⟩) (by assumption) ?restcb2
        case hycb2 =>
          intro W hSw
          go_simp
          try with_reducible rfl
        simp only [Act.put, List.setIfInBounds_toArray, List.set_cons_zero, List.set_cons_succ, List.getElem_toArray, List.getElem_cons_zero, List.getElem_cons_succ]
        refine wpAnyH_take (i := 3) (v := ?vcb3) rfl (by kernel_rfl) (by kernel_rfl) (by kernel_rfl) (fun _ _ _ h => h) (Or.inl ⟨by rfl, ?hycb3⟩) (by assumption) ?restcb3
        case hycb3 =>
          intro W hSw
          go_simp
          try with_reducible rfl
        simp only [Act.put, List.setIfInBounds_toArray, List.set_cons_zero, List.set_cons_succ, List.getElem_toArray, List.getElem_cons_zero, List.getElem_cons_succ]
        refine wpAnyH_take (i := 4) (v := .agg (arL 16 (rk f 10)).toArray) rfl (by kernel_rfl) (by kernel_rfl) (by kernel_rfl) (fun _ _ _ h => h) (yieldsIf_load_mid (by rfl) _ _ rfl gE (160) rfl (arL 16 (rk f 10)) _ (fun W hSw => hSw) Tryd.arr16b rfl (size16b _)) (by assumption) ?_
        simp only [Act.put, List.setIfInBounds_toArray, List.set_cons_zero, List.set_cons_succ, List.getElem_toArray, List.getElem_cons_zero, List.getElem_cons_succ]
        refine wpAnyH_ready (rs := [0]) (by kernel_rfl) (by simp) ?_
        refine AllReadyH.cons rfl (fun K hK => ?_) AllReadyH.nil
        rw [if_pos (by rfl)]
        refine wp_load_mid _ _ rfl gT 0 rfl (arL 16 (tr Y)) _ hTd.range Tryd.arrG rfl (sizeG _) ?_
        refine hK.out _ _ hHeld (fun hHeld => ?_)
        clear hK K
        try simp only [Act.put, List.setIfInBounds_toArray, List.set_cons_zero, List.set_cons_succ, List.getElem_toArray, List.getElem_cons_zero]
        refine wpAnyH_ready (rs := [5]) (by kernel_rfl) (by simp) ?_
        refine AllReadyH.cons rfl (fun K hK => ?_) AllReadyH.nil
        go_simp
        refine (rAdd Y (rk f 10) _ HM.out (hrk.out 10)).mono ?_
        rintro e w16 ⟨rfl, hq⟩
        go_wp2_with fail
        refine hK.out _ _ (row_kept hHeld hq) (fun hHeld => ?_)
        clear hK K
        have hTw16 := hTd.to (by omega) hq
        have hRw16 := hRd.to (by omega) hq
        have hEw16 := hEd.to (by omega) hq
        have hBw16 := hBd.trans (hq.mono hBd.size)
        clear hq hTd hRd hEd hBd
        try simp only [Act.put, List.setIfInBounds_toArray, List.set_cons_zero, List.set_cons_succ, List.getElem_toArray, List.getElem_cons_zero, List.getElem_cons_succ]
        refine wpAnyH_ready (rs := [6]) (by kernel_rfl) (by simp) ?_
        refine AllReadyH.cons rfl (fun K hK => ?_) AllReadyH.nil
        rw [if_pos (by rfl)]
        refine wp_store_mid _ _ _ rfl gT 0 _ rfl rfl (by rw [List.size_toArray, arL_len]; exact hTw16.there) (by rw [List.size_toArray]; exact sizeG _) (all_oneCell_toArray (arL_one 16 (tr (adF Y (rk f 10))))) ?_
        have hTw17 := hTw16.whole (tr (adF Y (rk f 10)))
        have hBw17 := hBw16.trans (Below.setCells (Below.refl w.heap.size _) (b := gT) (by omega) (arL 16 (tr (adF Y (rk f 10)))) 0)
        have hRw17 := hRw16.apart (b := gT) (by omega) (arL 16 (tr (adF Y (rk f 10)))) 0
        have hEw17 := hEw16.apart (b := gT) (by omega) (arL 16 (tr (adF Y (rk f 10)))) 0
        dsimp only [List.toList_toArray]
        generalize World.setCells w16 gT 0 (arL 16 (tr (adF Y (rk f 10)))) = w17 at *
        refine hK.out _ _ (by have q := hEw17.rangeO (160) 16 (by omega); rwa [hrow.out 10 (by omega)] at q) (fun hHeld => ?_)
        clear hK K hTw16 hRw16 hEw16 hBw16 hHeld
        try simp only [Act.put]
        refine wpAnyH_done (by kernel_rfl) ?_ _
        rw [hst.out] at hTw17
        clear i2
        go_wp2_with fail
        go_roundw
        case rel => exact ⟨10 + 1, by omega, by omega, by go_num, by rw [Nat.add_sub_cancel]; exact hTw17, hRw17, hEw17, hBw17⟩
        case measure => simp [intOf]; try omega
    · obtain rfl : r = 11 := by omega
      go_wp2_with (refine wpList_load_ar rfl _ _ rfl _ _ _ rfl hT0 Tryd.arrG (sizeG _) ?_)
      refine (rBlock (enR f b 10) _).mono ?_
      rintro e w10 ⟨rfl, hq⟩
      have hR1 := hR0.to (by omega) hq
      have hB1 := hB0.trans (hq.mono hB0.size)
      clear hT0 hR0 hE0 hB0 hq
      go_wp2_with (refine wpList_store_ar rfl _ _ _ rfl _ _ _ (enR f b 10) rfl rfl hR1 (size16b _) ?_; intro w15 hR2 hb2 hs2 hk2)
      refine bodyPost_ret_ar rfl rfl hR2 Tryd.arr16b (size16b _) rfl ⟨rfl, hB1.trans (hb2.mono (by omega))⟩
end Go.Proofs.YtghcpfcomhfppaaDoor
