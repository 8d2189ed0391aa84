/-
  Contract of cipher.Encrypt, by a walk through its text, over the contracts of the steps; what was there stays as it was.
-/
import Derived.Test.YtghcpfcomhfppaaDoorCfe
import Derived.Test.YtghcpfcomhfppaaDoorKeg
import Derived.Test.YtghcpfcomhfppaaDoorFre
import Derived.Deep.RegionHeld3
namespace Go.Proofs.YtghcpfcomhfppaaDoor
open Go.RowKit
set_option linter.unusedVariables false
set_option maxRecDepth 100000

set_option maxHeartbeats 4000000 in
theorem cencrypt (f b : Nat → Nat) (w : World) (hf : B16 f) (hb : B16 b) (h : Boxes w) :
    Calls Tryd.prog 9 #[.agg (arL 16 f).toArray, .agg (arL 16 b).toArray] w fun e w' => e = .returned (.agg (arL 16 (enF f b)).toArray) ∧ Below w.heap.size w w' := by
  have hz := zero16b
  have hz176 := zero176e
  obtain ⟨kA, hkA⟩ : ∃ kA : Array Value, (arL 16 f).toArray = kA := ⟨_, rfl⟩
  obtain ⟨kB, hkB⟩ : ∃ kB : Array Value, (arL 16 b).toArray = kB := ⟨_, rfl⟩
  obtain ⟨w1, hw1⟩ : ∃ w1 : World, w1 = w.alloc (.cells (arL 16 f).toArray 22) := ⟨_, rfl⟩
  have hs1 : w1.heap.size = w.heap.size + 1 := by rw [hw1]; simp
  have hb1 : Below w.heap.size w w1 := by rw [hw1]; exact (Below.refl _ _).alloc (Nat.le_refl _) _
  have hK1 : Ar w1 w.heap.size 16 f := by rw [hw1]; exact Ar.new w 16 f _
  obtain ⟨w2, hw2⟩ : ∃ w2 : World, w2 = w1.alloc (.cells (arL 16 b).toArray 22) := ⟨_, rfl⟩
  have hs2 : w2.heap.size = w.heap.size + 2 := by rw [hw2]; simp [hs1]
  have hb2 : Below w.heap.size w w2 := by rw [hw2]; exact hb1.alloc (by omega) _
  have hC2 : Ar w2 (w.heap.size + 1) 16 b := by rw [hw2, ← hs1]; exact Ar.new w1 16 b _
  have hK2 : Ar w2 w.heap.size 16 f := by rw [hw2]; exact hK1.alloc (by omega) _
  obtain ⟨w3, hw3⟩ : ∃ w3 : World, w3 = w2.alloc (.cells (arL 16 fun _ => 0).toArray 22) := ⟨_, rfl⟩
  have hB3 : Below w.heap.size w w3 := by rw [hw3]; exact hb2.alloc (by omega) _
  have hR3 : Ar w3 (w.heap.size + 2) 16 (fun _ => 0) := by rw [hw3, ← hs2]; exact Ar.new w2 16 _ _
  have hC3 : Ar w3 (w.heap.size + 1) 16 b := by rw [hw3]; exact hC2.alloc (by omega) _
  have hK3 : Ar w3 w.heap.size 16 f := by rw [hw3]; exact hK2.alloc (by omega) _
  have HKA := Lib.hid hkA
  have HKB := Lib.hid hkB
  rw [hkA] at hw1
  rw [hkB] at hw2
  rw [hkA, hkB]
  clear hb1 hK1 hkA hkB hb2 hK2 hC2
  have HF := Lib.hid hf
  have HBB := Lib.hid hb
  have HX := Lib.hid h
  have hrow := Lib.hid (fun r => arL_ext (n := 16) (f := fun j => ek f (r * 16 + j)) (g := rk f r) (fun j hj => by rw [Nat.mul_comm r 16, ek_rk f r j hj]))
  have hrk := Lib.hid (fun r => rk_lt f hf r)
  clear hf hb h
  go_enter Tryd.func9, Tryd.ntmps9
  go_upto_region 1 with fail
  rw [← hw1, ← hw2, ← hw3]
  clear hw1 hw2 hw3 hs1 hs2
  obtain ⟨gC, hgC⟩ : ∃ gC : Nat, w.heap.size + 1 = gC := ⟨_, rfl⟩
  obtain ⟨gR, hgR⟩ : ∃ gR : Nat, w.heap.size + 2 = gR := ⟨_, rfl⟩
  have hlC : w.heap.size < gC := by omega
  have hlR : gC < gR := by omega
  have hgR2 : w.heap.size + 1 + 1 = gR := hgR
  rw [hgC] at hC3
  rw [hgR] at hR3
  try rw [hgR2]
  try rw [hgR]
  try rw [hgC]
  clear hgC hgR hgR2
  go_wp2_with (refine wpList_load_ar rfl _ _ rfl _ _ _ rfl hK3 Tryd.arr16b (size16b _) ?_)
  refine (kexpand f HF.out _ (HX.out.keep hB3)).mono ?_
  rintro e w4 ⟨rfl, hq⟩
  have hC4 := hC3.to (by omega) hq
  have hR4 := hR3.to (by omega) hq
  have hB4 := hB3.trans (hq.mono hB3.size)
  clear hC3 hR3 hK3 hB3 hq
  obtain ⟨gE, hgE⟩ : ∃ gE : Nat, w4.heap.size = gE := ⟨_, rfl⟩
  have hlE : gR < gE := by rw [← hgE]; exact hR4.lt (by omega)
  obtain ⟨w5, hw5⟩ : ∃ w5 : World, w5 = w4.alloc (.cells (arL 176 fun _ => 0).toArray 26) := ⟨_, rfl⟩
  have hC5 : Ar w5 gC 16 b := by rw [hw5]; exact hC4.alloc (by omega) _
  have hR5 : Ar w5 gR 16 (fun _ => 0) := by rw [hw5]; exact hR4.alloc (by omega) _
  have hE5 : Ar w5 gE 176 (fun _ => 0) := by rw [hw5, ← hgE]; exact Ar.new w4 176 _ _
  have hB5 : Below w.heap.size w w5 := by rw [hw5]; exact hB4.alloc hB4.size _
  clear hC4 hR4 hB4
  go_upto_region 2 with (first
    | (refine wpList_store_ar rfl _ _ _ rfl _ _ _ (ek f) rfl rfl (by rw [← hw5]; exact hE5) (size176e _) ?_; intro w6 hE6 hb6 hs6 hk6)
    | fail)
  rw [← hw5] at hb6 hs6 hk6
  have hC6 := hk6 _ _ _ (by omega) hC5
  have hR6 := hk6 _ _ _ (by omega) hR5
  have hB6 := hB5.trans (hb6.mono (by omega))
  clear hC5 hR5 hE5 hB5 hb6 hs6 hk6 hw5 hgE
  try dsimp only [Act.put]
  have hr0 := Lib.hid (show arL 16 (fun j => ek f j) = arL 16 (rk f 0) from arL_ext (fun j hj => by have := ek_rk f 0 j hj; rwa [Nat.mul_zero, Nat.zero_add] at this))
  go_wp2_with (first
    | (refine wpList_load_ar rfl _ _ rfl _ _ _ rfl hC6 Tryd.arr16b (size16b _) ?_)
    | (refine wpList_load_arO rfl _ _ rfl _ 176 0 16 _ rfl hE6 (by omega) Tryd.arr16b (size16b _) ?_))
  rw [hr0.out]
  refine (cadd b (rk f 0) _ HBB.out (hrk.out 0)).mono ?_
  rintro e w7 ⟨rfl, hq⟩
  rw [show adF b (rk f 0) = enR f b 0 from rfl]
  have hC7 := hC6.to (by omega) hq
  have hR7 := hR6.to (by omega) hq
  have hE7 := hE6.to (by omega) hq
  have hB7 := hB6.trans (hq.mono hB6.size)
  clear hC6 hR6 hE6 hB6 hq hr0
  go_wp2_with (refine wpList_store_ar rfl _ _ _ rfl _ _ _ (enR f b 0) rfl rfl hC7 (size16b _) ?_; intro w8 hC8 hb8 hs8 hk8)
  have hR8 := hk8 _ _ _ (by omega) hR7
  have hE8 := hk8 _ _ _ (by omega) hE7
  have hB8 := hB7.trans (hb8.mono (by omega))
  clear hC7 hR7 hE7 hB7 hb8 hs8 hk8
  have hel := Lib.hid (enR_lt HF.out HBB.out)
  have hstep := Lib.hid (show ∀ r, 1 ≤ r → r < 10 → adF (miF (shF (suF (enR f b (r - 1))))) (rk f r) = enR f b r from fun r h1 h2 => by
    obtain ⟨s, rfl⟩ : ∃ s, r = s + 1 := ⟨r - 1, by omega⟩
    rw [enR, if_pos h2, Nat.add_sub_cancel])
  have hlast := Lib.hid (show adF (shF (suF (enR f b 9))) (rk f 10) = enF f b from rfl)
  go_loopw [6] (fun i wr => ∃ r : Nat, 1 ≤ r ∧ r ≤ 10 ∧ i = .int .i64 r ∧ Ar wr gC 16 (enR f b (r - 1)) ∧ Ar wr gR 16 (fun _ => 0) ∧ Ar wr gE 176 (ek f) ∧ Below w.heap.size w wr) (fun i _ => 10 - (intOf i).toNat)
  case atStart => exact ⟨1, by omega, by omega, rfl, hC8, hR8, hE8, hB8⟩
  case round =>
    clear hC8 hR8 hE8 hB8
    obtain ⟨r, hr1, hr, rfl, hC0, hR0, hE0, hB0⟩ := hrel
    by_cases hlt : r < 10
    · have i1 : (r : Int) < 10 := by omega
      have i2 : (r : Int) < 11 := by omega
      go_wp2_with fail
      have rE := hE0.rangeO (r * 16) 16 (by omega)
      rw [hrow.out] at rE
      have hCd := hC0.drew
      have hRd := hR0.drew
      have hEd := hE0.drew
      have hBd := hB0.drew
      clear hC0 hR0 hE0 hB0
      refine wp_region_held_drew (S := fun W => W.rangeAt gE (r * 16) (arL 16 (rk f r))) (by kernel_rfl) (by rwa [World.rangeAt_drew]) (fun hHeld => ?_)
      clear rE
      generalize wr.drew = wd at *
      refine wpAnyH_take (i := 4) (v := ?va4) rfl (by kernel_rfl) (by kernel_rfl) (by kernel_rfl) (fun _ _ _ h => h) (Or.inl ⟨by rfl, ?hya4⟩) (by assumption) ?resta4
      case hya4 =>
        intro W hSw
        go_simp
        try with_reducible rfl
      simp only [Act.put, List.setIfInBounds_toArray, List.set_cons_zero, List.set_cons_succ, List.getElem_toArray, List.getElem_cons_zero, List.getElem_cons_succ]
      refine wpAnyH_take (i := 5) (v := ?va5) rfl (by kernel_rfl) (by kernel_rfl) (by kernel_rfl) (fun _ _ _ h => h) (Or.inl ⟨by rfl, ?hya5⟩) (by assumption) ?resta5
      case hya5 =>
        intro W hSw
        go_simp
        try with_reducible rfl
      simp only [Act.put, List.setIfInBounds_toArray, List.set_cons_zero, List.set_cons_succ, List.getElem_toArray, List.getElem_cons_zero, List.getElem_cons_succ]
      refine wpAnyH_take (i := 6) (v := .agg (arL 16 (rk f r)).toArray) rfl (by kernel_rfl) (by kernel_rfl) (by kernel_rfl) (fun _ _ _ h => h) (yieldsIf_load_mid (by rfl) _ _ rfl gE (r * 16) rfl (arL 16 (rk f r)) _ (fun W hSw => hSw) Tryd.arr16b rfl (size16b _)) (by assumption) ?_
      simp only [Act.put, List.setIfInBounds_toArray, List.set_cons_zero, List.set_cons_succ, List.getElem_toArray, List.getElem_cons_zero, List.getElem_cons_succ]
      refine wpAnyH_ready (rs := [0]) (by kernel_rfl) (by simp) ?_
      refine AllReadyH.cons rfl (fun K hK => ?_) AllReadyH.nil
      rw [if_pos (by rfl)]
      refine wp_load_mid _ _ rfl gC 0 rfl (arL 16 (enR f b (r - 1))) _ hCd.range Tryd.arr16b rfl (size16b _) ?_
      refine hK.out _ _ hHeld (fun hHeld => ?_)
      clear hK K
      try simp only [Act.put, List.setIfInBounds_toArray, List.set_cons_zero, List.set_cons_succ, List.getElem_toArray, List.getElem_cons_zero]
      refine wpAnyH_ready (rs := [1]) (by kernel_rfl) (by simp) ?_
      refine AllReadyH.cons rfl (fun K hK => ?_) AllReadyH.nil
      go_simp
      refine (csub (enR f b (r - 1)) _ (hel.out _) (HX.out.keep hBd)).mono ?_
      rintro e w10 ⟨rfl, hq⟩
      go_wp2_with fail
      refine hK.out _ _ (row_kept hHeld hq) (fun hHeld => ?_)
      clear hK K
      have hCw10 := hCd.to (by omega) hq
      have hRw10 := hRd.to (by omega) hq
      have hEw10 := hEd.to (by omega) hq
      have hBw10 := hBd.trans (hq.mono hBd.size)
      clear hq hCd hRd hEd hBd
      try simp only [Act.put, List.setIfInBounds_toArray, List.set_cons_zero, List.set_cons_succ, List.getElem_toArray, List.getElem_cons_zero, List.getElem_cons_succ]
      refine wpAnyH_ready (rs := [2]) (by kernel_rfl) (by simp) ?_
      refine AllReadyH.cons rfl (fun K hK => ?_) AllReadyH.nil
      go_simp
      refine (cshift (suF (enR f b (r - 1))) _).mono ?_
      rintro e w11 ⟨rfl, hq⟩
      go_wp2_with fail
      refine hK.out _ _ (row_kept hHeld hq) (fun hHeld => ?_)
      clear hK K
      have hCw11 := hCw10.to (by omega) hq
      have hRw11 := hRw10.to (by omega) hq
      have hEw11 := hEw10.to (by omega) hq
      have hBw11 := hBw10.trans (hq.mono hBw10.size)
      clear hq hCw10 hRw10 hEw10 hBw10
      try simp only [Act.put, List.setIfInBounds_toArray, List.set_cons_zero, List.set_cons_succ, List.getElem_toArray, List.getElem_cons_zero, List.getElem_cons_succ]
      refine wpAnyH_ready (rs := [3]) (by kernel_rfl) (by simp) ?_
      refine AllReadyH.cons rfl (fun K hK => ?_) AllReadyH.nil
      go_simp
      refine (cmix (shF (suF (enR f b (r - 1)))) _ (shF_lt (suF_lt _))).mono ?_
      rintro e w12 ⟨rfl, hq⟩
      go_wp2_with fail
      refine hK.out _ _ (row_kept hHeld hq) (fun hHeld => ?_)
      clear hK K
      have hCw12 := hCw11.to (by omega) hq
      have hRw12 := hRw11.to (by omega) hq
      have hEw12 := hEw11.to (by omega) hq
      have hBw12 := hBw11.trans (hq.mono hBw11.size)
      clear hq hCw11 hRw11 hEw11 hBw11
      try simp only [Act.put, List.setIfInBounds_toArray, List.set_cons_zero, List.set_cons_succ, List.getElem_toArray, List.getElem_cons_zero, List.getElem_cons_succ]
      refine wpAnyH_ready (rs := [7]) (by kernel_rfl) (by simp) ?_
      refine AllReadyH.cons rfl (fun K hK => ?_) AllReadyH.nil
      go_simp
      refine (cadd (miF (shF (suF (enR f b (r - 1))))) (rk f r) _ (miF_lt _) (hrk.out r)).mono ?_
      rintro e w13 ⟨rfl, hq⟩
      go_wp2_with fail
      refine hK.out _ _ (row_kept hHeld hq) (fun hHeld => ?_)
      clear hK K
      have hCw13 := hCw12.to (by omega) hq
      have hRw13 := hRw12.to (by omega) hq
      have hEw13 := hEw12.to (by omega) hq
      have hBw13 := hBw12.trans (hq.mono hBw12.size)
      clear hq hCw12 hRw12 hEw12 hBw12
      try simp only [Act.put, List.setIfInBounds_toArray, List.set_cons_zero, List.set_cons_succ, List.getElem_toArray, List.getElem_cons_zero, List.getElem_cons_succ]
      refine wpAnyH_ready (rs := [8]) (by kernel_rfl) (by simp) ?_
      refine AllReadyH.cons rfl (fun K hK => ?_) AllReadyH.nil
      rw [if_pos (by rfl)]
      refine wp_store_mid _ _ _ rfl gC 0 _ rfl rfl (by rw [List.size_toArray, arL_len]; exact hCw13.there) (by rw [List.size_toArray]; exact size16b _) (all_oneCell_toArray (arL_one 16 (adF (miF (shF (suF (enR f b (r - 1))))) (rk f r)))) ?_
      have hCw14 := hCw13.whole (adF (miF (shF (suF (enR f b (r - 1))))) (rk f r))
      have hBw14 := hBw13.trans (Below.setCells (Below.refl w.heap.size _) (b := gC) (by omega) (arL 16 (adF (miF (shF (suF (enR f b (r - 1))))) (rk f r))) 0)
      have hRw14 := hRw13.apart (b := gC) (by omega) (arL 16 (adF (miF (shF (suF (enR f b (r - 1))))) (rk f r))) 0
      have hEw14 := hEw13.apart (b := gC) (by omega) (arL 16 (adF (miF (shF (suF (enR f b (r - 1))))) (rk f r))) 0
      dsimp only [List.toList_toArray]
      generalize World.setCells w13 gC 0 (arL 16 (adF (miF (shF (suF (enR f b (r - 1))))) (rk f r))) = w14 at *
      refine hK.out _ _ (by have q := hEw14.rangeO (r * 16) 16 (by omega); rwa [hrow.out] at q) (fun hHeld => ?_)
      clear hK K hCw13 hRw13 hEw13 hBw13 hHeld
      try simp only [Act.put]
      refine wpAnyH_done (by kernel_rfl) ?_ _
      rw [hstep.out r hr1 hlt] at hCw14
      clear i2
      go_wp2_with fail
      go_roundw
      case rel => exact ⟨r + 1, by omega, by omega, by go_num, by rw [Nat.add_sub_cancel]; exact hCw14, hRw14, hEw14, hBw14⟩
      case measure => simp [intOf]; omega
    · obtain rfl : r = 10 := by omega
      have rE := hE0.rangeO (10 * 16) 16 (by omega)
      rw [hrow.out] at rE
      have hCd := hC0.drew
      have hRd := hR0.drew
      have hEd := hE0.drew
      have hBd := hB0.drew
      clear hC0 hR0 hE0 hB0
      go_wp2_with fail
      refine wp_region_held_drew (S := fun W => W.rangeAt gE 160 (arL 16 (rk f 10))) (by kernel_rfl) (by rwa [World.rangeAt_drew]) (fun hHeld => ?_)
      clear rE
      generalize wr.drew = wd at *
      refine wpAnyH_take (i := 3) (v := ?vb3) rfl (by kernel_rfl) (by kernel_rfl) (by kernel_rfl) (fun _ _ _ h => h) (Or.inl ⟨by rfl, ?hyb3⟩) (by assumption) ?restb3
      case hyb3 =>
        intro W hSw
        go_simp
        try with_reducible rfl
      simp only [Act.put, List.setIfInBounds_toArray, List.set_cons_zero, List.set_cons_succ, List.getElem_toArray, List.getElem_cons_zero, List.getElem_cons_succ]
      refine wpAnyH_take (i := 4) (v := .agg (arL 16 (rk f 10)).toArray) rfl (by kernel_rfl) (by kernel_rfl) (by kernel_rfl) (fun _ _ _ h => h) (yieldsIf_load_mid (by rfl) _ _ rfl gE 160 rfl (arL 16 (rk f 10)) _ (fun W hSw => hSw) Tryd.arr16b rfl (size16b _)) (by assumption) ?_
      simp only [Act.put, List.setIfInBounds_toArray, List.set_cons_zero, List.set_cons_succ, List.getElem_toArray, List.getElem_cons_zero, List.getElem_cons_succ]
      refine wpAnyH_ready (rs := [0]) (by kernel_rfl) (by simp) ?_
      refine AllReadyH.cons rfl (fun K hK => ?_) AllReadyH.nil
      rw [if_pos (by rfl)]
      refine wp_load_mid _ _ rfl gC 0 rfl (arL 16 (enR f b 9)) _ hCd.range Tryd.arr16b rfl (size16b _) ?_
      refine hK.out _ _ hHeld (fun hHeld => ?_)
      clear hK K
      try simp only [Act.put, List.setIfInBounds_toArray, List.set_cons_zero, List.set_cons_succ, List.getElem_toArray, List.getElem_cons_zero]
      refine wpAnyH_ready (rs := [1]) (by kernel_rfl) (by simp) ?_
      refine AllReadyH.cons rfl (fun K hK => ?_) AllReadyH.nil
      go_simp
      refine (csub (enR f b 9) _ (hel.out _) (HX.out.keep hBd)).mono ?_
      rintro e w10 ⟨rfl, hq⟩
      go_wp2_with fail
      refine hK.out _ _ (row_kept hHeld hq) (fun hHeld => ?_)
      clear hK K
      have hCw10 := hCd.to (by omega) hq
      have hRw10 := hRd.to (by omega) hq
      have hEw10 := hEd.to (by omega) hq
      have hBw10 := hBd.trans (hq.mono hBd.size)
      clear hq hCd hRd hEd hBd
      try simp only [Act.put, List.setIfInBounds_toArray, List.set_cons_zero, List.set_cons_succ, List.getElem_toArray, List.getElem_cons_zero, List.getElem_cons_succ]
      refine wpAnyH_ready (rs := [2]) (by kernel_rfl) (by simp) ?_
      refine AllReadyH.cons rfl (fun K hK => ?_) AllReadyH.nil
      go_simp
      refine (cshift (suF (enR f b 9)) _).mono ?_
      rintro e w11 ⟨rfl, hq⟩
      go_wp2_with fail
      refine hK.out _ _ (row_kept hHeld hq) (fun hHeld => ?_)
      clear hK K
      have hCw11 := hCw10.to (by omega) hq
      have hRw11 := hRw10.to (by omega) hq
      have hEw11 := hEw10.to (by omega) hq
      have hBw11 := hBw10.trans (hq.mono hBw10.size)
      clear hq hCw10 hRw10 hEw10 hBw10
      try simp only [Act.put, List.setIfInBounds_toArray, List.set_cons_zero, List.set_cons_succ, List.getElem_toArray, List.getElem_cons_zero, List.getElem_cons_succ]
      refine wpAnyH_ready (rs := [5]) (by kernel_rfl) (by simp) ?_
      refine AllReadyH.cons rfl (fun K hK => ?_) AllReadyH.nil
      go_simp
      refine (cadd (shF (suF (enR f b 9))) (rk f 10) _ (shF_lt (suF_lt _)) (hrk.out 10)).mono ?_
      rintro e w13 ⟨rfl, hq⟩
      go_wp2_with fail
      refine hK.out _ _ (row_kept hHeld hq) (fun hHeld => ?_)
      clear hK K
      have hCw13 := hCw11.to (by omega) hq
      have hRw13 := hRw11.to (by omega) hq
      have hEw13 := hEw11.to (by omega) hq
      have hBw13 := hBw11.trans (hq.mono hBw11.size)
      clear hq hCw11 hRw11 hEw11 hBw11
      try simp only [Act.put, List.setIfInBounds_toArray, List.set_cons_zero, List.set_cons_succ, List.getElem_toArray, List.getElem_cons_zero, List.getElem_cons_succ]
      refine wpAnyH_ready (rs := [6]) (by kernel_rfl) (by simp) ?_
      refine AllReadyH.cons rfl (fun K hK => ?_) AllReadyH.nil
      rw [if_pos (by rfl)]
      refine wp_store_mid _ _ _ rfl gR 0 _ rfl rfl (by rw [List.size_toArray, arL_len]; exact hRw13.there) (by rw [List.size_toArray]; exact size16b _) (all_oneCell_toArray (arL_one 16 (adF (shF (suF (enR f b 9))) (rk f 10)))) ?_
      have hRw14 := hRw13.whole (adF (shF (suF (enR f b 9))) (rk f 10))
      have hBw14 := hBw13.trans (Below.setCells (Below.refl w.heap.size _) (b := gR) (by omega) (arL 16 (adF (shF (suF (enR f b 9))) (rk f 10))) 0)
      have hCw14 := hCw13.apart (b := gR) (by omega) (arL 16 (adF (shF (suF (enR f b 9))) (rk f 10))) 0
      have hEw14 := hEw13.apart (b := gR) (by omega) (arL 16 (adF (shF (suF (enR f b 9))) (rk f 10))) 0
      dsimp only [List.toList_toArray]
      generalize World.setCells w13 gR 0 (arL 16 (adF (shF (suF (enR f b 9))) (rk f 10))) = w14 at *
      refine hK.out _ _ (by have q := hEw14.rangeO (10 * 16) 16 (by omega); rwa [hrow.out] at q) (fun hHeld => ?_)
      clear hK K hCw13 hRw13 hEw13 hBw13 hHeld
      try simp only [Act.put]
      refine wpAnyH_done (by kernel_rfl) ?_ _
      rw [hlast.out] at hRw14
      go_wp2_with fail
      refine bodyPost_ret_ar rfl rfl hRw14 Tryd.arr16b (size16b _) rfl ⟨rfl, hBw14⟩
end Go.Proofs.YtghcpfcomhfppaaDoor
