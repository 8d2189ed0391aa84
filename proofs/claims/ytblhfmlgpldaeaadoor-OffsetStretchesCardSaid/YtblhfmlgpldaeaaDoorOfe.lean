/-
  Contracts of the reference package of layer 10, by walks through its texts; what was there stays as it was.
-/
import Derived.Test.YtblhfmlgpldaeaaDoorOfd
import Derived.Test.YtblhfmlgpldaeaaDoorTbd
namespace Go.Proofs.YtblhfmlgpldaeaaDoor
open Go.RowKit
set_option linter.unusedVariables false
set_option maxRecDepth 100000

theorem rshift (t : Nat → Nat) (b : Nat) (w : World) (ht : B16 t) :
    Calls Tryd.prog 23 #[.agg (arL 24 (stF t)).toArray, .int .i64 (b % 64 : Nat)] w fun e w' => e = .returned (.agg (arL 16 (o0F t b)).toArray) ∧ Below w.heap.size w w' := refshift8 (stF t) (b % 64) w (stF_lt ht) (by omega)
theorem nb_step (n : Nat → Nat) (k j : Nat) : (if j = 4 + k then n k else if 4 ≤ j ∧ j < 4 + k then n (j - 4) else if j = 3 then 1 else 0) = if 4 ≤ j ∧ j < 4 + (k + 1) then n (j - 4) else if j = 3 then 1 else 0 := by
  by_cases h : j = 4 + k
  · rw [if_pos h, if_pos (by omega), show j - 4 = k by omega]
  · rw [if_neg h]
    by_cases g : 4 ≤ j ∧ j < 4 + k
    · rw [if_pos g, if_pos (by omega)]
    · rw [if_neg g, if_neg (c := 4 ≤ j ∧ j < 4 + (k + 1)) (by omega)]
theorem nb_last (n : Nat → Nat) (j : Nat) (hj : j < 16) : (if j = 15 then n 11 / 64 * 64 else if 4 ≤ j ∧ j < 4 + 12 then n (j - 4) else if j = 3 then 1 else 0) = nbF n j := by
  unfold nbF lowF
  by_cases h : j = 15
  · subst h; rfl
  · rw [if_neg h]
    by_cases g : 4 ≤ j ∧ j < 16
    · rw [if_pos g, if_pos g, if_neg (by omega)]
    · rw [if_neg g, if_neg g]

set_option maxHeartbeats 4000000 in
theorem rtop (f n : Nat → Nat) (w : World) (hf : B16 f) (hn : B12 n) :
    Calls Tryd.prog 15 #[.agg (arL 432 (pkF (ek f) sb)).toArray, .agg (arL 12 n).toArray] w fun e w' => e = .returned (.agg (arL 16 (enF f (nbF n))).toArray) ∧ Below w.heap.size w w' := by
  obtain ⟨dK, hfs, hrow⟩ := Tryd.structK
  have HS := Lib.hid hfs
  have HW := Lib.hid hrow
  clear hfs hrow
  obtain ⟨kE, hkE⟩ : ∃ k : Array Value, (arL 432 (pkF (ek f) sb)).toArray = k := ⟨_, rfl⟩
  obtain ⟨kK, hkK⟩ : ∃ k : Array Value, (arL 12 (n)).toArray = k := ⟨_, rfl⟩
  obtain ⟨w1, hw1⟩ : ∃ V : World, V = w.alloc (.cells (arL 432 (pkF (ek f) sb)).toArray 32) := ⟨_, rfl⟩
  have hs1 : w1.heap.size = w.heap.size + 1 := by rw [hw1]; simp
  have hBw1 : Below w.heap.size w w1 := by rw [hw1]; exact (Below.refl _ _).alloc (Nat.le_refl _) _
  have hEw1 : Ar w1 w.heap.size 432 (pkF (ek f) sb) := by rw [hw1]; exact Ar.new w 432 _ _
  obtain ⟨w2, hw2⟩ : ∃ V : World, V = w1.alloc (.cells (arL 12 (n)).toArray 23) := ⟨_, rfl⟩
  have hs2 : w2.heap.size = w.heap.size + 2 := by rw [hw2]; simp [hs1]
  have hBw2 : Below w.heap.size w w2 := by rw [hw2]; exact hBw1.alloc (by omega) _
  have hEw2 := hEw1.alloc (by omega) (.cells (arL 12 (n)).toArray 23)
  rw [← hw2] at hEw2
  have hKw2 : Ar w2 (w.heap.size + 1) 12 (n) := by rw [hw2, ← hs1]; exact Ar.new w1 12 _ _
  clear hEw1 hBw1
  obtain ⟨w3, hw3⟩ : ∃ V : World, V = w2.alloc (.cells (arL 16 (fun _ => 0)).toArray 22) := ⟨_, rfl⟩
  have hs3 : w3.heap.size = w.heap.size + 3 := by rw [hw3]; simp [hs2]
  have hBw3 : Below w.heap.size w w3 := by rw [hw3]; exact hBw2.alloc (by omega) _
  have hEw3 := hEw2.alloc (by omega) (.cells (arL 16 (fun _ => 0)).toArray 22)
  rw [← hw3] at hEw3
  have hKw3 := hKw2.alloc (by omega) (.cells (arL 16 (fun _ => 0)).toArray 22)
  rw [← hw3] at hKw3
  have hRw3 : Ar w3 (w.heap.size + 2) 16 (fun _ => 0) := by rw [hw3, ← hs2]; exact Ar.new w2 16 _ _
  clear hEw2 hKw2 hBw2
  obtain ⟨w4, hw4⟩ : ∃ V : World, V = w3.alloc (.cells (arL 16 (fun _ => 0)).toArray 22) := ⟨_, rfl⟩
  have hs4 : w4.heap.size = w.heap.size + 4 := by rw [hw4]; simp [hs3]
  have hBw4 : Below w.heap.size w w4 := by rw [hw4]; exact hBw3.alloc (by omega) _
  have hEw4 := hEw3.alloc (by omega) (.cells (arL 16 (fun _ => 0)).toArray 22)
  rw [← hw4] at hEw4
  have hKw4 := hKw3.alloc (by omega) (.cells (arL 16 (fun _ => 0)).toArray 22)
  rw [← hw4] at hKw4
  have hRw4 := hRw3.alloc (by omega) (.cells (arL 16 (fun _ => 0)).toArray 22)
  rw [← hw4] at hRw4
  have hCw4 : Ar w4 (w.heap.size + 3) 16 (fun _ => 0) := by rw [hw4, ← hs3]; exact Ar.new w3 16 _ _
  clear hEw3 hKw3 hRw3 hBw3
  have HKE := Lib.hid hkE
  rw [hkE] at hw1
  have HKK := Lib.hid hkK
  rw [hkK] at hw2
  rw [hkE, hkK]
  clear hkE hkK
  have hz := zero16b
  have HF := Lib.hid hf
  have HN := Lib.hid hn
  clear hf hn
  go_enter Tryd.func15, Tryd.ntmps15
  go_upto_region 2 with fail
  rw [← hw1, ← hw2, ← hw3, ← hw4]
  clear hw1 hw2 hw3 hw4
  try simp only [Nat.add_assoc, Nat.reduceAdd]
  obtain ⟨gK, hgK⟩ : ∃ g : Nat, w.heap.size + 1 = g := ⟨_, rfl⟩
  rw [hgK] at hKw4
  obtain ⟨gR, hgR⟩ : ∃ g : Nat, w.heap.size + 2 = g := ⟨_, rfl⟩
  rw [hgR] at hRw4
  obtain ⟨gC, hgC⟩ : ∃ g : Nat, w.heap.size + 3 = g := ⟨_, rfl⟩
  rw [hgC] at hCw4
  try rw [hgC]
  try rw [hgR]
  try rw [hgK]
  have hlK : w.heap.size < gK := by omega
  have hlR : gK < gR := by omega
  have hlC : gR < gC := by omega
  clear hs1 hs2 hs3 hs4 hgK hgR hgC
  have c3 := (hCw4 3 (by omega)).1
  have f3 := (hCw4 3 (by omega)).2
  have hC5 := (hCw4.set (j := 3) (v := 1) (by omega) rfl).ext (f' := fun j => if 4 ≤ j ∧ j < 4 + 0 then n (j - 4) else if j = 3 then 1 else 0) (fun j _ => by rw [if_neg (c := 4 ≤ j ∧ j < 4 + 0) (by omega)])
  have hE5 := hEw4.far (p := ⟨gC, 3, none⟩) (by simp; omega) (.int .u8 1)
  have hK5 := hKw4.far (p := ⟨gC, 3, none⟩) (by simp; omega) (.int .u8 1)
  have hR5 := hRw4.far (p := ⟨gC, 3, none⟩) (by simp; omega) (.int .u8 1)
  have hB5 := hBw4.setCell (p := ⟨gC, 3, none⟩) (by simp; omega) (.int .u8 1)
  clear hEw4 hKw4 hRw4 hCw4 hBw4
  go_upto_region 3 with fail
  generalize World.setCell w4 ⟨gC, 3, none⟩ (.int .u8 1) = w5 at *
  clear c3 f3
  go_wp2_with fail
  go_loopw [6] (fun i wr => ∃ k : Nat, k ≤ 12 ∧ i = .int .i64 k ∧ Ar wr gC 16 (fun j => if 4 ≤ j ∧ j < 4 + k then n (j - 4) else if j = 3 then 1 else 0) ∧ Ar wr w.heap.size 432 (pkF (ek f) sb) ∧ Ar wr gK 12 n ∧ Ar wr gR 16 (fun _ => 0) ∧ Below w.heap.size w wr) (fun i _ => 12 - (intOf i).toNat)
  case atStart => exact ⟨0, Nat.zero_le _, rfl, hC5, hE5, hK5, hR5, hB5⟩
  case round =>
    clear hC5 hE5 hK5 hR5 hB5
    obtain ⟨k, hk, rfl, hC, hE, hK, hR, hB⟩ := hrel
    by_cases hlt : k < 12
    · have i1 : (k : Int) < 12 := by omega
      obtain ⟨a, ha⟩ : ∃ a : Nat, 4 + k = a := ⟨_, rfl⟩
      have a1 : (4 : Int) + (k : Int) = (a : Int) := by omega
      have a2 : (a : Int) < 16 := by omega
      obtain ⟨c0, _⟩ := hK k hlt
      obtain ⟨c2, f2⟩ := hC a (by omega)
      have hC2 := Lib.hid ((hC.set (j := a) (v := n k) (by omega) rfl).ext (f' := fun j => if 4 ≤ j ∧ j < 4 + (k + 1) then n (j - 4) else if j = 3 then 1 else 0) (fun j _ => by rw [← ha]; exact nb_step n k j))
      have hE2 := Lib.hid (hE.far (p := ⟨gC, a, none⟩) (by simp; omega) (.int .u8 (n k : Nat)))
      have hK2 := Lib.hid (hK.far (p := ⟨gC, a, none⟩) (by simp; omega) (.int .u8 (n k : Nat)))
      have hR2 := Lib.hid (hR.far (p := ⟨gC, a, none⟩) (by simp; omega) (.int .u8 (n k : Nat)))
      have hB2 := Lib.hid (hB.setCell (p := ⟨gC, a, none⟩) (by simp; omega) (.int .u8 (n k : Nat)))
      clear hC hE hK hR hB ha
      go_wp2_with fail
      go_roundw
      case rel => exact ⟨k + 1, by omega, by go_num, hC2.out, hE2.out, hK2.out, hR2.out, hB2.out⟩
      case measure => simp [intOf]; omega
    · obtain rfl : k = 12 := by omega
      have hbx := HN.out 11 (by omega)
      have c0 : wr.cell? ⟨gC, 15, none⟩ = some (.int .u8 (n 11 : Nat)) := (hC 15 (by omega)).1
      have f0 := (hC 15 (by omega)).2
      obtain ⟨⟨h1, h2⟩, h3⟩ := sub_low _ hbx
      have h4 : n 11 % 64 < 64 := Nat.mod_lt _ (by decide)
      have h5 : n 11 / 64 * 64 < 256 := by omega
      have hC2 := (hC.set (j := 15) (v := n 11 / 64 * 64) (by omega) rfl).ext (f' := nbF n) (fun j hj => nb_last n j hj)
      have hE2 := hE.far (p := ⟨gC, 15, none⟩) (by simp; omega) (.int .u8 (n 11 / 64 * 64 : Nat))
      have hR2 := hR.far (p := ⟨gC, 15, none⟩) (by simp; omega) (.int .u8 (n 11 / 64 * 64 : Nat))
      have hB2 := hB.setCell (p := ⟨gC, 15, none⟩) (by simp; omega) (.int .u8 (n 11 / 64 * 64 : Nat))
      clear hC hE hK hR hB
      generalize n 11 / 64 * 64 = z at *
      generalize n 11 % 64 = y at *
      generalize n 11 = x at *
      go_upto_region 8 with fail
      generalize World.setCell wr ⟨gC, 15, none⟩ (.int .u8 (z : Nat)) = w6 at *
      clear c0 f0 h1 h2 h3 h4 h5 hbx
      go_wp2_with (first
      | (refine wpList_load_mid rfl _ _ rfl w.heap.size 0 rfl (arL 432 (pkF (ek f) sb)) _ hE2.range HS.out HW.out (sizeK _) ?_)
      | (refine wpList_load_ar rfl _ _ rfl _ _ _ rfl hC2 Tryd.arr16b (size16b _) ?_))
      refine (refencrypt f (nbF n) w6 HF.out (nbF_lt HN.out)).mono ?_
      rintro e w7 ⟨rfl, hq⟩
      have hR7 := hR2.to (by omega) hq
      have hB7 := hB2.trans (hq.mono hB2.size)
      clear hC2 hE2 hR2 hB2 hq
      go_wp2_with (refine wpList_store_ar rfl _ _ _ rfl _ _ _ (enF f (nbF n)) rfl rfl hR7 (size16b _) ?_; intro w8 hA8 hb8 _ _)
      refine bodyPost_ret_ar rfl rfl hA8 Tryd.arr16b (size16b _) rfl ⟨rfl, ?_⟩
      exact hB7.trans (hb8.mono (by omega))

set_option maxHeartbeats 4000000 in
theorem rstart (f n : Nat → Nat) (w : World) (hf : B16 f) (hn : B12 n) :
    Calls Tryd.prog 17 #[.agg (arL 432 (pkF (ek f) sb)).toArray, .agg (arL 12 n).toArray] w fun e w' => e = .returned (.agg (arL 16 (o0F (enF f (nbF n)) (n 11))).toArray) ∧ Below w.heap.size w w' := by
  obtain ⟨dK, hfs, hrow⟩ := Tryd.structK
  have HS := Lib.hid hfs
  have HW := Lib.hid hrow
  clear hfs hrow
  obtain ⟨kE, hkE⟩ : ∃ k : Array Value, (arL 432 (pkF (ek f) sb)).toArray = k := ⟨_, rfl⟩
  obtain ⟨kK, hkK⟩ : ∃ k : Array Value, (arL 12 (n)).toArray = k := ⟨_, rfl⟩
  obtain ⟨w1, hw1⟩ : ∃ V : World, V = w.alloc (.cells (arL 432 (pkF (ek f) sb)).toArray 32) := ⟨_, rfl⟩
  have hs1 : w1.heap.size = w.heap.size + 1 := by rw [hw1]; simp
  have hBw1 : Below w.heap.size w w1 := by rw [hw1]; exact (Below.refl _ _).alloc (Nat.le_refl _) _
  have hEw1 : Ar w1 w.heap.size 432 (pkF (ek f) sb) := by rw [hw1]; exact Ar.new w 432 _ _
  obtain ⟨w2, hw2⟩ : ∃ V : World, V = w1.alloc (.cells (arL 12 (n)).toArray 23) := ⟨_, rfl⟩
  have hs2 : w2.heap.size = w.heap.size + 2 := by rw [hw2]; simp [hs1]
  have hBw2 : Below w.heap.size w w2 := by rw [hw2]; exact hBw1.alloc (by omega) _
  have hEw2 := hEw1.alloc (by omega) (.cells (arL 12 (n)).toArray 23)
  rw [← hw2] at hEw2
  have hKw2 : Ar w2 (w.heap.size + 1) 12 (n) := by rw [hw2, ← hs1]; exact Ar.new w1 12 _ _
  clear hEw1 hBw1
  obtain ⟨w3, hw3⟩ : ∃ V : World, V = w2.alloc (.cells (arL 16 (fun _ => 0)).toArray 22) := ⟨_, rfl⟩
  have hs3 : w3.heap.size = w.heap.size + 3 := by rw [hw3]; simp [hs2]
  have hBw3 : Below w.heap.size w w3 := by rw [hw3]; exact hBw2.alloc (by omega) _
  have hEw3 := hEw2.alloc (by omega) (.cells (arL 16 (fun _ => 0)).toArray 22)
  rw [← hw3] at hEw3
  have hKw3 := hKw2.alloc (by omega) (.cells (arL 16 (fun _ => 0)).toArray 22)
  rw [← hw3] at hKw3
  have hRw3 : Ar w3 (w.heap.size + 2) 16 (fun _ => 0) := by rw [hw3, ← hs2]; exact Ar.new w2 16 _ _
  clear hEw2 hKw2 hBw2
  have HKE := Lib.hid hkE
  rw [hkE] at hw1
  have HKK := Lib.hid hkK
  rw [hkK] at hw2
  rw [hkE, hkK]
  clear hkE hkK
  have hz := zero16b
  have HF := Lib.hid hf
  have HN := Lib.hid hn
  have HTL := Lib.hid (show B16 (enF f (nbF n)) from enR_lt hf (nbF_lt hn) 10)
  clear hf hn
  go_enter Tryd.func17, Tryd.ntmps17
  go_upto_region 1 with fail
  rw [← hw1, ← hw2, ← hw3]
  clear hw1 hw2 hw3
  try simp only [Nat.add_assoc, Nat.reduceAdd]
  obtain ⟨gK, hgK⟩ : ∃ g : Nat, w.heap.size + 1 = g := ⟨_, rfl⟩
  rw [hgK] at hKw3
  obtain ⟨gR, hgR⟩ : ∃ g : Nat, w.heap.size + 2 = g := ⟨_, rfl⟩
  rw [hgR] at hRw3
  try rw [hgR]
  try rw [hgK]
  have hlK : w.heap.size < gK := by omega
  have hlR : gK < gR := by omega
  clear hs1 hs2 hs3 hgK hgR
  refine wp_region_noPanic ?_
  have hRad := hRw3.drew
  refine wp_region_held_drew (S := fun W => Ar W w.heap.size 432 (pkF (ek f) sb) ∧ Ar W gK 12 (n) ∧ Below w.heap.size w W) (by kernel_rfl) ⟨hEw3.drew, hKw3.drew, hBw3.drew⟩ (fun hHeld => ?_)
  clear hEw3 hKw3 hBw3 hRw3
  generalize World.drew w3 = ad at *
  refine wpAnyH_take (i := 0) (v := .agg (arL 432 (pkF (ek f) sb)).toArray) rfl (by kernel_rfl) (by kernel_rfl) (by kernel_rfl) (fun _ _ _ h => h) (yieldsIf_load_mid (by rfl) _ _ rfl w.heap.size (0) rfl (arL 432 (pkF (ek f) sb)) _ (fun W hSw => hSw.1.range) HS.out HW.out (sizeK _)) (by assumption) ?_
  simp only [Act.put, List.setIfInBounds_toArray, List.set_cons_zero, List.set_cons_succ, List.getElem_toArray, List.getElem_cons_zero]
  refine wpAnyH_take (i := 1) (v := .agg (arL 12 (n)).toArray) rfl (by kernel_rfl) (by kernel_rfl) (by kernel_rfl) (fun _ _ _ h => h) (yieldsIf_load_mid (by rfl) _ _ rfl gK (0) rfl (arL 12 (n)) _ (fun W hSw => hSw.2.1.range) Tryd.arr12 rfl (size12 _)) (by assumption) ?_
  simp only [Act.put, List.setIfInBounds_toArray, List.set_cons_zero, List.set_cons_succ, List.getElem_toArray, List.getElem_cons_zero, List.getElem_cons_succ]
  refine wpAnyH_take (i := 4) (v := .agg (arL 12 (n)).toArray) rfl (by kernel_rfl) (by kernel_rfl) (by kernel_rfl) (fun _ _ _ h => h) (yieldsIf_load_mid (by rfl) _ _ rfl gK (0) rfl (arL 12 (n)) _ (fun W hSw => hSw.2.1.range) Tryd.arr12 rfl (size12 _)) (by assumption) ?_
  simp only [Act.put, List.setIfInBounds_toArray, List.set_cons_zero, List.set_cons_succ, List.getElem_toArray, List.getElem_cons_zero, List.getElem_cons_succ]
  refine wpAnyH_ready (rs := [2]) (by kernel_rfl) (by simp) ?_
  refine AllReadyH.cons rfl (fun K hK => ?_) AllReadyH.nil
  go_simp
  refine (rtop f n _ HF.out HN.out).mono ?_
  rintro e a1 ⟨rfl, hq⟩
  go_wp2_with fail
  have hRa1 := (hRad).to (by omega) hq
  refine hK.out _ _ ⟨(hHeld.1).to (by omega) hq, (hHeld.2.1).to (by omega) hq, (hHeld.2.2).trans (hq.mono (hHeld.2.2).size)⟩ (fun hHeld2 => ?_)
  clear hK K hHeld hq hRad
  have hHeld := hHeld2
  clear hHeld2
  try simp only [Act.put, List.setIfInBounds_toArray, List.set_cons_zero, List.set_cons_succ, List.getElem_toArray, List.getElem_cons_zero, List.getElem_cons_succ]
  refine wpAnyH_ready (rs := [3]) (by kernel_rfl) (by simp) ?_
  refine AllReadyH.cons rfl (fun K hK => ?_) AllReadyH.nil
  go_simp
  refine (rstretch (enF f (nbF n)) _ HTL.out).mono ?_
  rintro e a2 ⟨rfl, hq⟩
  go_wp2_with fail
  have hRa2 := (hRa1).to (by omega) hq
  refine hK.out _ _ ⟨(hHeld.1).to (by omega) hq, (hHeld.2.1).to (by omega) hq, (hHeld.2.2).trans (hq.mono (hHeld.2.2).size)⟩ (fun hHeld2 => ?_)
  clear hK K hHeld hq hRa1
  have hHeld := hHeld2
  clear hHeld2
  try simp only [Act.put, List.setIfInBounds_toArray, List.set_cons_zero, List.set_cons_succ, List.getElem_toArray, List.getElem_cons_zero, List.getElem_cons_succ]
  refine wpAnyH_ready (rs := [5]) (by kernel_rfl) (by simp) ?_
  refine AllReadyH.cons rfl (fun K hK => ?_) AllReadyH.nil
  go_simp
  refine (rbottom n _ HN.out).mono ?_
  rintro e a3 ⟨rfl, hq⟩
  go_wp2_with fail
  have hRa3 := (hRa2).to (by omega) hq
  refine hK.out _ _ ⟨(hHeld.1).to (by omega) hq, (hHeld.2.1).to (by omega) hq, (hHeld.2.2).trans (hq.mono (hHeld.2.2).size)⟩ (fun hHeld2 => ?_)
  clear hK K hHeld hq hRa2
  have hHeld := hHeld2
  clear hHeld2
  try simp only [Act.put, List.setIfInBounds_toArray, List.set_cons_zero, List.set_cons_succ, List.getElem_toArray, List.getElem_cons_zero, List.getElem_cons_succ]
  refine wpAnyH_ready (rs := [6]) (by kernel_rfl) (by simp) ?_
  refine AllReadyH.cons rfl (fun K hK => ?_) AllReadyH.nil
  go_simp
  refine (rshift (enF f (nbF n)) (n 11) _ HTL.out).mono ?_
  rintro e a4 ⟨rfl, hq⟩
  go_wp2_with fail
  have hRa4 := (hRa3).to (by omega) hq
  refine hK.out _ _ ⟨(hHeld.1).to (by omega) hq, (hHeld.2.1).to (by omega) hq, (hHeld.2.2).trans (hq.mono (hHeld.2.2).size)⟩ (fun hHeld2 => ?_)
  clear hK K hHeld hq hRa3
  have hHeld := hHeld2
  clear hHeld2
  try simp only [Act.put, List.setIfInBounds_toArray, List.set_cons_zero, List.set_cons_succ, List.getElem_toArray, List.getElem_cons_zero, List.getElem_cons_succ]
  refine wpAnyH_ready (rs := [7]) (by kernel_rfl) (by simp) ?_
  refine AllReadyH.cons rfl (fun K hK => ?_) AllReadyH.nil
  rw [if_pos (by rfl)]
  refine wp_store_mid _ _ _ rfl gR 0 (arL 16 (o0F (enF f (nbF n)) (n 11))).toArray rfl rfl hRa4.there (size16b _) (all_oneCell_toArray (arL_one 16 (o0F (enF f (nbF n)) (n 11)))) ?_
  have hRa5 := hRa4.whole (o0F (enF f (nbF n)) (n 11))
  have hSa5 := show Ar (World.setCells a4 gR 0 (arL 16 (o0F (enF f (nbF n)) (n 11)))) w.heap.size 432 (pkF (ek f) sb) ∧ Ar (World.setCells a4 gR 0 (arL 16 (o0F (enF f (nbF n)) (n 11)))) gK 12 (n) ∧ Below w.heap.size w (World.setCells a4 gR 0 (arL 16 (o0F (enF f (nbF n)) (n 11)))) from ⟨(hHeld.1).apart (b := gR) (by omega) (arL 16 (o0F (enF f (nbF n)) (n 11))) 0, (hHeld.2.1).apart (b := gR) (by omega) (arL 16 (o0F (enF f (nbF n)) (n 11))) 0, (hHeld.2.2).trans (Below.setCells (Below.refl w.heap.size _) (b := gR) (by omega) (arL 16 (o0F (enF f (nbF n)) (n 11))) 0)⟩
  dsimp only [List.toList_toArray]
  generalize World.setCells a4 gR 0 (arL 16 (o0F (enF f (nbF n)) (n 11))) = a5 at *
  refine hK.out _ _ hSa5 (fun hHeld2 => ?_)
  clear hK K hHeld hSa5 hRa4
  have hHeld := hHeld2
  clear hHeld2
  try simp only [Act.put]
  refine wpAnyH_done (by kernel_rfl) ?_ _
  have hR9 := hRa5
  have hB9 := hHeld.2.2
  clear hHeld hRa5
  refine NoPanic.normal ?_
  go_wp2_with fail
  refine bodyPost_ret_ar rfl rfl hR9 Tryd.arr16b (size16b _) rfl ⟨rfl, hB9⟩
theorem wrap_u (k : Nat) (h : k < 9223372036854775808) : IntKind.u64.wrap (k : Int) = (k : Int) := by rw [IntKind.wrap_u64]; omega

set_option maxHeartbeats 4000000 in
theorem rat (f n : Nat → Nat) (m : Nat) (w : World) (hm : m < 9223372036854775807) (hf : B16 f) (hn : B12 n) :
    Calls Tryd.prog 21 #[.agg (arL 432 (pkF (ek f) sb)).toArray, .agg (arL 12 n).toArray, .int .i64 m] w fun e w' => e = .returned (.agg (arL 16 (atF (o0F (enF f (nbF n)) (n 11)) (enF f zF) m)).toArray) ∧ Below w.heap.size w w' := by
  obtain ⟨dK, hfs, hrow⟩ := Tryd.structK
  have HS := Lib.hid hfs
  have HW := Lib.hid hrow
  clear hfs hrow
  obtain ⟨kE, hkE⟩ : ∃ k : Array Value, (arL 432 (pkF (ek f) sb)).toArray = k := ⟨_, rfl⟩
  obtain ⟨kK, hkK⟩ : ∃ k : Array Value, (arL 12 (n)).toArray = k := ⟨_, rfl⟩
  obtain ⟨w1, hw1⟩ : ∃ V : World, V = w.alloc (.cells (arL 432 (pkF (ek f) sb)).toArray 32) := ⟨_, rfl⟩
  have hs1 : w1.heap.size = w.heap.size + 1 := by rw [hw1]; simp
  have hBw1 : Below w.heap.size w w1 := by rw [hw1]; exact (Below.refl _ _).alloc (Nat.le_refl _) _
  have hEw1 : Ar w1 w.heap.size 432 (pkF (ek f) sb) := by rw [hw1]; exact Ar.new w 432 _ _
  obtain ⟨w2, hw2⟩ : ∃ V : World, V = w1.alloc (.cells (arL 12 (n)).toArray 23) := ⟨_, rfl⟩
  have hs2 : w2.heap.size = w.heap.size + 2 := by rw [hw2]; simp [hs1]
  have hBw2 : Below w.heap.size w w2 := by rw [hw2]; exact hBw1.alloc (by omega) _
  have hEw2 := hEw1.alloc (by omega) (.cells (arL 12 (n)).toArray 23)
  rw [← hw2] at hEw2
  have hKw2 : Ar w2 (w.heap.size + 1) 12 (n) := by rw [hw2, ← hs1]; exact Ar.new w1 12 _ _
  clear hEw1 hBw1
  obtain ⟨w3, hw3⟩ : ∃ V : World, V = w2.alloc (.cells (arL 16 (fun _ => 0)).toArray 22) := ⟨_, rfl⟩
  have hs3 : w3.heap.size = w.heap.size + 3 := by rw [hw3]; simp [hs2]
  have hBw3 : Below w.heap.size w w3 := by rw [hw3]; exact hBw2.alloc (by omega) _
  have hEw3 := hEw2.alloc (by omega) (.cells (arL 16 (fun _ => 0)).toArray 22)
  rw [← hw3] at hEw3
  have hKw3 := hKw2.alloc (by omega) (.cells (arL 16 (fun _ => 0)).toArray 22)
  rw [← hw3] at hKw3
  have hRw3 : Ar w3 (w.heap.size + 2) 16 (fun _ => 0) := by rw [hw3, ← hs2]; exact Ar.new w2 16 _ _
  clear hEw2 hKw2 hBw2
  have HKE := Lib.hid hkE
  rw [hkE] at hw1
  have HKK := Lib.hid hkK
  rw [hkK] at hw2
  rw [hkE, hkK]
  clear hkE hkK
  have hz := zero16b
  have HF := Lib.hid hf
  have HN := Lib.hid hn
  have HSL := Lib.hid (show B16 (enF f zF) from enR_lt hf zF_lt 10)
  have HOL := Lib.hid (show B16 (o0F (enF f (nbF n)) (n 11)) from o0F_lt (enR_lt hf (nbF_lt hn) 10) _)
  have hst := Lib.hid (fun V => rstart f n V hf hn)
  have hsr := Lib.hid (fun V => refstar f V hf zF_lt)
  obtain ⟨o, ho⟩ : ∃ o, o0F (enF f (nbF n)) (n 11) = o := ⟨_, rfl⟩
  obtain ⟨s, hs⟩ : ∃ s, enF f zF = s := ⟨_, rfl⟩
  rw [ho] at HOL hst
  rw [hs] at HSL hsr
  rw [ho, hs]
  clear hf hn ho hs
  go_enter Tryd.func21, Tryd.ntmps21
  go_upto_region 1 with fail
  rw [← hw1, ← hw2, ← hw3]
  clear hw1 hw2 hw3
  try simp only [Nat.add_assoc, Nat.reduceAdd]
  obtain ⟨gK, hgK⟩ : ∃ g : Nat, w.heap.size + 1 = g := ⟨_, rfl⟩
  rw [hgK] at hKw3
  obtain ⟨gR, hgR⟩ : ∃ g : Nat, w.heap.size + 2 = g := ⟨_, rfl⟩
  rw [hgR] at hRw3
  try rw [hgR]
  try rw [hgK]
  have hlK : w.heap.size < gK := by omega
  have hlR : gK < gR := by omega
  clear hs1 hs2 hs3 hgK hgR
  go_wp2_with (refine wpList_load_mid rfl _ _ rfl w.heap.size 0 rfl (arL 432 (pkF (ek f) sb)) _ hEw3.range HS.out HW.out (sizeK _) ?_)
  refine (hsr.out _).mono ?_
  rintro e w4 ⟨rfl, hq⟩
  have hE4 := hEw3.to (by omega) hq
  have hK4 := hKw3.to (by omega) hq
  have hR4 := hRw3.to (by omega) hq
  have hB4 := hBw3.trans (hq.mono hBw3.size)
  clear hEw3 hKw3 hRw3 hBw3 hq hsr
  obtain ⟨gV, hgV⟩ : ∃ g : Nat, w4.heap.size = g := ⟨_, rfl⟩
  have hlgV : gR < gV := by rw [← hgV]; exact hR4.lt (by omega)
  obtain ⟨w5a, hw5a⟩ : ∃ V : World, V = w4.alloc (.cells (arL 16 fun _ => 0).toArray 22) := ⟨_, rfl⟩
  have hgVa : Ar w5a gV 16 (fun _ => 0) := by rw [hw5a, ← hgV]; exact Ar.new w4 16 _ _
  have hEw5a := hE4.alloc (by omega) (.cells (arL 16 fun _ => 0).toArray 22)
  have hKw5a := hK4.alloc (by omega) (.cells (arL 16 fun _ => 0).toArray 22)
  have hRw5a := hR4.alloc (by omega) (.cells (arL 16 fun _ => 0).toArray 22)
  rw [← hw5a] at hEw5a
  rw [← hw5a] at hKw5a
  rw [← hw5a] at hRw5a
  have hBw5a : Below w.heap.size w w5a := by rw [hw5a]; exact hB4.alloc hB4.size _
  clear hE4 hK4 hR4 hB4
  go_upto_region 2 with (first | (refine wpList_store_ar rfl _ _ _ rfl _ _ _ s rfl rfl (by rw [← hw5a]; exact hgVa) (size16b _) ?_; intro w5 hgV5 bel siz kee) | fail)
  rw [← hw5a] at bel siz kee
  try rw [hgV]
  have hE5 := hEw5a.keep (by omega) bel
  have hK5 := hKw5a.keep (by omega) bel
  have hR5 := hRw5a.keep (by omega) bel
  have hB5 := hBw5a.trans (bel.mono (by omega))
  clear hgVa hEw5a hKw5a hRw5a hBw5a bel siz kee hw5a hgV
  try dsimp only [Act.put]
  have hV5 := hgV5
  clear hgV5
  go_wp2_with (first | (refine wpList_load_mid rfl _ _ rfl w.heap.size 0 rfl (arL 432 (pkF (ek f) sb)) _ hE5.range HS.out HW.out (sizeK _) ?_) | (refine wpList_load_ar rfl _ _ rfl _ _ _ rfl hK5 Tryd.arr12 (size12 _) ?_))
  refine (hst.out _).mono ?_
  rintro e w6 ⟨rfl, hq⟩
  have hR6 := hR5.to (by omega) hq
  have hV6 := hV5.to (by omega) hq
  have hB6 := hB5.trans (hq.mono hB5.size)
  clear hE5 hK5 hR5 hV5 hB5 hq hst
  obtain ⟨gO, hgO⟩ : ∃ g : Nat, w6.heap.size = g := ⟨_, rfl⟩
  have hlgO : gV < gO := by rw [← hgO]; exact hV6.lt (by omega)
  obtain ⟨w7a, hw7a⟩ : ∃ V : World, V = w6.alloc (.cells (arL 16 fun _ => 0).toArray 22) := ⟨_, rfl⟩
  have hgOa : Ar w7a gO 16 (fun _ => 0) := by rw [hw7a, ← hgO]; exact Ar.new w6 16 _ _
  have hRw7a := hR6.alloc (by omega) (.cells (arL 16 fun _ => 0).toArray 22)
  have hVw7a := hV6.alloc (by omega) (.cells (arL 16 fun _ => 0).toArray 22)
  rw [← hw7a] at hRw7a
  rw [← hw7a] at hVw7a
  have hBw7a : Below w.heap.size w w7a := by rw [hw7a]; exact hB6.alloc hB6.size _
  clear hR6 hV6 hB6
  go_upto_region 3 with (first | (refine wpList_store_ar rfl _ _ _ rfl _ _ _ o rfl rfl (by rw [← hw7a]; exact hgOa) (size16b _) ?_; intro w7 hgO7 bel siz kee) | fail)
  rw [← hw7a] at bel siz kee
  try rw [hgO]
  have hR7 := hRw7a.keep (by omega) bel
  have hV7 := hVw7a.keep (by omega) bel
  have hB7 := hBw7a.trans (bel.mono (by omega))
  clear hgOa hRw7a hVw7a hBw7a bel siz kee hw7a hgO
  try dsimp only [Act.put]
  have hO7 := hgO7.ext (f' := atF o s 0) (fun j _ => by rw [atF_zero])
  clear hgO7
  go_wp2_with fail
  go_loopw [9] (fun i wr => ∃ k : Nat, k ≤ m ∧ i = .int .i64 (k + 1 : Nat) ∧ Ar wr gO 16 (atF o s k) ∧ Ar wr gV 16 s ∧ Ar wr gR 16 (fun _ => 0) ∧ Below w.heap.size w wr) (fun i _ => m + 1 - (intOf i).toNat)
  case atStart => exact ⟨0, Nat.zero_le _, rfl, hO7, hV7, hR7, hB7⟩
  case round =>
    clear hO7 hV7 hR7 hB7
    obtain ⟨k, hk, rfl, hO, hV, hR, hB⟩ := hrel
    by_cases hlt : k < m
    · have hog := Lib.hid (atF_step o s k)
      have hol := Lib.hid (atF_lt HOL.out HSL.out k)
      obtain ⟨k1, hk1⟩ : ∃ k1 : Nat, k + 1 = k1 := ⟨_, rfl⟩
      have i1 : (k1 : Int) ≤ (m : Int) := by omega
      have HWK := Lib.hid (wrap_u (k1) (by omega))
      rw [hk1] at hog ⊢
      obtain ⟨ok, hok⟩ : ∃ ok, atF o s k = ok := ⟨_, rfl⟩
      have hat := Lib.hid (fun V => reffor s k1 V HSL.out (by omega))
      have hkl := Lib.hid (dk_lt HSL.out (zer k1 + 2))
      obtain ⟨dd, hdd⟩ : ∃ dd, dk s (zer k1 + 2) = dd := ⟨_, rfl⟩
      rw [hok] at hog hol hO
      rw [hdd] at hog hat hkl
      clear hok hdd
      go_upto_region 6 with fail
      refine wp_region_noPanic ?_
      have hOad := hO.drew
      have hRad := hR.drew
      refine wp_region_held_drew (S := fun W => Ar W gV 16 (s) ∧ Below w.heap.size w W) (by kernel_rfl) ⟨hV.drew, hB.drew⟩ (fun hHeld => ?_)
      clear hV hB hO hR
      generalize World.drew wr = ad at *
      refine wpAnyH_take (i := 1) (v := .agg (arL 16 (s)).toArray) rfl (by kernel_rfl) (by kernel_rfl) (by kernel_rfl) (fun _ _ _ h => h) (yieldsIf_load_mid (by rfl) _ _ rfl gV (0) rfl (arL 16 (s)) _ (fun W hSw => hSw.1.range) Tryd.arr16b rfl (size16b _)) (by assumption) ?_
      simp only [Act.put, List.setIfInBounds_toArray, List.set_cons_zero, List.set_cons_succ, List.getElem_toArray, List.getElem_cons_zero, List.getElem_cons_succ]
      refine wpAnyH_take (i := 2) (v := ?va1) rfl (by kernel_rfl) (by kernel_rfl) (by kernel_rfl) (fun _ _ _ h => h) (Or.inl ⟨by rfl, ?hya1⟩) (by assumption) ?resta1
      case hya1 =>
        intro W hSw
        go_simp
        try with_reducible rfl
      simp only [Act.put, List.setIfInBounds_toArray, List.set_cons_zero, List.set_cons_succ, List.getElem_toArray, List.getElem_cons_zero, List.getElem_cons_succ]
      refine wpAnyH_take (i := 3) (v := ?va2) rfl (by kernel_rfl) (by kernel_rfl) (by kernel_rfl) (fun _ _ _ h => h) (Or.inl ⟨by rfl, ?hya2⟩) (by assumption) ?resta2
      case hya2 =>
        intro W hSw
        have hwk := HWK.out
        go_simp
        try with_reducible rfl
      simp only [Act.put, List.setIfInBounds_toArray, List.set_cons_zero, List.set_cons_succ, List.getElem_toArray, List.getElem_cons_zero, List.getElem_cons_succ]
      refine wpAnyH_ready (rs := [0, 4]) (by kernel_rfl) (by simp) ?_
      refine AllReadyH.cons rfl (fun K hK => ?_) (AllReadyH.cons rfl (fun K hK => ?_) AllReadyH.nil)
      · rw [if_pos (by rfl)]
        refine wp_load_mid _ _ rfl gO 0 rfl (arL 16 (ok)) _ hOad.range Tryd.arr16b rfl (size16b _) ?_
        refine hK.out _ _ hHeld (fun hHeld2 => ?_)
        clear hK K hHeld
        have hHeld := hHeld2
        clear hHeld2
        try simp only [Act.put, List.setIfInBounds_toArray, List.set_cons_zero, List.set_cons_succ, List.getElem_toArray, List.getElem_cons_zero]
        refine wpAnyH_ready (rs := [4]) (by kernel_rfl) (by simp) ?_
        refine AllReadyH.cons rfl (fun K hK => ?_) AllReadyH.nil
        go_simp
        refine (hat.out _).mono ?_
        rintro e a3 ⟨rfl, hq⟩
        go_wp2_with fail
        have hOa3 := (hOad).to (by omega) hq
        have hRa3 := (hRad).to (by omega) hq
        refine hK.out _ _ ⟨(hHeld.1).to (by omega) hq, (hHeld.2).trans (hq.mono (hHeld.2).size)⟩ (fun hHeld2 => ?_)
        clear hK K hHeld hq hOad hRad
        have hHeld := hHeld2
        clear hHeld2
        try simp only [Act.put, List.setIfInBounds_toArray, List.set_cons_zero, List.set_cons_succ, List.getElem_toArray, List.getElem_cons_zero, List.getElem_cons_succ]
        refine wpAnyH_ready (rs := [5]) (by kernel_rfl) (by simp) ?_
        refine AllReadyH.cons rfl (fun K hK => ?_) AllReadyH.nil
        go_simp
        refine (refxor8 ok dd _ hol.out hkl.out).mono ?_
        rintro e a4 ⟨rfl, hq⟩
        go_wp2_with fail
        have hOa4 := (hOa3).to (by omega) hq
        have hRa4 := (hRa3).to (by omega) hq
        refine hK.out _ _ ⟨(hHeld.1).to (by omega) hq, (hHeld.2).trans (hq.mono (hHeld.2).size)⟩ (fun hHeld2 => ?_)
        clear hK K hHeld hq hOa3 hRa3
        have hHeld := hHeld2
        clear hHeld2
        try simp only [Act.put, List.setIfInBounds_toArray, List.set_cons_zero, List.set_cons_succ, List.getElem_toArray, List.getElem_cons_zero, List.getElem_cons_succ]
        refine wpAnyH_ready (rs := [6]) (by kernel_rfl) (by simp) ?_
        refine AllReadyH.cons rfl (fun K hK => ?_) AllReadyH.nil
        rw [if_pos (by rfl)]
        refine wp_store_mid _ _ _ rfl gO 0 (arL 16 (adF ok dd)).toArray rfl rfl hOa4.there (size16b _) (all_oneCell_toArray (arL_one 16 (adF ok dd))) ?_
        have hOa5 := hOa4.whole (adF ok dd)
        have hRa5 := hRa4.apart (b := gO) (by omega) (arL 16 (adF ok dd)) 0
        have hSa5 := show Ar (World.setCells a4 gO 0 (arL 16 (adF ok dd))) gV 16 (s) ∧ Below w.heap.size w (World.setCells a4 gO 0 (arL 16 (adF ok dd))) from ⟨(hHeld.1).apart (b := gO) (by omega) (arL 16 (adF ok dd)) 0, (hHeld.2).trans (Below.setCells (Below.refl w.heap.size _) (b := gO) (by omega) (arL 16 (adF ok dd)) 0)⟩
        dsimp only [List.toList_toArray]
        generalize World.setCells a4 gO 0 (arL 16 (adF ok dd)) = a5 at *
        refine hK.out _ _ hSa5 (fun hHeld2 => ?_)
        clear hK K hHeld hSa5 hOa4 hRa4
        have hHeld := hHeld2
        clear hHeld2
        try simp only [Act.put]
        refine wpAnyH_done (by kernel_rfl) ?_ _
        have hO9 := hOa5
        have hR9 := hRa5
        have hV9 := hHeld.1
        have hB9 := hHeld.2
        clear hHeld hOa5 hRa5
        rw [hog.out] at hO9
        refine NoPanic.normal ?_
        go_wp2_with fail
        go_roundw
        case rel => exact ⟨k1, by omega, by go_num, hO9, hV9, hR9, hB9⟩
        case measure => simp [intOf]; omega
      · go_simp
        refine (hat.out _).mono ?_
        rintro e a6 ⟨rfl, hq⟩
        go_wp2_with fail
        have hOa6 := (hOad).to (by omega) hq
        have hRa6 := (hRad).to (by omega) hq
        refine hK.out _ _ ⟨(hHeld.1).to (by omega) hq, (hHeld.2).trans (hq.mono (hHeld.2).size)⟩ (fun hHeld2 => ?_)
        clear hK K hHeld hq hOad hRad
        have hHeld := hHeld2
        clear hHeld2
        try simp only [Act.put, List.setIfInBounds_toArray, List.set_cons_zero, List.set_cons_succ, List.getElem_toArray, List.getElem_cons_zero, List.getElem_cons_succ]
        refine wpAnyH_ready (rs := [0]) (by kernel_rfl) (by simp) ?_
        refine AllReadyH.cons rfl (fun K hK => ?_) AllReadyH.nil
        rw [if_pos (by rfl)]
        refine wp_load_mid _ _ rfl gO 0 rfl (arL 16 (ok)) _ hOa6.range Tryd.arr16b rfl (size16b _) ?_
        refine hK.out _ _ hHeld (fun hHeld2 => ?_)
        clear hK K hHeld
        have hHeld := hHeld2
        clear hHeld2
        try simp only [Act.put, List.setIfInBounds_toArray, List.set_cons_zero, List.set_cons_succ, List.getElem_toArray, List.getElem_cons_zero]
        refine wpAnyH_ready (rs := [5]) (by kernel_rfl) (by simp) ?_
        refine AllReadyH.cons rfl (fun K hK => ?_) AllReadyH.nil
        go_simp
        refine (refxor8 ok dd _ hol.out hkl.out).mono ?_
        rintro e a7 ⟨rfl, hq⟩
        go_wp2_with fail
        have hOa7 := (hOa6).to (by omega) hq
        have hRa7 := (hRa6).to (by omega) hq
        refine hK.out _ _ ⟨(hHeld.1).to (by omega) hq, (hHeld.2).trans (hq.mono (hHeld.2).size)⟩ (fun hHeld2 => ?_)
        clear hK K hHeld hq hOa6 hRa6
        have hHeld := hHeld2
        clear hHeld2
        try simp only [Act.put, List.setIfInBounds_toArray, List.set_cons_zero, List.set_cons_succ, List.getElem_toArray, List.getElem_cons_zero, List.getElem_cons_succ]
        refine wpAnyH_ready (rs := [6]) (by kernel_rfl) (by simp) ?_
        refine AllReadyH.cons rfl (fun K hK => ?_) AllReadyH.nil
        rw [if_pos (by rfl)]
        refine wp_store_mid _ _ _ rfl gO 0 (arL 16 (adF ok dd)).toArray rfl rfl hOa7.there (size16b _) (all_oneCell_toArray (arL_one 16 (adF ok dd))) ?_
        have hOa8 := hOa7.whole (adF ok dd)
        have hRa8 := hRa7.apart (b := gO) (by omega) (arL 16 (adF ok dd)) 0
        have hSa8 := show Ar (World.setCells a7 gO 0 (arL 16 (adF ok dd))) gV 16 (s) ∧ Below w.heap.size w (World.setCells a7 gO 0 (arL 16 (adF ok dd))) from ⟨(hHeld.1).apart (b := gO) (by omega) (arL 16 (adF ok dd)) 0, (hHeld.2).trans (Below.setCells (Below.refl w.heap.size _) (b := gO) (by omega) (arL 16 (adF ok dd)) 0)⟩
        dsimp only [List.toList_toArray]
        generalize World.setCells a7 gO 0 (arL 16 (adF ok dd)) = a8 at *
        refine hK.out _ _ hSa8 (fun hHeld2 => ?_)
        clear hK K hHeld hSa8 hOa7 hRa7
        have hHeld := hHeld2
        clear hHeld2
        try simp only [Act.put]
        refine wpAnyH_done (by kernel_rfl) ?_ _
        have hO9 := hOa8
        have hR9 := hRa8
        have hV9 := hHeld.1
        have hB9 := hHeld.2
        clear hHeld hOa8 hRa8
        rw [hog.out] at hO9
        refine NoPanic.normal ?_
        go_wp2_with fail
        go_roundw
        case rel => exact ⟨k1, by omega, by go_num, hO9, hV9, hR9, hB9⟩
        case measure => simp [intOf]; omega
    · obtain rfl : k = m := by omega
      have i1 : ¬ ((k + 1 : Nat) : Int) ≤ (k : Int) := by omega
      go_wp2_with (first
      | (refine wpList_load_ar rfl _ _ rfl _ _ _ rfl hO Tryd.arr16b (size16b _) ?_)
      | (refine wpList_store_ar rfl _ _ _ rfl _ _ _ (atF o s k) rfl rfl hR (size16b _) ?_; intro w8 hA8 hb8 _ _))
      refine bodyPost_ret_ar rfl rfl hA8 Tryd.arr16b (size16b _) rfl ⟨rfl, ?_⟩
      exact hB.trans (hb8.mono (by omega))
end Go.Proofs.YtblhfmlgpldaeaaDoor
