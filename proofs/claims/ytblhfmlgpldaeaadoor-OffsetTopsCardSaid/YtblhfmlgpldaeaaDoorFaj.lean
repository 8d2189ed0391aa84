/-
  Contract of fast.New, by a walk through its text: a Cipher of the call's own, made of the key; what was there stays as it was.
-/
import Derived.Test.YtblhfmlgpldaeaaDoorFai
import Derived.Test.YtblhfmlgpldaeaaDoorGke
import Derived.Test.YtblhfmlgpldaeaaDoorGcr
import Derived.Deep.RegionHeld3
namespace Go.Proofs.YtblhfmlgpldaeaaDoor
open Go.RowKit
set_option linter.unusedVariables false
set_option maxRecDepth 100000

theorem thF_zero (f : Nat → Nat) (m : Nat) : thF f 0 m = 0 := by simp [thF]
theorem thF_step (f : Nat → Nat) (n m : Nat) : (if m / 4 = n then wd (rk f n) (m % 4) else thF f n m) = thF f (n + 1) m := by
  unfold thF
  by_cases h : m / 4 = n
  · rw [if_pos h, if_pos (by omega), h]
  · rw [if_neg h]
    by_cases h2 : m / 4 < n
    · rw [if_pos h2, if_pos (by omega)]
    · rw [if_neg h2, if_neg (by omega)]

set_option maxHeartbeats 4000000 in
theorem fnew (f : Nat → Nat) (w : World) (hf : B16 f) (h : Boxes w) :
    Calls Tryd.prog 10 #[.agg (arL 16 f).toArray] w fun e w' => ∃ g, e = .returned (.pointer (some ⟨g, 0, none⟩)) ∧ w.heap.size ≤ g ∧ Ci w' g f ∧ Below w.heap.size w w' := by
  have hz := zero16b
  obtain ⟨kA, hkA⟩ : ∃ kA : Array Value, (arL 16 f).toArray = kA := ⟨_, rfl⟩
  obtain ⟨w1, hw1⟩ : ∃ w1 : World, w1 = w.alloc (.cells (arL 16 f).toArray 22) := ⟨_, rfl⟩
  have hs1 : w1.heap.size = w.heap.size + 1 := by rw [hw1]; simp
  have hb1 : Below w.heap.size w w1 := by rw [hw1]; exact (Below.refl _ _).alloc (Nat.le_refl _) _
  have hK1 : Ar w1 w.heap.size 16 f := by rw [hw1]; exact Ar.new w 16 f _
  obtain ⟨w2, hw2⟩ : ∃ w2 : World, w2 = w1.alloc (.cells (cxL 61 (ciF f (fun _ => 0) true)).toArray 62) := ⟨_, rfl⟩
  have hb2 : Below w.heap.size w w2 := by rw [hw2]; exact hb1.alloc (by omega) _
  have hC2 : Cx w2 (w.heap.size + 1) 61 (ciF f (thF f 0) true) := by
    have h0 : Cx w2 (w.heap.size + 1) 61 (ciF f (fun _ => 0) true) := by rw [hw2, ← hs1]; exact Cx.new w1 61 _ _
    refine h0.ext (fun j _ => ?_)
    unfold ciF
    simp only [thF_zero]
  have hK2 : Ar w2 w.heap.size 16 f := by rw [hw2]; exact hK1.alloc (by omega) _
  obtain ⟨cA, hcA⟩ : ∃ cA : Array Value, (cxL 61 (ciF f (fun _ => 0) true)).toArray = cA := ⟨_, rfl⟩
  have hbd := Lib.hid (run_cip f)
  have HKA := Lib.hid hkA
  rw [hkA] at hw1
  rw [hcA] at hw2 hbd
  rw [hkA]
  clear hkA hcA hb1
  have HF := Lib.hid hf
  have HX := Lib.hid h
  clear hf h
  go_enter Tryd.func10, Tryd.ntmps10
  go_upto_region 1 with fail
  rw [← hw1]
  clear hw1
  go_upto_region 2 with (first
    | (refine wpList_load_ar rfl _ _ rfl _ _ _ rfl hK1 Tryd.arr16b (size16b _) ?_)
    | (refine wpList_build_by rfl _ _ rfl [(0, .agg (arL 16 f).toArray), (2, .bool true)] rfl _ (hbd.out _) ?_))
  rw [← hw2]
  obtain ⟨gC, hgC⟩ : ∃ gC : Nat, w.heap.size + 1 = gC := ⟨_, rfl⟩
  have hlC : w.heap.size < gC := by omega
  rw [hgC] at hC2
  try rw [hgC]
  clear hw2 hs1 hK1 hgC
  go_wp2_with (refine wpList_load_ar rfl _ _ rfl _ _ _ rfl hK2 Tryd.arr16b (size16b _) ?_)
  refine (kexpand f HF.out _ (HX.out.keep hb2)).mono ?_
  rintro e w3 ⟨rfl, hq⟩
  have hC3 := hC2.to (by decide) hq
  have hB3 := hb2.trans (hq.mono hb2.size)
  clear hC2 hb2 hK2 hq hbd
  go_wp2_with fail
  have hrow := Lib.hid (fun r => arL_ext (n := 16) (f := fun j => ek f (r * 16 + j)) (g := rk f r) (fun j hj => by rw [Nat.mul_comm r 16, ek_rk f r j hj]))
  have hrk := Lib.hid (fun r => rk_lt f HF.out r)
  obtain ⟨eA, heA⟩ : ∃ eA : Array Value, (arL 176 (ek f)).toArray = eA := ⟨_, rfl⟩
  have HEA := Lib.hid heA
  rw [heA]
  clear heA
  go_loopw [11] (fun i wr => ∃ n : Nat, n ≤ 11 ∧ i = .int .i64 n ∧ Cx wr gC 61 (ciF f (thF f n) true) ∧ Below w.heap.size w wr) (fun i _ => 11 - (intOf i).toNat)
  case atStart => exact ⟨0, Nat.zero_le _, rfl, hC3, hB3⟩
  case round =>
    clear hC3 hB3
    obtain ⟨n, hn, rfl, hC, hB⟩ := hrel
    by_cases hlt : n < 11
    · have i1 : (n : Int) < 11 := by omega
      have hix : ∀ V, (Instr.index 29 (.agg eA) (.int .i64 n)).run Tryd.prog V = .ok (.agg (arL 16 (rk f n)).toArray) V := fun V => by
        have := run_index_row (P := Tryd.prog) (m := 16) Tryd.arr11 Tryd.arr16b (by kernel_rfl) (ek f) 176 n hlt (by omega) V
        rw [hrow.out, HEA.out] at this
        exact this
      obtain ⟨gR, hgR⟩ : ∃ gR : Nat, wr.heap.size = gR := ⟨_, rfl⟩
      have hlR : gC < gR := by rw [← hgR]; exact hC.lt (by decide)
      obtain ⟨wa, hwa⟩ : ∃ V : World, V = wr.alloc (.cells (arL 16 fun _ => 0).toArray 22) := ⟨_, rfl⟩
      have hRa : Ar wa gR 16 (fun _ => 0) := by rw [hwa, ← hgR]; exact Ar.new wr 16 _ _
      have hCa : Cx wa gC 61 (ciF f (thF f n) true) := by rw [hwa]; exact hC.alloc (by decide) _
      have hBa : Below w.heap.size w wa := by rw [hwa]; exact hB.alloc hB.size _
      clear hC hB
      go_upto_region 5 with (first
        | (refine wpList_store_ar rfl _ _ _ rfl _ _ _ (rk f n) rfl rfl (by rw [← hwa]; exact hRa) (size16b _) ?_; intro wb hRb hbb hsb _)
        | fail)
      rw [← hwa] at hbb hsb
      have hCwb := hCa.keep hlR hbb
      have hBb := hBa.trans (hbb.mono (by omega))
      clear hRa hCa hBa hbb hsb hwa hgR hix
      try dsimp only [Act.put]
      have hCad := hCwb.drew
      refine wp_region_held_drew (S := fun W => Ar W gR 16 (rk f n) ∧ Below w.heap.size w W) (by kernel_rfl) ⟨hRb.drew, hBb.drew⟩ (fun hHeld => ?_)
      clear hRb hBb hCwb
      generalize World.drew wb = ad at *
      refine wpAnyH_take (i := 0) (v := ?va1) rfl (by kernel_rfl) (by kernel_rfl) (by kernel_rfl) (fun _ _ _ h => h) (Or.inl ⟨by rfl, ?hya1⟩) (by assumption) ?resta1
      case hya1 =>
        intro W hSw
        go_simp
        try with_reducible rfl
      simp only [Act.put, List.setIfInBounds_toArray, List.set_cons_zero, List.set_cons_succ, List.getElem_toArray, List.getElem_cons_zero]
      refine wpAnyH_take (i := 1) (v := ?va2) rfl (by kernel_rfl) (by kernel_rfl) (by kernel_rfl) (fun _ _ _ h => h) (Or.inl ⟨by rfl, ?hya2⟩) (by assumption) ?resta2
      case hya2 =>
        intro W hSw
        go_simp
        try with_reducible rfl
      simp only [Act.put, List.setIfInBounds_toArray, List.set_cons_zero, List.set_cons_succ, List.getElem_toArray, List.getElem_cons_zero, List.getElem_cons_succ]
      refine wpAnyH_take (i := 2) (v := .agg (arL 16 (rk f n)).toArray) rfl (by kernel_rfl) (by kernel_rfl) (by kernel_rfl) (fun _ _ _ h => h) (yieldsIf_load_mid (by rfl) _ _ rfl gR (0) rfl (arL 16 (rk f n)) _ (fun W hSw => hSw.1.range) Tryd.arr16b rfl (size16b _)) (by assumption) ?_
      simp only [Act.put, List.setIfInBounds_toArray, List.set_cons_zero, List.set_cons_succ, List.getElem_toArray, List.getElem_cons_zero, List.getElem_cons_succ]
      refine wpAnyH_take (i := 4) (v := ?va3) rfl (by kernel_rfl) (by kernel_rfl) (by kernel_rfl) (fun _ _ _ h => h) (Or.inl ⟨by rfl, ?hya3⟩) (by assumption) ?resta3
      case hya3 =>
        intro W hSw
        go_simp
        try with_reducible rfl
      simp only [Act.put, List.setIfInBounds_toArray, List.set_cons_zero, List.set_cons_succ, List.getElem_toArray, List.getElem_cons_zero, List.getElem_cons_succ]
      refine wpAnyH_take (i := 5) (v := ?va4) rfl (by kernel_rfl) (by kernel_rfl) (by kernel_rfl) (fun _ _ _ h => h) (Or.inl ⟨by rfl, ?hya4⟩) (by assumption) ?resta4
      case hya4 =>
        intro W hSw
        go_simp
        try with_reducible rfl
      simp only [Act.put, List.setIfInBounds_toArray, List.set_cons_zero, List.set_cons_succ, List.getElem_toArray, List.getElem_cons_zero, List.getElem_cons_succ]
      refine wpAnyH_ready (rs := [3]) (by kernel_rfl) (by simp) ?_
      refine AllReadyH.cons rfl (fun K hK => ?_) AllReadyH.nil
      go_simp
      refine (fsplit (rk f n) _ (hrk.out n)).mono ?_
      rintro e a5 ⟨rfl, hq⟩
      go_wp2_with fail
      have hCa5 := (hCad).to (by decide) hq
      refine hK.out _ _ ⟨(hHeld.1).to (by omega) hq, (hHeld.2).trans (hq.mono (hHeld.2).size)⟩ (fun hHeld2 => ?_)
      clear hK K hHeld hq hCad
      have hHeld := hHeld2
      clear hHeld2
      try simp only [Act.put, List.setIfInBounds_toArray, List.set_cons_zero, List.set_cons_succ, List.getElem_toArray, List.getElem_cons_zero, List.getElem_cons_succ]
      refine wpAnyH_take (i := 6) (v := ?va6) rfl (by kernel_rfl) (by kernel_rfl) (by kernel_rfl) (fun _ _ _ h => h) (Or.inl ⟨by rfl, ?hya6⟩) (by assumption) ?resta6
      case hya6 =>
        intro W hSw
        go_simp
        try with_reducible rfl
      simp only [Act.put, List.setIfInBounds_toArray, List.set_cons_zero, List.set_cons_succ, List.getElem_toArray, List.getElem_cons_zero, List.getElem_cons_succ]
      refine wpAnyH_ready (rs := [7]) (by kernel_rfl) (by simp) ?_
      refine AllReadyH.cons rfl (fun K hK => ?_) AllReadyH.nil
      rw [if_pos (by rfl)]
      refine wp_store_mid _ _ _ rfl gC (16 + n * 4) (awL 4 (wd (rk f n))).toArray rfl rfl (hCa5.there (16 + n * 4) 4 (by omega)) (sizeCw _) (all_oneCell_toArray (awL_one 4 (wd (rk f n)))) ?_
      have hCa7 := hCa5.put (16 + n * 4) (awL 4 (wd (rk f n))) (by rw [awL_len]; omega)
      have hSa7 := show Ar (World.setCells a5 gC (16 + n * 4) (awL 4 (wd (rk f n)))) gR 16 (rk f n) ∧ Below w.heap.size w (World.setCells a5 gC (16 + n * 4) (awL 4 (wd (rk f n)))) from ⟨(hHeld.1).apart (b := gC) (by omega) (awL 4 (wd (rk f n))) (16 + n * 4), (hHeld.2).trans (Below.setCells (Below.refl w.heap.size _) (b := gC) (by omega) (awL 4 (wd (rk f n))) (16 + n * 4))⟩
      dsimp only [List.toList_toArray]
      generalize World.setCells a5 gC (16 + n * 4) (awL 4 (wd (rk f n))) = a7 at *
      refine hK.out _ _ hSa7 (fun hHeld2 => ?_)
      clear hK K hHeld hSa7 hCa5
      have hHeld := hHeld2
      clear hHeld2
      try simp only [Act.put]
      refine wpAnyH_done (by kernel_rfl) ?_ _
      have hC9 := hCa7.ext (fun j hj => ciF_putT f (thF f n) (thF f (n + 1)) true n hlt _ (fun m _ => thF_step f n m) j hj)
      have hB9 := hHeld.2
      clear hHeld hCa7
      go_wp2_with fail
      go_roundw
      case rel => exact ⟨n + 1, by omega, by go_num, hC9, hB9⟩
      case measure => simp [intOf]; omega
    · obtain rfl : n = 11 := by omega
      go_wp2_with fail
      go_ret
      exact ⟨gC, rfl, by omega, hC, hB⟩
end Go.Proofs.YtblhfmlgpldaeaaDoor
