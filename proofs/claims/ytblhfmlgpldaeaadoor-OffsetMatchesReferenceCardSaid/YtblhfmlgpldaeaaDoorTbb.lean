/-
  Contract of table.New, by a walk through its text: a Table of the call's own, made of the encrypted zero block; what was there stays as it was.
-/
import Derived.Test.YtblhfmlgpldaeaaDoorTba
import Derived.Test.YtblhfmlgpldaeaaDoorFal
import Derived.Test.YtblhfmlgpldaeaaDoorBkb
import Derived.Deep.RegionHeld3
namespace Go.Proofs.YtblhfmlgpldaeaaDoor
open Go.RowKit
set_option linter.unusedVariables false
set_option maxRecDepth 100000

set_option maxHeartbeats 4000000 in
theorem tnew (p : Option Addr) (f : Nat → Nat) (w : World) (hf : B16 f) (hv : CipV w (.pointer p) f) (h : Boxes w) :
    Calls Tryd.prog 9 #[.pointer p] w fun e w' => ∃ g, e = .returned (.pointer (some ⟨g, 0, none⟩)) ∧ w.heap.size ≤ g ∧ Ti w' g p (enF f zF) ∧ Below w.heap.size w w' := by
  have hz := zero16b
  have z0 := Lib.hid run_zero16
  have hcall := Lib.hid (fencrypt (.pointer p) f zF w hf zF_lt hv h)
  obtain ⟨s, hs⟩ : ∃ s, enF f zF = s := ⟨_, rfl⟩
  have hsl := Lib.hid (dk_lt (show B16 s by rw [← hs]; exact enR_lt hf zF_lt 10))
  rw [hs] at hcall
  rw [hs]
  obtain ⟨cA, hcA⟩ : ∃ cA : Array Value, (cxL 1057 (tbF (.pointer p) s (fun _ => 0) (fun _ => 0))).toArray = cA := ⟨_, rfl⟩
  have hbd := Lib.hid (run_tab p s)
  have HCA := Lib.hid hcA
  rw [hcA] at hbd
  clear hcA hs hf hv h
  go_enter Tryd.func9, Tryd.ntmps9
  go_wp2_with (refine wpList_build_by rfl _ _ rfl [] rfl _ (z0.out _) ?_)
  refine hcall.out.mono ?_
  rintro e w1 ⟨rfl, hq1⟩
  clear hcall
  obtain ⟨w2, hw2⟩ : ∃ V : World, V = w1.alloc (.cells cA 56) := ⟨_, rfl⟩
  obtain ⟨gT, hgT⟩ : ∃ gT : Nat, w1.heap.size = gT := ⟨_, rfl⟩
  have hlw : w.heap.size ≤ gT := by rw [← hgT]; exact hq1.size
  have hT2 : Cx w2 gT 1057 (tbF (.pointer p) s (fun _ => 0) (fun _ => 0)) := by rw [hw2, ← hgT, ← HCA.out]; exact Cx.new w1 1057 _ _
  have hB2 : Below w.heap.size w w2 := by rw [hw2]; exact hq1.alloc hq1.size _
  clear hq1 HCA
  go_upto_region 2 with (refine wpList_build_by rfl _ _ rfl [(0, .pointer p), (1, .agg (arL 16 s).toArray)] rfl _ (hbd.out _) ?_)
  try rw [hgT]
  rw [← hw2]
  clear hw2 hbd hgT
  go_wp2_with (refine wpList_load_mid rfl _ _ rfl gT 1 rfl (arL 16 s) _ (tx_star hT2) Tryd.arr16b rfl (size16b _) ?_)
  refine (bdouble s _ (hsl.out 0)).mono ?_
  rintro e w3 ⟨rfl, hq⟩
  rw [show dbF s = dk s 1 from rfl]
  have hT3 := hT2.to (by decide) hq
  have hB3 := hB2.trans (hq.mono hB2.size)
  clear hT2 hB2 hq
  go_upto_region 3 with (first | (refine wpList_store_cx rfl _ _ _ rfl gT 1057 17 _ (arL 16 (dk s 1)) rfl rfl hT3 (by rw [arL_len]; omega) (size16b _) (arL_one 16 (dk s 1)) ?_; intro w4 hT4 bel4 siz4 kee4) | fail)
  have hT5 := hT4.ext (fun j hj => tbF_putD _ s (fun _ => 0) (dk s 1) (fun _ => 0) j hj)
  have hB4 := hB3.trans (bel4.mono hlw)
  clear hT3 hT4 hB3 bel4 siz4 kee4
  try dsimp only [Act.put]
  obtain ⟨gL, hgL⟩ : ∃ gL : Nat, w4.heap.size = gL := ⟨_, rfl⟩
  have hlL : gT < gL := by rw [← hgL]; exact hT5.lt (by decide)
  obtain ⟨w5, hw5⟩ : ∃ V : World, V = w4.alloc (.cells (arL 16 fun _ => 0).toArray 22) := ⟨_, rfl⟩
  have hL5 : Ar w5 gL 16 (fun _ => 0) := by rw [hw5, ← hgL]; exact Ar.new w4 16 _ _
  have hT6 : Cx w5 gT 1057 (tbF (.pointer p) s (dk s 1) (fun _ => 0)) := by rw [hw5]; exact hT5.alloc (by decide) _
  have hB5 : Below w.heap.size w w5 := by rw [hw5]; exact hB4.alloc hB4.size _
  clear hB4
  go_upto_region 4 with (first
    | (refine wpList_load_mid rfl _ _ rfl gT 17 rfl (arL 16 (dk s 1)) _ (tx_dollar hT5) Tryd.arr16b rfl (size16b _) ?_)
    | (refine wpList_store_ar rfl _ _ _ rfl _ _ _ (dk s 1) rfl rfl (by rw [← hw5]; exact hL5) (size16b _) ?_; intro w6 hL6 bel6 siz6 kee6)
    | fail)
  rw [← hw5] at bel6 siz6 kee6
  have hT7 := (hT6.keep hlL bel6).ext (d := tbF (.pointer p) s (dk s 1) (tbT s 0)) (fun j _ => by unfold tbF; simp only [tbT_zero])
  have hB6 := hB5.trans (bel6.mono (by omega))
  clear hT5 hT6 hL5 hB5 bel6 siz6 kee6 hw5 hgL
  try dsimp only [Act.put]
  go_wp2_with fail
  go_loopw [24] (fun i wr => ∃ k : Nat, k ≤ 64 ∧ i = .int .i64 k ∧ Cx wr gT 1057 (tbF (.pointer p) s (dk s 1) (tbT s k)) ∧ Ar wr gL 16 (dk s (k + 1)) ∧ Below w.heap.size w wr) (fun i _ => 64 - (intOf i).toNat)
  case atStart => exact ⟨0, Nat.zero_le _, rfl, hT7, hL6, hB6⟩
  case round =>
    clear hT7 hL6 hB6
    obtain ⟨k, hk, rfl, hT, hL, hB⟩ := hrel
    by_cases hlt : k < 64
    · have i1 : (k : Int) < 64 := by omega
      go_wp2_with (refine wpList_load_ar rfl _ _ rfl _ _ _ rfl hL Tryd.arr16b (size16b _) ?_)
      refine (bdouble (dk s (k + 1)) _ (hsl.out (k + 1))).mono ?_
      rintro e wa ⟨rfl, hq⟩
      rw [show dbF (dk s (k + 1)) = dk s (k + 2) from rfl]
      have hTa := hT.to (by decide) hq
      have hLa := hL.to (by omega) hq
      have hBa := hB.trans (hq.mono hB.size)
      clear hT hL hB hq
      go_upto_region 8 with (first | (refine wpList_store_ar rfl _ _ _ rfl _ _ _ (dk s (k + 2)) rfl rfl hLa (size16b _) ?_; intro wb hLb bel siz kee) | fail)
      have hTwb := hTa.keep hlL bel
      have hBb := hBa.trans (bel.mono (by omega))
      clear hTa hLa hBa bel siz kee
      try dsimp only [Act.put]
      have hTad := hTwb.drew
      refine wp_region_held_drew (S := fun W => Ar W gL 16 (dk s (k + 2)) ∧ Below w.heap.size w W) (by kernel_rfl) ⟨hLb.drew, hBb.drew⟩ (fun hHeld => ?_)
      clear hLb hBb hTwb
      generalize World.drew wb = ad at *
      refine wpAnyH_take (i := 0) (v := ?va1) rfl (by kernel_rfl) (by kernel_rfl) (by kernel_rfl) (fun _ _ _ h => h) (Or.inl ⟨by rfl, ?hya1⟩) (by assumption) ?resta1
      case hya1 =>
        intro W hSw
        go_simp
        try with_reducible rfl
      simp only [Act.put, List.setIfInBounds_toArray, List.set_cons_zero, List.set_cons_succ, List.getElem_toArray, List.getElem_cons_zero]
      refine wpAnyH_take (i := 1) (v := ?va2) rfl (by kernel_rfl) (by kernel_rfl) (by kernel_rfl) (fun _ _ _ h => h) (Or.inl ⟨by rfl, ?hya2⟩) (by assumption) ?resta2
      case hya2 =>
        intro W hSw
        go_simp
        try with_reducible rfl
      simp only [Act.put, List.setIfInBounds_toArray, List.set_cons_zero, List.set_cons_succ, List.getElem_toArray, List.getElem_cons_zero, List.getElem_cons_succ]
      refine wpAnyH_take (i := 2) (v := .agg (arL 16 (dk s (k + 2))).toArray) rfl (by kernel_rfl) (by kernel_rfl) (by kernel_rfl) (fun _ _ _ h => h) (yieldsIf_load_mid (by rfl) _ _ rfl gL (0) rfl (arL 16 (dk s (k + 2))) _ (fun W hSw => hSw.1.range) Tryd.arr16b rfl (size16b _)) (by assumption) ?_
      simp only [Act.put, List.setIfInBounds_toArray, List.set_cons_zero, List.set_cons_succ, List.getElem_toArray, List.getElem_cons_zero, List.getElem_cons_succ]
      refine wpAnyH_take (i := 3) (v := ?va3) rfl (by kernel_rfl) (by kernel_rfl) (by kernel_rfl) (fun _ _ _ h => h) (Or.inl ⟨by rfl, ?hya3⟩) (by assumption) ?resta3
      case hya3 =>
        intro W hSw
        go_simp
        try with_reducible rfl
      simp only [Act.put, List.setIfInBounds_toArray, List.set_cons_zero, List.set_cons_succ, List.getElem_toArray, List.getElem_cons_zero, List.getElem_cons_succ]
      refine wpAnyH_take (i := 4) (v := ?va4) rfl (by kernel_rfl) (by kernel_rfl) (by kernel_rfl) (fun _ _ _ h => h) (Or.inl ⟨by rfl, ?hya4⟩) (by assumption) ?resta4
      case hya4 =>
        intro W hSw
        go_simp
        try with_reducible rfl
      simp only [Act.put, List.setIfInBounds_toArray, List.set_cons_zero, List.set_cons_succ, List.getElem_toArray, List.getElem_cons_zero, List.getElem_cons_succ]
      refine wpAnyH_take (i := 5) (v := ?va5) rfl (by kernel_rfl) (by kernel_rfl) (by kernel_rfl) (fun _ _ _ h => h) (Or.inl ⟨by rfl, ?hya5⟩) (by assumption) ?resta5
      case hya5 =>
        intro W hSw
        go_simp
        try with_reducible rfl
      simp only [Act.put, List.setIfInBounds_toArray, List.set_cons_zero, List.set_cons_succ, List.getElem_toArray, List.getElem_cons_zero, List.getElem_cons_succ]
      refine wpAnyH_ready (rs := [6]) (by kernel_rfl) (by simp) ?_
      refine AllReadyH.cons rfl (fun K hK => ?_) AllReadyH.nil
      rw [if_pos (by rfl)]
      refine wp_store_mid _ _ _ rfl gT (33 + k * 16) (arL 16 (dk s (k + 2))).toArray rfl rfl (hTad.there (33 + k * 16) 16 (by omega)) (size16b _) (all_oneCell_toArray (arL_one 16 (dk s (k + 2)))) ?_
      have hTa6 := hTad.put (33 + k * 16) (arL 16 (dk s (k + 2))) (by rw [arL_len]; omega)
      have hSa6 := show Ar (World.setCells ad gT (33 + k * 16) (arL 16 (dk s (k + 2)))) gL 16 (dk s (k + 2)) ∧ Below w.heap.size w (World.setCells ad gT (33 + k * 16) (arL 16 (dk s (k + 2)))) from ⟨(hHeld.1).apart (b := gT) (by omega) (arL 16 (dk s (k + 2))) (33 + k * 16), (hHeld.2).trans (Below.setCells (Below.refl w.heap.size _) (b := gT) (by omega) (arL 16 (dk s (k + 2))) (33 + k * 16))⟩
      dsimp only [List.toList_toArray]
      generalize World.setCells ad gT (33 + k * 16) (arL 16 (dk s (k + 2))) = a6 at *
      refine hK.out _ _ hSa6 (fun hHeld2 => ?_)
      clear hK K hHeld hSa6 hTad
      have hHeld := hHeld2
      clear hHeld2
      try simp only [Act.put]
      refine wpAnyH_done (by kernel_rfl) ?_ _
      have hT9 := hTa6.ext (fun j hj => tbF_putT (.pointer p) s (dk s 1) (tbT s k) (tbT s (k + 1)) k hlt _ (fun m _ => tbT_step s k m) j hj)
      have hL9 := hHeld.1
      have hB9 := hHeld.2
      clear hHeld hTa6
      go_wp2_with fail
      go_roundw
      case rel => exact ⟨k + 1, by omega, by go_num, hT9, hL9, hB9⟩
      case measure => simp [intOf]; omega
    · obtain rfl : k = 64 := by omega
      go_wp2_with fail
      go_ret
      exact ⟨gT, rfl, hlw, hT, hB⟩
end Go.Proofs.YtblhfmlgpldaeaaDoor
