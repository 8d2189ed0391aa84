/-
  One statement of Encrypt in the reference package of layer 6, as a text of its own: whatever the frame; a variable of its own may be made at any time.
-/
import Derived.Test.YtghcpfcomhfppaaDoorCrg
import Derived.Test.YtghcpfcomhfppaaDoorCrh
import Derived.Test.YtghcpfcomhfppaaDoorFre
import Derived.Test.YtghcpfcomhfppaaDoorReg
import Derived.Deep.RegionHeld3
namespace Go.Proofs.YtghcpfcomhfppaaDoor
open Go.RowKit
set_option linter.unusedVariables false
set_option maxRecDepth 100000

noncomputable def reRegC : Code := ((Tryd.f10.body.bind (regionNo 1)).getD .skip)
set_option maxHeartbeats 4000000 in
theorem reReg (f b pk : Nat → Nat) (gE gC gR B : Nat) (hr0 : arL 16 (fun j => pk (0 + j)) = arL 16 (rk f 0)) (hb : B16 b) (h0l : B16 (rk f 0)) {Q0 : Exit → Act → World → Prop} {t0 t1 t4 t5 t6 t7 t8 t9 t10 t11 t12 t13 t14 t15 t16 t17 t18 t19 t20 t21 t22 t23 t24 t25 t26 t27 t28 t29 t30 t31 t32 t33 : Value} {W0 W : World} (hlB : B ≤ gE) (hlC : gE < gC) (hlR : gC < gR)
    (hCW : Ar W gC 16 b) (hRW : Ar W gR 16 (fun _ => 0)) (hEW : Ar W gE 432 pk) (hBW : Below B W0 W)
    (hQ : ∀ gT w9, gR < gT → Ar w9 gT 16 (tr (adF b (rk f 0))) → Ar w9 gR 16 (fun _ => 0) → Ar w9 gE 432 pk → Below B W0 w9 → Q0 .normal ⟨(t0 :: t1 :: .pointer (some ⟨gE, 0, none⟩) :: .pointer (some ⟨gC, 0, none⟩) :: t4 :: .pointer (some ⟨gT, 0, none⟩) :: t6 :: .agg (arL 16 (b)).toArray :: .agg (arL 16 (tr b)).toArray :: .pointer (some ⟨gE, 0, none⟩) :: .pointer (some ⟨gE, 0, none⟩) :: .agg (arL 16 (rk f 0)).toArray :: .agg (arL 16 (tr (adF b (rk f 0)))).toArray :: t13 :: t14 :: t15 :: t16 :: t17 :: t18 :: t19 :: t20 :: t21 :: t22 :: t23 :: t24 :: t25 :: t26 :: t27 :: t28 :: t29 :: t30 :: t31 :: t32 :: t33 :: []).toArray, []⟩ w9) :
    Code.wp Tryd.prog reRegC Q0 ⟨(t0 :: t1 :: .pointer (some ⟨gE, 0, none⟩) :: .pointer (some ⟨gC, 0, none⟩) :: t4 :: t5 :: t6 :: t7 :: t8 :: t9 :: t10 :: t11 :: t12 :: t13 :: t14 :: t15 :: t16 :: t17 :: t18 :: t19 :: t20 :: t21 :: t22 :: t23 :: t24 :: t25 :: t26 :: t27 :: t28 :: t29 :: t30 :: t31 :: t32 :: t33 :: []).toArray, []⟩ W := by
  have hz := zeroG
  have HQ := Lib.hid hQ
  clear hQ
  refine Code.wp_mono NoPanic.imp ?_
  conv => arg 2; whnf
  refine wp_region_held_drew (S := fun W => W.rangeAt gE 0 (arL 16 (rk f 0))) (by kernel_rfl) (by have q := hEW.rangeO 0 16 (by omega); rw [World.rangeAt_drew]; rwa [hr0] at q) (fun hHeld => ?_)
  have hCd := hCW.drew
  have hRd := hRW.drew
  have hEd := hEW.drew
  have hBd := hBW.drew
  clear hCW hRW hEW hBW
  generalize W.drew = Wd at *
  refine wpAnyH_take (i := 2) (v := ?va2) rfl (by kernel_rfl) (by kernel_rfl) (by kernel_rfl) (fun _ _ _ h => h) (Or.inl ⟨by rfl, ?hya2⟩) (by assumption) ?resta2
  case hya2 =>
    intro W hSw
    go_simp
    try with_reducible rfl
  simp only [Act.put, List.setIfInBounds_toArray, List.set_cons_zero, List.set_cons_succ, List.getElem_toArray, List.getElem_cons_zero, List.getElem_cons_succ]
  refine wpAnyH_take (i := 3) (v := ?va3) rfl (by kernel_rfl) (by kernel_rfl) (by kernel_rfl) (fun _ _ _ h => h) (Or.inl ⟨by rfl, ?hya3⟩) (by assumption) ?resta3
  case hya3 =>
    intro W hSw
    go_simp
    try with_reducible rfl
  simp only [Act.put, List.setIfInBounds_toArray, List.set_cons_zero, List.set_cons_succ, List.getElem_toArray, List.getElem_cons_zero, List.getElem_cons_succ]
  refine wpAnyH_take (i := 4) (v := .agg (arL 16 (rk f 0)).toArray) rfl (by kernel_rfl) (by kernel_rfl) (by kernel_rfl) (fun _ _ _ h => h) (yieldsIf_load_mid (by rfl) _ _ rfl gE 0 rfl (arL 16 (rk f 0)) _ (fun W hSw => hSw) Tryd.arr16b rfl (size16b _)) (by assumption) ?_
  simp only [Act.put, List.setIfInBounds_toArray, List.set_cons_zero, List.set_cons_succ, List.getElem_toArray, List.getElem_cons_zero, List.getElem_cons_succ]
  refine wpAnyH_ready (rs := [0, 6]) (by kernel_rfl) (by simp) ?_
  refine AllReadyH.cons rfl (fun K hK => ?_) (AllReadyH.cons rfl (fun K hK => ?_) AllReadyH.nil)
  · rw [if_pos (by rfl)]
    refine wp_load_mid _ _ rfl gC 0 rfl (arL 16 b) _ hCd.range Tryd.arr16b rfl (size16b _) ?_
    refine hK.out _ _ hHeld (fun hHeld => ?_)
    clear hK K
    try simp only [Act.put, List.setIfInBounds_toArray, List.set_cons_zero, List.set_cons_succ, List.getElem_toArray, List.getElem_cons_zero]
    refine wpAnyH_ready (rs := [1, 6]) (by kernel_rfl) (by simp) ?_
    refine AllReadyH.cons rfl (fun K hK => ?_) (AllReadyH.cons rfl (fun K hK => ?_) AllReadyH.nil)
    · go_simp
      refine (refOf b _).mono ?_
      rintro e v2 ⟨rfl, hq⟩
      go_wp2_with fail
      refine hK.out _ _ (row_kept hHeld hq) (fun hHeld => ?_)
      clear hK K
      have hCv2 := hCd.to (by omega) hq
      have hRv2 := hRd.to (by omega) hq
      have hEv2 := hEd.to (by omega) hq
      have hBv2 := hBd.trans (hq.mono (by have := hEd.lt (by omega); omega))
      clear hq
      try simp only [Act.put, List.setIfInBounds_toArray, List.set_cons_zero, List.set_cons_succ, List.getElem_toArray, List.getElem_cons_zero, List.getElem_cons_succ]
      refine wpAnyH_ready (rs := [5, 6]) (by kernel_rfl) (by simp) ?_
      refine AllReadyH.cons rfl (fun K hK => ?_) (AllReadyH.cons rfl (fun K hK => ?_) AllReadyH.nil)
      · go_simp
        refine (rAdd b (rk f 0) _ hb h0l).mono ?_
        rintro e v3 ⟨rfl, hq⟩
        go_wp2_with fail
        refine hK.out _ _ (row_kept hHeld hq) (fun hHeld => ?_)
        clear hK K
        have hCv3 := hCv2.to (by omega) hq
        have hRv3 := hRv2.to (by omega) hq
        have hEv3 := hEv2.to (by omega) hq
        have hBv3 := hBv2.trans (hq.mono (by have := hEv2.lt (by omega); omega))
        clear hq
        try simp only [Act.put, List.setIfInBounds_toArray, List.set_cons_zero, List.set_cons_succ, List.getElem_toArray, List.getElem_cons_zero, List.getElem_cons_succ]
        refine wpAnyH_ready (rs := [6]) (by kernel_rfl) (by simp) ?_
        refine AllReadyH.cons rfl (fun K hK => ?_) AllReadyH.nil
        obtain ⟨gT4, hgT4⟩ : ∃ g : Nat, v3.heap.size = g := ⟨_, rfl⟩
        have hlT4 : gR < gT4 := by rw [← hgT4]; exact hRv3.lt (by omega)
        have hCnv4 := hCv3.alloc (by omega) (.cells (arL 16 fun _ => 0).toArray 34)
        have hRnv4 := hRv3.alloc (by omega) (.cells (arL 16 fun _ => 0).toArray 34)
        have hEnv4 := hEv3.alloc (by omega) (.cells (arL 16 fun _ => 0).toArray 34)
        have hTnv4 := Ar.new v3 16 (fun _ => 0) 34
        have hBnv4 := hBv3.alloc (by have := hEv3.lt (by omega); omega) (.cells (arL 16 fun _ => 0).toArray 34)
        rw [hgT4] at hTnv4
        obtain ⟨v4, hv4⟩ : ∃ V : World, V = v3.alloc (.cells (arL 16 fun _ => 0).toArray 34) := ⟨_, rfl⟩
        rw [← hv4] at hCnv4 hRnv4 hEnv4 hTnv4 hBnv4
        have hCv4 := hCnv4
        have hRv4 := hRnv4
        have hEv4 := hEnv4
        have hTv4 := hTnv4
        have hBv4 := hBnv4
        clear hCnv4 hRnv4 hEnv4 hTnv4 hBnv4
        go_simp
        try rw [hgT4]
        rw [← hv4]
        refine hK.out _ _ (by have q := hEv4.rangeO 0 16 (by omega); rwa [hr0] at q) (fun hHeld => ?_)
        clear hK K hv4 hgT4
        try simp only [Act.put, List.setIfInBounds_toArray, List.set_cons_zero, List.set_cons_succ, List.getElem_toArray, List.getElem_cons_zero, List.getElem_cons_succ]
        refine wpAnyH_ready (rs := [7]) (by kernel_rfl) (by simp) ?_
        refine AllReadyH.cons rfl (fun K hK => ?_) AllReadyH.nil
        rw [if_pos (by rfl)]
        refine wp_store_mid _ _ _ rfl _ 0 _ rfl rfl (by rw [List.size_toArray, arL_len]; exact hTv4.there) (by rw [List.size_toArray]; exact sizeG _) (all_oneCell_toArray (arL_one 16 _)) ?_
        refine hK.out _ _ (by have q := hEv4.apart (b := gT4) (by omega) (arL 16 (tr (adF b (rk f 0)))) 0; have q2 := q.rangeO 0 16 (by omega); rwa [hr0] at q2) (fun hHeld => ?_)
        clear hK K
        try simp only [Act.put]
        refine wpAnyH_done (by kernel_rfl) ?_ _
        exact NoPanic.normal (HQ.out gT4 _ (by omega) (hTv4.whole _) (hRv4.apart (by omega) _ _) (hEv4.apart (by omega) _ _) (hBv4.trans (Below.setCells (Below.refl _ _) (by omega) _ _)))
      · obtain ⟨gT5, hgT5⟩ : ∃ g : Nat, v2.heap.size = g := ⟨_, rfl⟩
        have hlT5 : gR < gT5 := by rw [← hgT5]; exact hRv2.lt (by omega)
        have hCnv5 := hCv2.alloc (by omega) (.cells (arL 16 fun _ => 0).toArray 34)
        have hRnv5 := hRv2.alloc (by omega) (.cells (arL 16 fun _ => 0).toArray 34)
        have hEnv5 := hEv2.alloc (by omega) (.cells (arL 16 fun _ => 0).toArray 34)
        have hTnv5 := Ar.new v2 16 (fun _ => 0) 34
        have hBnv5 := hBv2.alloc (by have := hEv2.lt (by omega); omega) (.cells (arL 16 fun _ => 0).toArray 34)
        rw [hgT5] at hTnv5
        obtain ⟨v5, hv5⟩ : ∃ V : World, V = v2.alloc (.cells (arL 16 fun _ => 0).toArray 34) := ⟨_, rfl⟩
        rw [← hv5] at hCnv5 hRnv5 hEnv5 hTnv5 hBnv5
        have hCv5 := hCnv5
        have hRv5 := hRnv5
        have hEv5 := hEnv5
        have hTv5 := hTnv5
        have hBv5 := hBnv5
        clear hCnv5 hRnv5 hEnv5 hTnv5 hBnv5
        go_simp
        try rw [hgT5]
        rw [← hv5]
        refine hK.out _ _ (by have q := hEv5.rangeO 0 16 (by omega); rwa [hr0] at q) (fun hHeld => ?_)
        clear hK K hv5 hgT5
        try simp only [Act.put, List.setIfInBounds_toArray, List.set_cons_zero, List.set_cons_succ, List.getElem_toArray, List.getElem_cons_zero, List.getElem_cons_succ]
        refine wpAnyH_ready (rs := [5]) (by kernel_rfl) (by simp) ?_
        refine AllReadyH.cons rfl (fun K hK => ?_) AllReadyH.nil
        go_simp
        refine (rAdd b (rk f 0) _ hb h0l).mono ?_
        rintro e v6 ⟨rfl, hq⟩
        go_wp2_with fail
        refine hK.out _ _ (row_kept hHeld hq) (fun hHeld => ?_)
        clear hK K
        have hCv6 := hCv5.to (by omega) hq
        have hRv6 := hRv5.to (by omega) hq
        have hEv6 := hEv5.to (by omega) hq
        have hTv6 := hTv5.to (by omega) hq
        have hBv6 := hBv5.trans (hq.mono (by have := hEv5.lt (by omega); omega))
        clear hq
        try simp only [Act.put, List.setIfInBounds_toArray, List.set_cons_zero, List.set_cons_succ, List.getElem_toArray, List.getElem_cons_zero, List.getElem_cons_succ]
        refine wpAnyH_ready (rs := [7]) (by kernel_rfl) (by simp) ?_
        refine AllReadyH.cons rfl (fun K hK => ?_) AllReadyH.nil
        rw [if_pos (by rfl)]
        refine wp_store_mid _ _ _ rfl _ 0 _ rfl rfl (by rw [List.size_toArray, arL_len]; exact hTv6.there) (by rw [List.size_toArray]; exact sizeG _) (all_oneCell_toArray (arL_one 16 _)) ?_
        refine hK.out _ _ (by have q := hEv6.apart (b := gT5) (by omega) (arL 16 (tr (adF b (rk f 0)))) 0; have q2 := q.rangeO 0 16 (by omega); rwa [hr0] at q2) (fun hHeld => ?_)
        clear hK K
        try simp only [Act.put]
        refine wpAnyH_done (by kernel_rfl) ?_ _
        exact NoPanic.normal (HQ.out gT5 _ (by omega) (hTv6.whole _) (hRv6.apart (by omega) _ _) (hEv6.apart (by omega) _ _) (hBv6.trans (Below.setCells (Below.refl _ _) (by omega) _ _)))
    · obtain ⟨gT7, hgT7⟩ : ∃ g : Nat, Wd.heap.size = g := ⟨_, rfl⟩
      have hlT7 : gR < gT7 := by rw [← hgT7]; exact hRd.lt (by omega)
      have hCnv7 := hCd.alloc (by omega) (.cells (arL 16 fun _ => 0).toArray 34)
      have hRnv7 := hRd.alloc (by omega) (.cells (arL 16 fun _ => 0).toArray 34)
      have hEnv7 := hEd.alloc (by omega) (.cells (arL 16 fun _ => 0).toArray 34)
      have hTnv7 := Ar.new Wd 16 (fun _ => 0) 34
      have hBnv7 := hBd.alloc (by have := hEd.lt (by omega); omega) (.cells (arL 16 fun _ => 0).toArray 34)
      rw [hgT7] at hTnv7
      obtain ⟨v7, hv7⟩ : ∃ V : World, V = Wd.alloc (.cells (arL 16 fun _ => 0).toArray 34) := ⟨_, rfl⟩
      rw [← hv7] at hCnv7 hRnv7 hEnv7 hTnv7 hBnv7
      have hCv7 := hCnv7
      have hRv7 := hRnv7
      have hEv7 := hEnv7
      have hTv7 := hTnv7
      have hBv7 := hBnv7
      clear hCnv7 hRnv7 hEnv7 hTnv7 hBnv7
      go_simp
      try rw [hgT7]
      rw [← hv7]
      refine hK.out _ _ (by have q := hEv7.rangeO 0 16 (by omega); rwa [hr0] at q) (fun hHeld => ?_)
      clear hK K hv7 hgT7
      try simp only [Act.put, List.setIfInBounds_toArray, List.set_cons_zero, List.set_cons_succ, List.getElem_toArray, List.getElem_cons_zero, List.getElem_cons_succ]
      refine wpAnyH_ready (rs := [1]) (by kernel_rfl) (by simp) ?_
      refine AllReadyH.cons rfl (fun K hK => ?_) AllReadyH.nil
      go_simp
      refine (refOf b _).mono ?_
      rintro e v8 ⟨rfl, hq⟩
      go_wp2_with fail
      refine hK.out _ _ (row_kept hHeld hq) (fun hHeld => ?_)
      clear hK K
      have hCv8 := hCv7.to (by omega) hq
      have hRv8 := hRv7.to (by omega) hq
      have hEv8 := hEv7.to (by omega) hq
      have hTv8 := hTv7.to (by omega) hq
      have hBv8 := hBv7.trans (hq.mono (by have := hEv7.lt (by omega); omega))
      clear hq
      try simp only [Act.put, List.setIfInBounds_toArray, List.set_cons_zero, List.set_cons_succ, List.getElem_toArray, List.getElem_cons_zero, List.getElem_cons_succ]
      refine wpAnyH_ready (rs := [5]) (by kernel_rfl) (by simp) ?_
      refine AllReadyH.cons rfl (fun K hK => ?_) AllReadyH.nil
      go_simp
      refine (rAdd b (rk f 0) _ hb h0l).mono ?_
      rintro e v9 ⟨rfl, hq⟩
      go_wp2_with fail
      refine hK.out _ _ (row_kept hHeld hq) (fun hHeld => ?_)
      clear hK K
      have hCv9 := hCv8.to (by omega) hq
      have hRv9 := hRv8.to (by omega) hq
      have hEv9 := hEv8.to (by omega) hq
      have hTv9 := hTv8.to (by omega) hq
      have hBv9 := hBv8.trans (hq.mono (by have := hEv8.lt (by omega); omega))
      clear hq
      try simp only [Act.put, List.setIfInBounds_toArray, List.set_cons_zero, List.set_cons_succ, List.getElem_toArray, List.getElem_cons_zero, List.getElem_cons_succ]
      refine wpAnyH_ready (rs := [7]) (by kernel_rfl) (by simp) ?_
      refine AllReadyH.cons rfl (fun K hK => ?_) AllReadyH.nil
      rw [if_pos (by rfl)]
      refine wp_store_mid _ _ _ rfl _ 0 _ rfl rfl (by rw [List.size_toArray, arL_len]; exact hTv9.there) (by rw [List.size_toArray]; exact sizeG _) (all_oneCell_toArray (arL_one 16 _)) ?_
      refine hK.out _ _ (by have q := hEv9.apart (b := gT7) (by omega) (arL 16 (tr (adF b (rk f 0)))) 0; have q2 := q.rangeO 0 16 (by omega); rwa [hr0] at q2) (fun hHeld => ?_)
      clear hK K
      try simp only [Act.put]
      refine wpAnyH_done (by kernel_rfl) ?_ _
      exact NoPanic.normal (HQ.out gT7 _ (by omega) (hTv9.whole _) (hRv9.apart (by omega) _ _) (hEv9.apart (by omega) _ _) (hBv9.trans (Below.setCells (Below.refl _ _) (by omega) _ _)))
  · obtain ⟨gT10, hgT10⟩ : ∃ g : Nat, Wd.heap.size = g := ⟨_, rfl⟩
    have hlT10 : gR < gT10 := by rw [← hgT10]; exact hRd.lt (by omega)
    have hCnv10 := hCd.alloc (by omega) (.cells (arL 16 fun _ => 0).toArray 34)
    have hRnv10 := hRd.alloc (by omega) (.cells (arL 16 fun _ => 0).toArray 34)
    have hEnv10 := hEd.alloc (by omega) (.cells (arL 16 fun _ => 0).toArray 34)
    have hTnv10 := Ar.new Wd 16 (fun _ => 0) 34
    have hBnv10 := hBd.alloc (by have := hEd.lt (by omega); omega) (.cells (arL 16 fun _ => 0).toArray 34)
    rw [hgT10] at hTnv10
    obtain ⟨v10, hv10⟩ : ∃ V : World, V = Wd.alloc (.cells (arL 16 fun _ => 0).toArray 34) := ⟨_, rfl⟩
    rw [← hv10] at hCnv10 hRnv10 hEnv10 hTnv10 hBnv10
    have hCv10 := hCnv10
    have hRv10 := hRnv10
    have hEv10 := hEnv10
    have hTv10 := hTnv10
    have hBv10 := hBnv10
    clear hCnv10 hRnv10 hEnv10 hTnv10 hBnv10
    go_simp
    try rw [hgT10]
    rw [← hv10]
    refine hK.out _ _ (by have q := hEv10.rangeO 0 16 (by omega); rwa [hr0] at q) (fun hHeld => ?_)
    clear hK K hv10 hgT10
    try simp only [Act.put, List.setIfInBounds_toArray, List.set_cons_zero, List.set_cons_succ, List.getElem_toArray, List.getElem_cons_zero, List.getElem_cons_succ]
    refine wpAnyH_ready (rs := [0]) (by kernel_rfl) (by simp) ?_
    refine AllReadyH.cons rfl (fun K hK => ?_) AllReadyH.nil
    rw [if_pos (by rfl)]
    refine wp_load_mid _ _ rfl gC 0 rfl (arL 16 b) _ hCv10.range Tryd.arr16b rfl (size16b _) ?_
    refine hK.out _ _ hHeld (fun hHeld => ?_)
    clear hK K
    try simp only [Act.put, List.setIfInBounds_toArray, List.set_cons_zero, List.set_cons_succ, List.getElem_toArray, List.getElem_cons_zero]
    refine wpAnyH_ready (rs := [1]) (by kernel_rfl) (by simp) ?_
    refine AllReadyH.cons rfl (fun K hK => ?_) AllReadyH.nil
    go_simp
    refine (refOf b _).mono ?_
    rintro e v12 ⟨rfl, hq⟩
    go_wp2_with fail
    refine hK.out _ _ (row_kept hHeld hq) (fun hHeld => ?_)
    clear hK K
    have hCv12 := hCv10.to (by omega) hq
    have hRv12 := hRv10.to (by omega) hq
    have hEv12 := hEv10.to (by omega) hq
    have hTv12 := hTv10.to (by omega) hq
    have hBv12 := hBv10.trans (hq.mono (by have := hEv10.lt (by omega); omega))
    clear hq
    try simp only [Act.put, List.setIfInBounds_toArray, List.set_cons_zero, List.set_cons_succ, List.getElem_toArray, List.getElem_cons_zero, List.getElem_cons_succ]
    refine wpAnyH_ready (rs := [5]) (by kernel_rfl) (by simp) ?_
    refine AllReadyH.cons rfl (fun K hK => ?_) AllReadyH.nil
    go_simp
    refine (rAdd b (rk f 0) _ hb h0l).mono ?_
    rintro e v13 ⟨rfl, hq⟩
    go_wp2_with fail
    refine hK.out _ _ (row_kept hHeld hq) (fun hHeld => ?_)
    clear hK K
    have hCv13 := hCv12.to (by omega) hq
    have hRv13 := hRv12.to (by omega) hq
    have hEv13 := hEv12.to (by omega) hq
    have hTv13 := hTv12.to (by omega) hq
    have hBv13 := hBv12.trans (hq.mono (by have := hEv12.lt (by omega); omega))
    clear hq
    try simp only [Act.put, List.setIfInBounds_toArray, List.set_cons_zero, List.set_cons_succ, List.getElem_toArray, List.getElem_cons_zero, List.getElem_cons_succ]
    refine wpAnyH_ready (rs := [7]) (by kernel_rfl) (by simp) ?_
    refine AllReadyH.cons rfl (fun K hK => ?_) AllReadyH.nil
    rw [if_pos (by rfl)]
    refine wp_store_mid _ _ _ rfl _ 0 _ rfl rfl (by rw [List.size_toArray, arL_len]; exact hTv13.there) (by rw [List.size_toArray]; exact sizeG _) (all_oneCell_toArray (arL_one 16 _)) ?_
    refine hK.out _ _ (by have q := hEv13.apart (b := gT10) (by omega) (arL 16 (tr (adF b (rk f 0)))) 0; have q2 := q.rangeO 0 16 (by omega); rwa [hr0] at q2) (fun hHeld => ?_)
    clear hK K
    try simp only [Act.put]
    refine wpAnyH_done (by kernel_rfl) ?_ _
    exact NoPanic.normal (HQ.out gT10 _ (by omega) (hTv13.whole _) (hRv13.apart (by omega) _ _) (hEv13.apart (by omega) _ _) (hBv13.trans (Below.setCells (Below.refl _ _) (by omega) _ _)))
end Go.Proofs.YtghcpfcomhfppaaDoor
