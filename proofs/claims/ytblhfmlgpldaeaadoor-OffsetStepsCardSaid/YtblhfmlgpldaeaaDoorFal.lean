/-
  Contract of the method Encrypt of fast.Cipher, by a walk through its text; what was there stays as it was.
-/
import Derived.Test.YtblhfmlgpldaeaaDoorFak
import Derived.Test.YtblhfmlgpldaeaaDoorFah
import Derived.Test.YtblhfmlgpldaeaaDoorFad
import Derived.Test.YtblhfmlgpldaeaaDoorFae
import Derived.Test.YtblhfmlgpldaeaaDoorFag
import Derived.Test.YtblhfmlgpldaeaaDoorGke
import Derived.Deep.RegionHeld3
namespace Go.Proofs.YtblhfmlgpldaeaaDoor
open Go.RowKit
set_option linter.unusedVariables false
set_option maxRecDepth 100000

noncomputable def fencryptRegC : Code := ((Tryd.f28.body.bind (regionNo 2)).getD .skip)
set_option maxHeartbeats 4000000 in
theorem fencryptReg (f b : Nat → Nat) (gB gC gR : Nat) {Q0 : Exit → Act → World → Prop} {t1 t2 t5 t6 t7 t8 t9 t10 t11 t12 t13 t14 t15 t16 t17 t18 t19 t20 t21 t22 t23 t24 t25 t26 t27 t28 t29 t30 t31 t32 t33 t34 t35 t36 t37 t38 t39 t40 : Value} {w W : World} (hb : B16 b) (hk : B16 (rk f 0)) (hlB : w.heap.size ≤ gB) (hlR : gB < gR) (hbW : Ar W gB 16 b) (hCW : Ci W gC f) (hRW : Ar W gR 16 (fun _ => 0)) (hBW : Below w.heap.size w W)
    (hQ : ∀ (gT : Nat) (w9 : World) (u9 u10 u11 u12 u13 u14 u15 u16 : Value), gR < gT → gC < gT → Aw w9 gT 4 (wd (adF b (rk f 0))) → Ar w9 gB 16 b → Ci w9 gC f → Ar w9 gR 16 (fun _ => 0) → Below w.heap.size w w9 → Q0 .normal ⟨(.pointer (some ⟨gC, 0, none⟩) :: t1 :: t2 :: .pointer (some ⟨gB, 0, none⟩) :: .pointer (some ⟨gR, 0, none⟩) :: .pointer (some ⟨gT, 0, none⟩) :: t6 :: t7 :: t8 :: u9 :: u10 :: u11 :: u12 :: u13 :: u14 :: u15 :: u16 :: t17 :: t18 :: t19 :: t20 :: t21 :: t22 :: t23 :: t24 :: t25 :: t26 :: t27 :: t28 :: t29 :: t30 :: t31 :: t32 :: t33 :: t34 :: t35 :: t36 :: t37 :: t38 :: t39 :: t40 :: []).toArray, []⟩ w9) :
    Code.wp Tryd.prog fencryptRegC Q0 ⟨(.pointer (some ⟨gC, 0, none⟩) :: t1 :: t2 :: .pointer (some ⟨gB, 0, none⟩) :: .pointer (some ⟨gR, 0, none⟩) :: t5 :: t6 :: t7 :: t8 :: t9 :: t10 :: t11 :: t12 :: t13 :: t14 :: t15 :: t16 :: t17 :: t18 :: t19 :: t20 :: t21 :: t22 :: t23 :: t24 :: t25 :: t26 :: t27 :: t28 :: t29 :: t30 :: t31 :: t32 :: t33 :: t34 :: t35 :: t36 :: t37 :: t38 :: t39 :: t40 :: []).toArray, []⟩ W := by
  have HQ := Lib.hid hQ
  clear hQ
  refine Code.wp_mono NoPanic.imp ?_
  conv => arg 2; whnf
  refine wp_region_held_drew (S := fun W => Ar W gB 16 (b) ∧ Ci W gC (f) ∧ Ar W gR 16 (fun _ => 0) ∧ Below w.heap.size w W) (by kernel_rfl) ⟨hbW, hCW.drew, hRW, hBW.drew⟩ (fun hHeld => ?_)
  clear hbW hCW hRW hBW 
  generalize World.drew W = ad at *
  refine wpAnyH_take (i := 0) (v := .agg (arL 16 (b)).toArray) rfl (by kernel_rfl) (by kernel_rfl) (by kernel_rfl) (fun _ _ _ h => h) (yieldsIf_load_mid (by rfl) _ _ rfl gB (0) rfl (arL 16 (b)) _ (fun W hSw => hSw.1.range) Tryd.arr16b rfl (size16b _)) (by assumption) ?_
  simp only [Act.put, List.setIfInBounds_toArray, List.set_cons_zero, List.set_cons_succ, List.getElem_toArray, List.getElem_cons_zero]
  refine wpAnyH_take (i := 2) (v := ?va1) rfl (by kernel_rfl) (by kernel_rfl) (by kernel_rfl) (fun _ _ _ h => h) (Or.inl ⟨by rfl, ?hya1⟩) (by assumption) ?resta1
  case hya1 =>
    intro W hSw
    go_simp
    try with_reducible rfl
  simp only [Act.put, List.setIfInBounds_toArray, List.set_cons_zero, List.set_cons_succ, List.getElem_toArray, List.getElem_cons_zero, List.getElem_cons_succ]
  refine wpAnyH_take (i := 3) (v := ?va2) rfl (by kernel_rfl) (by kernel_rfl) (by kernel_rfl) (fun _ _ _ h => h) (Or.inl ⟨by rfl, ?hya2⟩) (by assumption) ?resta2
  case hya2 =>
    intro W hSw
    go_simp
    try with_reducible rfl
  simp only [Act.put, List.setIfInBounds_toArray, List.set_cons_zero, List.set_cons_succ, List.getElem_toArray, List.getElem_cons_zero, List.getElem_cons_succ]
  refine wpAnyH_take (i := 4) (v := ?va3) rfl (by kernel_rfl) (by kernel_rfl) (by kernel_rfl) (fun _ _ _ h => h) (Or.inl ⟨by rfl, ?hya3⟩) (by assumption) ?resta3
  case hya3 =>
    intro W hSw
    go_simp
    try with_reducible rfl
  simp only [Act.put, List.setIfInBounds_toArray, List.set_cons_zero, List.set_cons_succ, List.getElem_toArray, List.getElem_cons_zero, List.getElem_cons_succ]
  refine wpAnyH_take (i := 5) (v := ?va4) rfl (by kernel_rfl) (by kernel_rfl) (by kernel_rfl) (fun _ _ _ h => h) (Or.inl ⟨by rfl, ?hya4⟩) (by assumption) ?resta4
  case hya4 =>
    intro W hSw
    go_simp
    try with_reducible rfl
  simp only [Act.put, List.setIfInBounds_toArray, List.set_cons_zero, List.set_cons_succ, List.getElem_toArray, List.getElem_cons_zero, List.getElem_cons_succ]
  refine wpAnyH_take (i := 6) (v := .agg (awL 4 (wd (rk f 0))).toArray) rfl (by kernel_rfl) (by kernel_rfl) (by kernel_rfl) (fun _ _ _ h => h) (yieldsIf_load_mid (by rfl) _ _ rfl gC (16) rfl (awL 4 (wd (rk f 0))) _ (fun W hSw => (hSw.2.1).there 0 (by decide)) Tryd.arrCw rfl (sizeCw _)) (by assumption) ?_
  simp only [Act.put, List.setIfInBounds_toArray, List.set_cons_zero, List.set_cons_succ, List.getElem_toArray, List.getElem_cons_zero, List.getElem_cons_succ]
  refine wpAnyH_ready (rs := [1, 8]) (by kernel_rfl) (by simp) ?_
  refine AllReadyH.cons rfl (fun K hK => ?_) (AllReadyH.cons rfl (fun K hK => ?_) AllReadyH.nil)
  · go_simp
    refine (fsplit b _ hb).mono ?_
    rintro e a5 ⟨rfl, hq⟩
    go_wp2_with fail
    refine hK.out _ _ ⟨(hHeld.1).to (by omega) hq, (hHeld.2.1).to hq, (hHeld.2.2.1).to (by omega) hq, (hHeld.2.2.2).trans (hq.mono (hHeld.2.2.2).size)⟩ (fun hHeld2 => ?_)
    clear hK K hHeld hq
    have hHeld := hHeld2
    clear hHeld2
    try simp only [Act.put, List.setIfInBounds_toArray, List.set_cons_zero, List.set_cons_succ, List.getElem_toArray, List.getElem_cons_zero, List.getElem_cons_succ]
    refine wpAnyH_ready (rs := [7, 8]) (by kernel_rfl) (by simp) ?_
    refine AllReadyH.cons rfl (fun K hK => ?_) (AllReadyH.cons rfl (fun K hK => ?_) AllReadyH.nil)
    · go_simp
      refine (fadd b (rk f 0) _ hb hk).mono ?_
      rintro e a6 ⟨rfl, hq⟩
      go_wp2_with fail
      refine hK.out _ _ ⟨(hHeld.1).to (by omega) hq, (hHeld.2.1).to hq, (hHeld.2.2.1).to (by omega) hq, (hHeld.2.2.2).trans (hq.mono (hHeld.2.2.2).size)⟩ (fun hHeld2 => ?_)
      clear hK K hHeld hq
      have hHeld := hHeld2
      clear hHeld2
      try simp only [Act.put, List.setIfInBounds_toArray, List.set_cons_zero, List.set_cons_succ, List.getElem_toArray, List.getElem_cons_zero, List.getElem_cons_succ]
      refine wpAnyH_ready (rs := [8]) (by kernel_rfl) (by simp) ?_
      refine AllReadyH.cons rfl (fun K hK => ?_) AllReadyH.nil
      obtain ⟨gT, hggT⟩ : ∃ g : Nat, a6.heap.size = g := ⟨_, rfl⟩
      have hlgRgT : gR < gT := by rw [← hggT]; exact (hHeld.2.2.1).lt (by omega)
      have hlgCgT : gC < gT := by rw [← hggT]; exact (hHeld.2.1).lt
      have hq : Below a6.heap.size a6 (a6.alloc (.cells #[.int .u32 0, .int .u32 0, .int .u32 0, .int .u32 0] 59)) := (Below.refl _ _).alloc (Nat.le_refl _) _
      have hTa7 := Aw.new a6 4 (fun _ => 0) 59
      rw [hggT] at hTa7
      have hSa7 := show Ar (a6.alloc (.cells #[.int .u32 0, .int .u32 0, .int .u32 0, .int .u32 0] 59)) gB 16 (b) ∧ Ci (a6.alloc (.cells #[.int .u32 0, .int .u32 0, .int .u32 0, .int .u32 0] 59)) gC (f) ∧ Ar (a6.alloc (.cells #[.int .u32 0, .int .u32 0, .int .u32 0, .int .u32 0] 59)) gR 16 (fun _ => 0) ∧ Below w.heap.size w (a6.alloc (.cells #[.int .u32 0, .int .u32 0, .int .u32 0, .int .u32 0] 59)) from ⟨(hHeld.1).to (by omega) hq, (hHeld.2.1).to hq, (hHeld.2.2.1).to (by omega) hq, (hHeld.2.2.2).trans (hq.mono (hHeld.2.2.2).size)⟩
      go_simp
      obtain ⟨a7, hwa7⟩ : ∃ V : World, V = a6.alloc (.cells #[.int .u32 0, .int .u32 0, .int .u32 0, .int .u32 0] 59) := ⟨_, rfl⟩
      rw [show a6.alloc (.cells #[.int .u32 0, .int .u32 0, .int .u32 0, .int .u32 0] 59) = a7 from hwa7.symm] at hSa7
      have hTa7 : Aw a7 gT 4 (fun _ => 0) := by rw [hwa7]; exact hTa7
      try rw [hggT]
      rw [← hwa7]
      refine hK.out _ _ hSa7 (fun hHeld2 => ?_)
      clear hK K hHeld hq hSa7 hwa7 hggT
      have hHeld := hHeld2
      clear hHeld2
      try simp only [Act.put, List.setIfInBounds_toArray, List.set_cons_zero, List.set_cons_succ, List.getElem_toArray, List.getElem_cons_zero, List.getElem_cons_succ]
      refine wpAnyH_ready (rs := [9]) (by kernel_rfl) (by simp) ?_
      refine AllReadyH.cons rfl (fun K hK => ?_) AllReadyH.nil
      rw [if_pos (by rfl)]
      refine wp_store_mid _ _ _ rfl gT 0 (awL 4 (wd (adF b (rk f 0)))).toArray rfl rfl hTa7.there (sizeCw _) (all_oneCell_toArray (awL_one 4 (wd (adF b (rk f 0))))) ?_
      have hTa8 := hTa7.whole (wd (adF b (rk f 0)))
      have hSa8 := show Ar (World.setCells a7 gT 0 (awL 4 (wd (adF b (rk f 0))))) gB 16 (b) ∧ Ci (World.setCells a7 gT 0 (awL 4 (wd (adF b (rk f 0))))) gC (f) ∧ Ar (World.setCells a7 gT 0 (awL 4 (wd (adF b (rk f 0))))) gR 16 (fun _ => 0) ∧ Below w.heap.size w (World.setCells a7 gT 0 (awL 4 (wd (adF b (rk f 0))))) from ⟨(hHeld.1).apart (b := gT) (by omega) (awL 4 (wd (adF b (rk f 0)))) 0, Cx.apart (hHeld.2.1) (b := gT) (by omega) (awL 4 (wd (adF b (rk f 0)))) 0, (hHeld.2.2.1).apart (b := gT) (by omega) (awL 4 (wd (adF b (rk f 0)))) 0, (hHeld.2.2.2).trans (Below.setCells (Below.refl w.heap.size _) (b := gT) (by omega) (awL 4 (wd (adF b (rk f 0)))) 0)⟩
      dsimp only [List.toList_toArray]
      generalize World.setCells a7 gT 0 (awL 4 (wd (adF b (rk f 0)))) = a8 at *
      refine hK.out _ _ hSa8 (fun hHeld2 => ?_)
      clear hK K hHeld hSa8 hTa7
      have hHeld := hHeld2
      clear hHeld2
      try simp only [Act.put]
      refine wpAnyH_done (by kernel_rfl) ?_ _
      exact NoPanic.normal (HQ.out gT a8 _ _ _ _ _ _ _ _ (by omega) (by omega) hTa8 hHeld.1 hHeld.2.1 hHeld.2.2.1 hHeld.2.2.2)
    · obtain ⟨gT, hggT⟩ : ∃ g : Nat, a5.heap.size = g := ⟨_, rfl⟩
      have hlgRgT : gR < gT := by rw [← hggT]; exact (hHeld.2.2.1).lt (by omega)
      have hlgCgT : gC < gT := by rw [← hggT]; exact (hHeld.2.1).lt
      have hq : Below a5.heap.size a5 (a5.alloc (.cells #[.int .u32 0, .int .u32 0, .int .u32 0, .int .u32 0] 59)) := (Below.refl _ _).alloc (Nat.le_refl _) _
      have hTa9 := Aw.new a5 4 (fun _ => 0) 59
      rw [hggT] at hTa9
      have hSa9 := show Ar (a5.alloc (.cells #[.int .u32 0, .int .u32 0, .int .u32 0, .int .u32 0] 59)) gB 16 (b) ∧ Ci (a5.alloc (.cells #[.int .u32 0, .int .u32 0, .int .u32 0, .int .u32 0] 59)) gC (f) ∧ Ar (a5.alloc (.cells #[.int .u32 0, .int .u32 0, .int .u32 0, .int .u32 0] 59)) gR 16 (fun _ => 0) ∧ Below w.heap.size w (a5.alloc (.cells #[.int .u32 0, .int .u32 0, .int .u32 0, .int .u32 0] 59)) from ⟨(hHeld.1).to (by omega) hq, (hHeld.2.1).to hq, (hHeld.2.2.1).to (by omega) hq, (hHeld.2.2.2).trans (hq.mono (hHeld.2.2.2).size)⟩
      go_simp
      obtain ⟨a9, hwa9⟩ : ∃ V : World, V = a5.alloc (.cells #[.int .u32 0, .int .u32 0, .int .u32 0, .int .u32 0] 59) := ⟨_, rfl⟩
      rw [show a5.alloc (.cells #[.int .u32 0, .int .u32 0, .int .u32 0, .int .u32 0] 59) = a9 from hwa9.symm] at hSa9
      have hTa9 : Aw a9 gT 4 (fun _ => 0) := by rw [hwa9]; exact hTa9
      try rw [hggT]
      rw [← hwa9]
      refine hK.out _ _ hSa9 (fun hHeld2 => ?_)
      clear hK K hHeld hq hSa9 hwa9 hggT
      have hHeld := hHeld2
      clear hHeld2
      try simp only [Act.put, List.setIfInBounds_toArray, List.set_cons_zero, List.set_cons_succ, List.getElem_toArray, List.getElem_cons_zero, List.getElem_cons_succ]
      refine wpAnyH_ready (rs := [7]) (by kernel_rfl) (by simp) ?_
      refine AllReadyH.cons rfl (fun K hK => ?_) AllReadyH.nil
      go_simp
      refine (fadd b (rk f 0) _ hb hk).mono ?_
      rintro e a10 ⟨rfl, hq⟩
      go_wp2_with fail
      have hTa10 := (hTa9).to (by omega) hq
      refine hK.out _ _ ⟨(hHeld.1).to (by omega) hq, (hHeld.2.1).to hq, (hHeld.2.2.1).to (by omega) hq, (hHeld.2.2.2).trans (hq.mono (hHeld.2.2.2).size)⟩ (fun hHeld2 => ?_)
      clear hK K hHeld hq hTa9
      have hHeld := hHeld2
      clear hHeld2
      try simp only [Act.put, List.setIfInBounds_toArray, List.set_cons_zero, List.set_cons_succ, List.getElem_toArray, List.getElem_cons_zero, List.getElem_cons_succ]
      refine wpAnyH_ready (rs := [9]) (by kernel_rfl) (by simp) ?_
      refine AllReadyH.cons rfl (fun K hK => ?_) AllReadyH.nil
      rw [if_pos (by rfl)]
      refine wp_store_mid _ _ _ rfl gT 0 (awL 4 (wd (adF b (rk f 0)))).toArray rfl rfl hTa10.there (sizeCw _) (all_oneCell_toArray (awL_one 4 (wd (adF b (rk f 0))))) ?_
      have hTa11 := hTa10.whole (wd (adF b (rk f 0)))
      have hSa11 := show Ar (World.setCells a10 gT 0 (awL 4 (wd (adF b (rk f 0))))) gB 16 (b) ∧ Ci (World.setCells a10 gT 0 (awL 4 (wd (adF b (rk f 0))))) gC (f) ∧ Ar (World.setCells a10 gT 0 (awL 4 (wd (adF b (rk f 0))))) gR 16 (fun _ => 0) ∧ Below w.heap.size w (World.setCells a10 gT 0 (awL 4 (wd (adF b (rk f 0))))) from ⟨(hHeld.1).apart (b := gT) (by omega) (awL 4 (wd (adF b (rk f 0)))) 0, Cx.apart (hHeld.2.1) (b := gT) (by omega) (awL 4 (wd (adF b (rk f 0)))) 0, (hHeld.2.2.1).apart (b := gT) (by omega) (awL 4 (wd (adF b (rk f 0)))) 0, (hHeld.2.2.2).trans (Below.setCells (Below.refl w.heap.size _) (b := gT) (by omega) (awL 4 (wd (adF b (rk f 0)))) 0)⟩
      dsimp only [List.toList_toArray]
      generalize World.setCells a10 gT 0 (awL 4 (wd (adF b (rk f 0)))) = a11 at *
      refine hK.out _ _ hSa11 (fun hHeld2 => ?_)
      clear hK K hHeld hSa11 hTa10
      have hHeld := hHeld2
      clear hHeld2
      try simp only [Act.put]
      refine wpAnyH_done (by kernel_rfl) ?_ _
      exact NoPanic.normal (HQ.out gT a11 _ _ _ _ _ _ _ _ (by omega) (by omega) hTa11 hHeld.1 hHeld.2.1 hHeld.2.2.1 hHeld.2.2.2)
  · obtain ⟨gT, hggT⟩ : ∃ g : Nat, ad.heap.size = g := ⟨_, rfl⟩
    have hlgRgT : gR < gT := by rw [← hggT]; exact (hHeld.2.2.1).lt (by omega)
    have hlgCgT : gC < gT := by rw [← hggT]; exact (hHeld.2.1).lt
    have hq : Below ad.heap.size ad (ad.alloc (.cells #[.int .u32 0, .int .u32 0, .int .u32 0, .int .u32 0] 59)) := (Below.refl _ _).alloc (Nat.le_refl _) _
    have hTa12 := Aw.new ad 4 (fun _ => 0) 59
    rw [hggT] at hTa12
    have hSa12 := show Ar (ad.alloc (.cells #[.int .u32 0, .int .u32 0, .int .u32 0, .int .u32 0] 59)) gB 16 (b) ∧ Ci (ad.alloc (.cells #[.int .u32 0, .int .u32 0, .int .u32 0, .int .u32 0] 59)) gC (f) ∧ Ar (ad.alloc (.cells #[.int .u32 0, .int .u32 0, .int .u32 0, .int .u32 0] 59)) gR 16 (fun _ => 0) ∧ Below w.heap.size w (ad.alloc (.cells #[.int .u32 0, .int .u32 0, .int .u32 0, .int .u32 0] 59)) from ⟨(hHeld.1).to (by omega) hq, (hHeld.2.1).to hq, (hHeld.2.2.1).to (by omega) hq, (hHeld.2.2.2).trans (hq.mono (hHeld.2.2.2).size)⟩
    go_simp
    obtain ⟨a12, hwa12⟩ : ∃ V : World, V = ad.alloc (.cells #[.int .u32 0, .int .u32 0, .int .u32 0, .int .u32 0] 59) := ⟨_, rfl⟩
    rw [show ad.alloc (.cells #[.int .u32 0, .int .u32 0, .int .u32 0, .int .u32 0] 59) = a12 from hwa12.symm] at hSa12
    have hTa12 : Aw a12 gT 4 (fun _ => 0) := by rw [hwa12]; exact hTa12
    try rw [hggT]
    rw [← hwa12]
    refine hK.out _ _ hSa12 (fun hHeld2 => ?_)
    clear hK K hHeld hq hSa12 hwa12 hggT
    have hHeld := hHeld2
    clear hHeld2
    try simp only [Act.put, List.setIfInBounds_toArray, List.set_cons_zero, List.set_cons_succ, List.getElem_toArray, List.getElem_cons_zero, List.getElem_cons_succ]
    refine wpAnyH_ready (rs := [1]) (by kernel_rfl) (by simp) ?_
    refine AllReadyH.cons rfl (fun K hK => ?_) AllReadyH.nil
    go_simp
    refine (fsplit b _ hb).mono ?_
    rintro e a13 ⟨rfl, hq⟩
    go_wp2_with fail
    have hTa13 := (hTa12).to (by omega) hq
    refine hK.out _ _ ⟨(hHeld.1).to (by omega) hq, (hHeld.2.1).to hq, (hHeld.2.2.1).to (by omega) hq, (hHeld.2.2.2).trans (hq.mono (hHeld.2.2.2).size)⟩ (fun hHeld2 => ?_)
    clear hK K hHeld hq hTa12
    have hHeld := hHeld2
    clear hHeld2
    try simp only [Act.put, List.setIfInBounds_toArray, List.set_cons_zero, List.set_cons_succ, List.getElem_toArray, List.getElem_cons_zero, List.getElem_cons_succ]
    refine wpAnyH_ready (rs := [7]) (by kernel_rfl) (by simp) ?_
    refine AllReadyH.cons rfl (fun K hK => ?_) AllReadyH.nil
    go_simp
    refine (fadd b (rk f 0) _ hb hk).mono ?_
    rintro e a14 ⟨rfl, hq⟩
    go_wp2_with fail
    have hTa14 := (hTa13).to (by omega) hq
    refine hK.out _ _ ⟨(hHeld.1).to (by omega) hq, (hHeld.2.1).to hq, (hHeld.2.2.1).to (by omega) hq, (hHeld.2.2.2).trans (hq.mono (hHeld.2.2.2).size)⟩ (fun hHeld2 => ?_)
    clear hK K hHeld hq hTa13
    have hHeld := hHeld2
    clear hHeld2
    try simp only [Act.put, List.setIfInBounds_toArray, List.set_cons_zero, List.set_cons_succ, List.getElem_toArray, List.getElem_cons_zero, List.getElem_cons_succ]
    refine wpAnyH_ready (rs := [9]) (by kernel_rfl) (by simp) ?_
    refine AllReadyH.cons rfl (fun K hK => ?_) AllReadyH.nil
    rw [if_pos (by rfl)]
    refine wp_store_mid _ _ _ rfl gT 0 (awL 4 (wd (adF b (rk f 0)))).toArray rfl rfl hTa14.there (sizeCw _) (all_oneCell_toArray (awL_one 4 (wd (adF b (rk f 0))))) ?_
    have hTa15 := hTa14.whole (wd (adF b (rk f 0)))
    have hSa15 := show Ar (World.setCells a14 gT 0 (awL 4 (wd (adF b (rk f 0))))) gB 16 (b) ∧ Ci (World.setCells a14 gT 0 (awL 4 (wd (adF b (rk f 0))))) gC (f) ∧ Ar (World.setCells a14 gT 0 (awL 4 (wd (adF b (rk f 0))))) gR 16 (fun _ => 0) ∧ Below w.heap.size w (World.setCells a14 gT 0 (awL 4 (wd (adF b (rk f 0))))) from ⟨(hHeld.1).apart (b := gT) (by omega) (awL 4 (wd (adF b (rk f 0)))) 0, Cx.apart (hHeld.2.1) (b := gT) (by omega) (awL 4 (wd (adF b (rk f 0)))) 0, (hHeld.2.2.1).apart (b := gT) (by omega) (awL 4 (wd (adF b (rk f 0)))) 0, (hHeld.2.2.2).trans (Below.setCells (Below.refl w.heap.size _) (b := gT) (by omega) (awL 4 (wd (adF b (rk f 0)))) 0)⟩
    dsimp only [List.toList_toArray]
    generalize World.setCells a14 gT 0 (awL 4 (wd (adF b (rk f 0)))) = a15 at *
    refine hK.out _ _ hSa15 (fun hHeld2 => ?_)
    clear hK K hHeld hSa15 hTa14
    have hHeld := hHeld2
    clear hHeld2
    try simp only [Act.put]
    refine wpAnyH_done (by kernel_rfl) ?_ _
    exact NoPanic.normal (HQ.out gT a15 _ _ _ _ _ _ _ _ (by omega) (by omega) hTa15 hHeld.1 hHeld.2.1 hHeld.2.2.1 hHeld.2.2.2)

set_option maxHeartbeats 4000000 in
theorem fencrypt (v : Value) (f b : Nat → Nat) (w : World) (hf : B16 f) (hb : B16 b) (hv : CipV w v f) (h : Boxes w) :
    Calls Tryd.prog 28 #[v, .agg (arL 16 b).toArray] w fun e w' => e = .returned (.agg (arL 16 (enF f b)).toArray) ∧ Below w.heap.size w w' := by
  have hz := zero16b
  obtain ⟨kB, hkB⟩ : ∃ kB : Array Value, (arL 16 b).toArray = kB := ⟨_, rfl⟩
  obtain ⟨w1, hw1⟩ : ∃ w1 : World, w1 = w.alloc (.cells (arL 16 b).toArray 22) := ⟨_, rfl⟩
  have hs1 : w1.heap.size = w.heap.size + 1 := by rw [hw1]; simp
  have hb1 : Below w.heap.size w w1 := by rw [hw1]; exact (Below.refl _ _).alloc (Nat.le_refl _) _
  have hK1 : Ar w1 w.heap.size 16 b := by rw [hw1]; exact Ar.new w 16 b _
  obtain ⟨w2, hw2⟩ : ∃ w2 : World, w2 = w1.alloc (.cells (arL 16 fun _ => 0).toArray 22) := ⟨_, rfl⟩
  have hb2 : Below w.heap.size w w2 := by rw [hw2]; exact hb1.alloc (by omega) _
  have hR2 : Ar w2 (w.heap.size + 1) 16 (fun _ => 0) := by rw [hw2, ← hs1]; exact Ar.new w1 16 _ _
  have hK2 : Ar w2 w.heap.size 16 b := by rw [hw2]; exact hK1.alloc (by omega) _
  have HF := Lib.hid hf
  have HBB := Lib.hid hb
  have HX := Lib.hid h
  have hv2 := Lib.hid (hv w2 hb2)
  rw [hkB] at hw1
  rw [hkB]
  clear hb1 hK1 hkB hf hb h hv
  go_enter Tryd.func28, Tryd.ntmps28
  go_upto_region 1 with fail
  rw [← hw1, ← hw2]
  clear hw1 hw2 hs1
  obtain ⟨gB, hgB⟩ : ∃ gB : Nat, w.heap.size = gB := ⟨_, rfl⟩
  obtain ⟨gR, hgR⟩ : ∃ gR : Nat, w.heap.size + 1 = gR := ⟨_, rfl⟩
  have hlB : w.heap.size ≤ gB := by omega
  have hlR : gB < gR := by omega
  rw [hgR] at hR2
  rw [hgB] at hK2
  try rw [hgR]
  try simp only [hgB]
  clear hgR
  go_wp2_with fail
  refine hv2.out.mono ?_
  rintro e w3 ⟨gC, rfl, hC3, hor, hq⟩
  have hneR : gC ≠ gR := by have hs := hR2.lt (by omega); omega
  have hR3 := hR2.to (by omega) hq
  have hK3 := hK2.to (by omega) hq
  have hB3 := hb2.trans (hq.mono hb2.size)
  clear hR2 hK2 hb2 hq hv2
  have hrk := Lib.hid (fun r => rk_lt f HF.out r)
  have hel := Lib.hid (enR_lt HF.out HBB.out)
  have hst := Lib.hid (show ∀ r, 1 ≤ r → r < 10 → adF (miF (shF (suF (enR f b (r - 1))))) (rk f r) = enR f b r from fun r h1 h2 => by
    obtain ⟨s, rfl⟩ : ∃ s, r = s + 1 := ⟨r - 1, by omega⟩
    rw [enR, if_pos h2, Nat.add_sub_cancel])
  have hlast := Lib.hid (show adF (shF (suF (enR f b (10 - 1)))) (rk f 10) = enF f b from rfl)
  go_upto_region 2 with fail
  refine fencryptReg f b gB gC gR HBB.out (hrk.out 0) hlB hlR hK3 hC3 hR3 hB3 ?_
  intro gT w4 u9 u10 u11 u12 u13 u14 u15 u16 hlT hlT2 hT4 hK4 hC4 hR4 hB4
  clear hK3 hC3 hR3 hB3 hK4
  go_wp2_with fail
  go_loopw [6] (fun i wr => ∃ r : Nat, 1 ≤ r ∧ r ≤ 10 ∧ i = .int .i64 r ∧ Aw wr gT 4 (wd (enR f b (r - 1))) ∧ Ci wr gC f ∧ Ar wr gR 16 (fun _ => 0) ∧ Below w.heap.size w wr) (fun i _ => 10 - (intOf i).toNat)
  case atStart => exact ⟨1, by omega, by omega, rfl, hT4, hC4, hR4, hB4⟩
  case round =>
    clear hT4 hC4 hR4 hB4
    obtain ⟨r, hr1, hr, rfl, hT0, hC0, hR0, hB0⟩ := hrel
    have hlC := hC0.lt
    by_cases hlt : r < 10
    · have i1 : (r : Int) < 10 := by omega
      have i2 : (r : Int) < 11 := by omega
      go_upto_region 6 with fail
      have hTwr := hT0
      clear hT0
      have hTbd := hTwr.drew
      refine wp_region_held_drew (S := fun W => Ci W gC (f) ∧ Ar W gR 16 (fun _ => 0) ∧ Below w.heap.size w W) (by kernel_rfl) ⟨hC0.drew, hR0.drew, hB0.drew⟩ (fun hHeld => ?_)
      clear hC0 hR0 hB0 hTwr
      generalize World.drew wr = bd at *
      refine wpAnyH_take (i := 3) (v := ?vb1) rfl (by kernel_rfl) (by kernel_rfl) (by kernel_rfl) (fun _ _ _ h => h) (Or.inl ⟨by rfl, ?hyb1⟩) (by assumption) ?restb1
      case hyb1 =>
        intro W hSw
        go_simp
        try with_reducible rfl
      simp only [Act.put, List.setIfInBounds_toArray, List.set_cons_zero, List.set_cons_succ, List.getElem_toArray, List.getElem_cons_zero, List.getElem_cons_succ]
      refine wpAnyH_take (i := 4) (v := ?vb2) rfl (by kernel_rfl) (by kernel_rfl) (by kernel_rfl) (fun _ _ _ h => h) (Or.inl ⟨by rfl, ?hyb2⟩) (by assumption) ?restb2
      case hyb2 =>
        intro W hSw
        go_simp
        try with_reducible rfl
      simp only [Act.put, List.setIfInBounds_toArray, List.set_cons_zero, List.set_cons_succ, List.getElem_toArray, List.getElem_cons_zero, List.getElem_cons_succ]
      refine wpAnyH_take (i := 5) (v := ?vb3) rfl (by kernel_rfl) (by kernel_rfl) (by kernel_rfl) (fun _ _ _ h => h) (Or.inl ⟨by rfl, ?hyb3⟩) (by assumption) ?restb3
      case hyb3 =>
        intro W hSw
        go_simp
        try with_reducible rfl
      simp only [Act.put, List.setIfInBounds_toArray, List.set_cons_zero, List.set_cons_succ, List.getElem_toArray, List.getElem_cons_zero, List.getElem_cons_succ]
      refine wpAnyH_take (i := 6) (v := ?vb4) rfl (by kernel_rfl) (by kernel_rfl) (by kernel_rfl) (fun _ _ _ h => h) (Or.inl ⟨by rfl, ?hyb4⟩) (by assumption) ?restb4
      case hyb4 =>
        intro W hSw
        go_simp
        try with_reducible rfl
      simp only [Act.put, List.setIfInBounds_toArray, List.set_cons_zero, List.set_cons_succ, List.getElem_toArray, List.getElem_cons_zero, List.getElem_cons_succ]
      refine wpAnyH_take (i := 7) (v := ?vb5) rfl (by kernel_rfl) (by kernel_rfl) (by kernel_rfl) (fun _ _ _ h => h) (Or.inl ⟨by rfl, ?hyb5⟩) (by assumption) ?restb5
      case hyb5 =>
        intro W hSw
        go_simp
        try with_reducible rfl
      simp only [Act.put, List.setIfInBounds_toArray, List.set_cons_zero, List.set_cons_succ, List.getElem_toArray, List.getElem_cons_zero, List.getElem_cons_succ]
      refine wpAnyH_take (i := 8) (v := .agg (awL 4 (wd (rk f r))).toArray) rfl (by kernel_rfl) (by kernel_rfl) (by kernel_rfl) (fun _ _ _ h => h) (yieldsIf_load_mid (by rfl) _ _ rfl gC (16 + r * 4) rfl (awL 4 (wd (rk f r))) _ (fun W hSw => (hSw.1).there r (by omega)) Tryd.arrCw rfl (sizeCw _)) (by assumption) ?_
      simp only [Act.put, List.setIfInBounds_toArray, List.set_cons_zero, List.set_cons_succ, List.getElem_toArray, List.getElem_cons_zero, List.getElem_cons_succ]
      refine wpAnyH_ready (rs := [0]) (by kernel_rfl) (by simp) ?_
      refine AllReadyH.cons rfl (fun K hK => ?_) AllReadyH.nil
      rw [if_pos (by rfl)]
      refine wp_load_mid _ _ rfl gT 0 rfl (awL 4 (wd (enR f b (r - 1)))) _ hTbd.range Tryd.arrCw rfl (sizeCw _) ?_
      refine hK.out _ _ hHeld (fun hHeld2 => ?_)
      clear hK K hHeld
      have hHeld := hHeld2
      clear hHeld2
      try simp only [Act.put, List.setIfInBounds_toArray, List.set_cons_zero, List.set_cons_succ, List.getElem_toArray, List.getElem_cons_zero]
      refine wpAnyH_ready (rs := [1]) (by kernel_rfl) (by simp) ?_
      refine AllReadyH.cons rfl (fun K hK => ?_) AllReadyH.nil
      go_simp
      refine (fshift (enR f b (r - 1)) _ (hel.out _)).mono ?_
      rintro e b6 ⟨rfl, hq⟩
      go_wp2_with fail
      have hTb6 := (hTbd).to (by omega) hq
      refine hK.out _ _ ⟨(hHeld.1).to hq, (hHeld.2.1).to (by omega) hq, (hHeld.2.2).trans (hq.mono (hHeld.2.2).size)⟩ (fun hHeld2 => ?_)
      clear hK K hHeld hq hTbd
      have hHeld := hHeld2
      clear hHeld2
      try simp only [Act.put, List.setIfInBounds_toArray, List.set_cons_zero, List.set_cons_succ, List.getElem_toArray, List.getElem_cons_zero, List.getElem_cons_succ]
      refine wpAnyH_ready (rs := [2]) (by kernel_rfl) (by simp) ?_
      refine AllReadyH.cons rfl (fun K hK => ?_) AllReadyH.nil
      go_simp
      refine (fmix (shF (enR f b (r - 1))) _ (shF_lt (hel.out _)) (HX.out.keep (hHeld.2.2))).mono ?_
      rintro e b7 ⟨rfl, hq⟩
      rw [show miF (suF (shF (enR f b (r - 1)))) = miF (shF (suF (enR f b (r - 1)))) from rfl]
      go_wp2_with fail
      have hTb7 := (hTb6).to (by omega) hq
      refine hK.out _ _ ⟨(hHeld.1).to hq, (hHeld.2.1).to (by omega) hq, (hHeld.2.2).trans (hq.mono (hHeld.2.2).size)⟩ (fun hHeld2 => ?_)
      clear hK K hHeld hq hTb6
      have hHeld := hHeld2
      clear hHeld2
      try simp only [Act.put, List.setIfInBounds_toArray, List.set_cons_zero, List.set_cons_succ, List.getElem_toArray, List.getElem_cons_zero, List.getElem_cons_succ]
      refine wpAnyH_ready (rs := [9]) (by kernel_rfl) (by simp) ?_
      refine AllReadyH.cons rfl (fun K hK => ?_) AllReadyH.nil
      go_simp
      refine (fadd (miF (shF (suF (enR f b (r - 1))))) (rk f r) _ (miF_lt _) (hrk.out r)).mono ?_
      rintro e b8 ⟨rfl, hq⟩
      go_wp2_with fail
      have hTb8 := (hTb7).to (by omega) hq
      refine hK.out _ _ ⟨(hHeld.1).to hq, (hHeld.2.1).to (by omega) hq, (hHeld.2.2).trans (hq.mono (hHeld.2.2).size)⟩ (fun hHeld2 => ?_)
      clear hK K hHeld hq hTb7
      have hHeld := hHeld2
      clear hHeld2
      try simp only [Act.put, List.setIfInBounds_toArray, List.set_cons_zero, List.set_cons_succ, List.getElem_toArray, List.getElem_cons_zero, List.getElem_cons_succ]
      refine wpAnyH_ready (rs := [10]) (by kernel_rfl) (by simp) ?_
      refine AllReadyH.cons rfl (fun K hK => ?_) AllReadyH.nil
      rw [if_pos (by rfl)]
      refine wp_store_mid _ _ _ rfl gT 0 (awL 4 (wd (adF (miF (shF (suF (enR f b (r - 1))))) (rk f r)))).toArray rfl rfl hTb8.there (sizeCw _) (all_oneCell_toArray (awL_one 4 (wd (adF (miF (shF (suF (enR f b (r - 1))))) (rk f r))))) ?_
      have hTb9 := hTb8.whole (wd (adF (miF (shF (suF (enR f b (r - 1))))) (rk f r)))
      have hSb9 := show Ci (World.setCells b8 gT 0 (awL 4 (wd (adF (miF (shF (suF (enR f b (r - 1))))) (rk f r))))) gC (f) ∧ Ar (World.setCells b8 gT 0 (awL 4 (wd (adF (miF (shF (suF (enR f b (r - 1))))) (rk f r))))) gR 16 (fun _ => 0) ∧ Below w.heap.size w (World.setCells b8 gT 0 (awL 4 (wd (adF (miF (shF (suF (enR f b (r - 1))))) (rk f r))))) from ⟨Cx.apart (hHeld.1) (b := gT) (by omega) (awL 4 (wd (adF (miF (shF (suF (enR f b (r - 1))))) (rk f r)))) 0, (hHeld.2.1).apart (b := gT) (by omega) (awL 4 (wd (adF (miF (shF (suF (enR f b (r - 1))))) (rk f r)))) 0, (hHeld.2.2).trans (Below.setCells (Below.refl w.heap.size _) (b := gT) (by omega) (awL 4 (wd (adF (miF (shF (suF (enR f b (r - 1))))) (rk f r)))) 0)⟩
      dsimp only [List.toList_toArray]
      generalize World.setCells b8 gT 0 (awL 4 (wd (adF (miF (shF (suF (enR f b (r - 1))))) (rk f r)))) = b9 at *
      refine hK.out _ _ hSb9 (fun hHeld2 => ?_)
      clear hK K hHeld hSb9 hTb8
      have hHeld := hHeld2
      clear hHeld2
      try simp only [Act.put]
      refine wpAnyH_done (by kernel_rfl) ?_ _
      obtain ⟨hC9, hR9, hB9⟩ := hHeld
      have hT9 := hTb9
      clear hTb9
      rw [hst.out r hr1 hlt] at hT9
      clear i2
      go_wp2_with fail
      go_roundw
      case rel => exact ⟨r + 1, by omega, by omega, by go_num, by rw [Nat.add_sub_cancel]; exact hT9, hC9, hR9, hB9⟩
      case measure => simp [intOf]; omega
    · obtain rfl : r = 10 := by omega
      go_upto_region 7 with fail
      have hRwr := hR0
      clear hR0
      obtain ⟨X9, hX9⟩ : ∃ X : Nat → Nat, enR f b (10 - 1) = X := ⟨_, rfl⟩
      have hxl := Lib.hid (show B16 X9 by rw [← hX9]; exact hel.out _)
      have hlast := hlast.out
      rw [hX9] at hlast hT0
      have hlast := Lib.hid hlast
      obtain ⟨K9, hK9⟩ : ∃ K : Nat → Nat, rk f 10 = K := ⟨_, rfl⟩
      have hkl := Lib.hid (show B16 K9 by rw [← hK9]; exact hrk.out 10)
      have hrange := Lib.hid (show ∀ W, Ci W gC f → W.rangeAt gC (16 + 10 * 4) (awL 4 (wd K9)) from fun W h => by rw [← hK9]; exact h.there 10 (by decide))
      rw [hK9] at hlast
      clear hX9 hK9
      have hRcd := hRwr.drew
      refine wp_region_held_drew (S := fun W => Ci W gC (f) ∧ Aw W gT 4 (wd X9) ∧ Below w.heap.size w W) (by kernel_rfl) ⟨hC0.drew, hT0.drew, hB0.drew⟩ (fun hHeld => ?_)
      clear hC0 hT0 hB0 hRwr
      generalize World.drew wr = cd at *
      refine wpAnyH_take (i := 0) (v := .agg (awL 4 (wd X9)).toArray) rfl (by kernel_rfl) (by kernel_rfl) (by kernel_rfl) (fun _ _ _ h => h) (yieldsIf_load_mid (by rfl) _ _ rfl gT (0) rfl (awL 4 (wd X9)) _ (fun W hSw => hSw.2.1.range) Tryd.arrCw rfl (sizeCw _)) (by assumption) ?_
      simp only [Act.put, List.setIfInBounds_toArray, List.set_cons_zero, List.set_cons_succ, List.getElem_toArray, List.getElem_cons_zero]
      refine wpAnyH_take (i := 3) (v := ?vc1) rfl (by kernel_rfl) (by kernel_rfl) (by kernel_rfl) (fun _ _ _ h => h) (Or.inl ⟨by rfl, ?hyc1⟩) (by assumption) ?restc1
      case hyc1 =>
        intro W hSw
        go_simp
        try with_reducible rfl
      simp only [Act.put, List.setIfInBounds_toArray, List.set_cons_zero, List.set_cons_succ, List.getElem_toArray, List.getElem_cons_zero, List.getElem_cons_succ]
      refine wpAnyH_take (i := 4) (v := ?vc2) rfl (by kernel_rfl) (by kernel_rfl) (by kernel_rfl) (fun _ _ _ h => h) (Or.inl ⟨by rfl, ?hyc2⟩) (by assumption) ?restc2
      case hyc2 =>
        intro W hSw
        go_simp
        try with_reducible rfl
      simp only [Act.put, List.setIfInBounds_toArray, List.set_cons_zero, List.set_cons_succ, List.getElem_toArray, List.getElem_cons_zero, List.getElem_cons_succ]
      refine wpAnyH_take (i := 5) (v := ?vc3) rfl (by kernel_rfl) (by kernel_rfl) (by kernel_rfl) (fun _ _ _ h => h) (Or.inl ⟨by rfl, ?hyc3⟩) (by assumption) ?restc3
      case hyc3 =>
        intro W hSw
        go_simp
        try with_reducible rfl
      simp only [Act.put, List.setIfInBounds_toArray, List.set_cons_zero, List.set_cons_succ, List.getElem_toArray, List.getElem_cons_zero, List.getElem_cons_succ]
      refine wpAnyH_take (i := 6) (v := ?vc4) rfl (by kernel_rfl) (by kernel_rfl) (by kernel_rfl) (fun _ _ _ h => h) (Or.inl ⟨by rfl, ?hyc4⟩) (by assumption) ?restc4
      case hyc4 =>
        intro W hSw
        go_simp
        try with_reducible rfl
      simp only [Act.put, List.setIfInBounds_toArray, List.set_cons_zero, List.set_cons_succ, List.getElem_toArray, List.getElem_cons_zero, List.getElem_cons_succ]
      refine wpAnyH_take (i := 7) (v := .agg (awL 4 (wd (K9))).toArray) rfl (by kernel_rfl) (by kernel_rfl) (by kernel_rfl) (fun _ _ _ h => h) (yieldsIf_load_mid (by rfl) _ _ rfl gC (16 + 10 * 4) rfl (awL 4 (wd (K9))) _ (fun W hSw => hrange.out _ (hSw.1)) Tryd.arrCw rfl (sizeCw _)) (by assumption) ?_
      simp only [Act.put, List.setIfInBounds_toArray, List.set_cons_zero, List.set_cons_succ, List.getElem_toArray, List.getElem_cons_zero, List.getElem_cons_succ]
      refine wpAnyH_ready (rs := [1]) (by kernel_rfl) (by simp) ?_
      refine AllReadyH.cons rfl (fun K hK => ?_) AllReadyH.nil
      go_simp
      refine (fshift (X9) _ hxl.out).mono ?_
      rintro e c5 ⟨rfl, hq⟩
      go_wp2_with fail
      have hRc5 := (hRcd).to (by omega) hq
      refine hK.out _ _ ⟨(hHeld.1).to hq, (hHeld.2.1).to (by omega) hq, (hHeld.2.2).trans (hq.mono (hHeld.2.2).size)⟩ (fun hHeld2 => ?_)
      clear hK K hHeld hq hRcd
      have hHeld := hHeld2
      clear hHeld2
      try simp only [Act.put, List.setIfInBounds_toArray, List.set_cons_zero, List.set_cons_succ, List.getElem_toArray, List.getElem_cons_zero, List.getElem_cons_succ]
      refine wpAnyH_ready (rs := [2]) (by kernel_rfl) (by simp) ?_
      refine AllReadyH.cons rfl (fun K hK => ?_) AllReadyH.nil
      go_simp
      refine (fsubw (shF (X9)) _ (shF_lt hxl.out) (HX.out.keep (hHeld.2.2))).mono ?_
      rintro e c6 ⟨rfl, hq⟩
      rw [show suF (shF (X9)) = shF (suF (X9)) from rfl]
      go_wp2_with fail
      have hRc6 := (hRc5).to (by omega) hq
      refine hK.out _ _ ⟨(hHeld.1).to hq, (hHeld.2.1).to (by omega) hq, (hHeld.2.2).trans (hq.mono (hHeld.2.2).size)⟩ (fun hHeld2 => ?_)
      clear hK K hHeld hq hRc5
      have hHeld := hHeld2
      clear hHeld2
      try simp only [Act.put, List.setIfInBounds_toArray, List.set_cons_zero, List.set_cons_succ, List.getElem_toArray, List.getElem_cons_zero, List.getElem_cons_succ]
      refine wpAnyH_ready (rs := [8]) (by kernel_rfl) (by simp) ?_
      refine AllReadyH.cons rfl (fun K hK => ?_) AllReadyH.nil
      go_simp
      refine (fadd (shF (suF (X9))) (K9) _ (shF_lt (suF_lt _)) hkl.out).mono ?_
      rintro e c7 ⟨rfl, hq⟩
      go_wp2_with fail
      have hRc7 := (hRc6).to (by omega) hq
      refine hK.out _ _ ⟨(hHeld.1).to hq, (hHeld.2.1).to (by omega) hq, (hHeld.2.2).trans (hq.mono (hHeld.2.2).size)⟩ (fun hHeld2 => ?_)
      clear hK K hHeld hq hRc6
      have hHeld := hHeld2
      clear hHeld2
      try simp only [Act.put, List.setIfInBounds_toArray, List.set_cons_zero, List.set_cons_succ, List.getElem_toArray, List.getElem_cons_zero, List.getElem_cons_succ]
      refine wpAnyH_ready (rs := [9]) (by kernel_rfl) (by simp) ?_
      refine AllReadyH.cons rfl (fun K hK => ?_) AllReadyH.nil
      go_simp
      refine (fjoin (adF (shF (suF (X9))) (K9)) _ (adF_lt (shF_lt (suF_lt _)) hkl.out)).mono ?_
      rintro e c8 ⟨rfl, hq⟩
      go_wp2_with fail
      have hRc8 := (hRc7).to (by omega) hq
      refine hK.out _ _ ⟨(hHeld.1).to hq, (hHeld.2.1).to (by omega) hq, (hHeld.2.2).trans (hq.mono (hHeld.2.2).size)⟩ (fun hHeld2 => ?_)
      clear hK K hHeld hq hRc7
      have hHeld := hHeld2
      clear hHeld2
      try simp only [Act.put, List.setIfInBounds_toArray, List.set_cons_zero, List.set_cons_succ, List.getElem_toArray, List.getElem_cons_zero, List.getElem_cons_succ]
      refine wpAnyH_ready (rs := [10]) (by kernel_rfl) (by simp) ?_
      refine AllReadyH.cons rfl (fun K hK => ?_) AllReadyH.nil
      rw [if_pos (by rfl)]
      refine wp_store_mid _ _ _ rfl gR 0 (arL 16 (adF (shF (suF (X9))) (K9))).toArray rfl rfl hRc8.there (size16b _) (all_oneCell_toArray (arL_one 16 (adF (shF (suF (X9))) (K9)))) ?_
      have hRc9 := hRc8.whole (adF (shF (suF (X9))) (K9))
      have hSc9 := show Ci (World.setCells c8 gR 0 (arL 16 (adF (shF (suF (X9))) (K9)))) gC (f) ∧ Aw (World.setCells c8 gR 0 (arL 16 (adF (shF (suF (X9))) (K9)))) gT 4 (wd X9) ∧ Below w.heap.size w (World.setCells c8 gR 0 (arL 16 (adF (shF (suF (X9))) (K9)))) from ⟨Cx.apart (hHeld.1) (b := gR) (by omega) (arL 16 (adF (shF (suF (X9))) (K9))) 0, (hHeld.2.1).apart (b := gR) (by omega) (arL 16 (adF (shF (suF (X9))) (K9))) 0, (hHeld.2.2).trans (Below.setCells (Below.refl w.heap.size _) (b := gR) (by omega) (arL 16 (adF (shF (suF (X9))) (K9))) 0)⟩
      dsimp only [List.toList_toArray]
      generalize World.setCells c8 gR 0 (arL 16 (adF (shF (suF (X9))) (K9))) = c9 at *
      refine hK.out _ _ hSc9 (fun hHeld2 => ?_)
      clear hK K hHeld hSc9 hRc8
      have hHeld := hHeld2
      clear hHeld2
      try simp only [Act.put]
      refine wpAnyH_done (by kernel_rfl) ?_ _
      have hB9 := hHeld.2.2
      have hR9 := hRc9
      clear hHeld hRc9
      rw [hlast.out] at hR9
      go_wp2_with fail
      refine bodyPost_ret_ar rfl rfl hR9 Tryd.arr16b (size16b _) rfl ⟨rfl, hB9⟩
end Go.Proofs.YtblhfmlgpldaeaaDoor
