/-
  Contract of the method Decrypt of fast.Cipher, by a walk through its text; what was there stays as it was.
-/
import Derived.Test.YtejgeefhnpeejaaDoorFak
import Derived.Test.YtejgeefhnpeejaaDoorFah
import Derived.Test.YtejgeefhnpeejaaDoorFad
import Derived.Test.YtejgeefhnpeejaaDoorFag
import Derived.Test.YtejgeefhnpeejaaDoorFau
import Derived.Test.YtejgeefhnpeejaaDoorGke
import Derived.Deep.RegionHeld3
namespace Go.Proofs.YtejgeefhnpeejaaDoor
open Go.RowKit
set_option linter.unusedVariables false
set_option maxRecDepth 100000

/-- The block on the way back, round by round, from the last one on. -/
def dS (f c : Nat → Nat) : Nat → Nat → Nat
  | 0 => usF (uhF (adF c (rk f 10)))
  | k + 1 => usF (uhF (umF (adF (dS f c k) (rk f (9 - k)))))
theorem dS_lt {f c : Nat → Nat} (hf : B16 f) (hc : B16 c) : ∀ k, B16 (dS f c k)
  | 0 => usF_lt (uhF_lt (adF_lt hc (rk_lt f hf 10)))
  | k + 1 => usF_lt (uhF_lt (umF_lt _))
theorem dS_de (f c : Nat → Nat) : ∀ k, k ≤ 9 → deR f (9 - k) (dS f c k) = deF f c
  | 0, _ => rfl
  | k + 1, h => by
    rw [← dS_de f c k (by omega)]
    obtain ⟨m, hm⟩ : ∃ m, 9 - k = m + 1 := ⟨8 - k, by omega⟩
    rw [hm, show 9 - (k + 1) = m by omega, deR, if_pos (by omega), dS, hm]
theorem dS_step (f c : Nat → Nat) (r q : Nat) (h : r = q + 1) (hr : r ≤ 9) : usF (uhF (umF (adF (dS f c (9 - r)) (rk f r)))) = dS f c (9 - q) := by
  obtain ⟨k, hk⟩ : ∃ k, 9 - q = k + 1 := ⟨8 - q, by omega⟩
  rw [hk, dS, show 9 - r = k by omega, show 9 - k = r by omega]
theorem dS_last (f c : Nat → Nat) : adF (dS f c 9) (rk f 0) = deF f c := dS_de f c 9 (Nat.le_refl _)

noncomputable def fdecryptRegC : Code := ((Tryd.f14.body.bind (regionNo 3)).getD .skip)
set_option maxHeartbeats 4000000 in
theorem fdecryptReg (f b K9 : Nat → Nat) (gB gC gR gL : Nat) {Q0 : Exit → Act → World → Prop} {t1 t2 t6 t7 t8 t9 t10 t11 t12 t13 t14 t15 t16 t17 t18 t19 t20 t21 t22 t23 t24 t25 t26 t27 t28 t29 t30 t31 t32 t33 t34 t35 t36 t37 t38 t39 t40 t41 t42 t43 t44 t45 : Value} {w W : World} (hb : B16 b) (hk : B16 K9) (hlB : w.heap.size ≤ gB) (hlR : gB < gR) (hlL : gR < gL) (hrange : ∀ W, Ci W gC f → W.rangeAt gC (16 + 10 * 4) (awL 4 (wd K9))) (hbW : Ar W gB 16 b) (hCW : Ci W gC f) (hRW : Ar W gR 16 (fun _ => 0)) (hLW : Ar W gL 256 bk) (hBW : Below w.heap.size w W)
    (hQ : ∀ (gT : Nat) (w9 : World) (u11 u12 u13 u14 u15 u16 u17 u18 u19 u20 u21 : Value), gL < gT → gC < gT → Aw w9 gT 4 (wd (usF (uhF (adF b K9)))) → Ar w9 gB 16 b → Ci w9 gC f → Ar w9 gR 16 (fun _ => 0) → Ar w9 gL 256 bk → Below w.heap.size w w9 → Q0 .normal ⟨(.pointer (some ⟨gC, 0, none⟩) :: t1 :: t2 :: .pointer (some ⟨gB, 0, none⟩) :: .pointer (some ⟨gR, 0, none⟩) :: .pointer (some ⟨gL, 0, none⟩) :: .pointer (some ⟨gT, 0, none⟩) :: t7 :: t8 :: t9 :: t10 :: u11 :: u12 :: u13 :: u14 :: u15 :: u16 :: u17 :: u18 :: u19 :: u20 :: u21 :: t22 :: t23 :: t24 :: t25 :: t26 :: t27 :: t28 :: t29 :: t30 :: t31 :: t32 :: t33 :: t34 :: t35 :: t36 :: t37 :: t38 :: t39 :: t40 :: t41 :: t42 :: t43 :: t44 :: t45 :: []).toArray, []⟩ w9) :
    Code.wp Tryd.prog fdecryptRegC Q0 ⟨(.pointer (some ⟨gC, 0, none⟩) :: t1 :: t2 :: .pointer (some ⟨gB, 0, none⟩) :: .pointer (some ⟨gR, 0, none⟩) :: .pointer (some ⟨gL, 0, none⟩) :: t6 :: t7 :: t8 :: t9 :: t10 :: t11 :: t12 :: t13 :: t14 :: t15 :: t16 :: t17 :: t18 :: t19 :: t20 :: t21 :: t22 :: t23 :: t24 :: t25 :: t26 :: t27 :: t28 :: t29 :: t30 :: t31 :: t32 :: t33 :: t34 :: t35 :: t36 :: t37 :: t38 :: t39 :: t40 :: t41 :: t42 :: t43 :: t44 :: t45 :: []).toArray, []⟩ W := by
  have HQ := Lib.hid hQ
  clear hQ
  refine Code.wp_mono NoPanic.imp ?_
  conv => arg 2; whnf
  refine wp_region_held_drew (S := fun W => Ar W gB 16 (b) ∧ Ci W gC (f) ∧ Ar W gR 16 (fun _ => 0) ∧ Ar W gL 256 (bk) ∧ Below w.heap.size w W) (by kernel_rfl) ⟨hbW, hCW.drew, hRW, hLW, hBW.drew⟩ (fun hHeld => ?_)
  clear hbW hCW hRW hLW hBW 
  generalize World.drew W = ad at *
  refine wpAnyH_take (i := 0) (v := .agg (arL 16 (b)).toArray) rfl (by kernel_rfl) (by kernel_rfl) (by kernel_rfl) (fun _ _ _ h => h) (yieldsIf_load_mid (by rfl) _ _ rfl gB (0) rfl (arL 16 (b)) _ (fun W hSw => hSw.1.range) Tryd.arr16b rfl (size16b _)) (by assumption) ?_
  simp only [Act.put, List.setIfInBounds_toArray, List.set_cons_zero, List.set_cons_succ, List.getElem_toArray, List.getElem_cons_zero]
  refine wpAnyH_take (i := 2) (v := ?va1) rfl (by kernel_rfl) (by kernel_rfl) (by kernel_rfl) (fun _ _ _ h => h) (Or.inl ⟨by rfl, ?hya1⟩) (by assumption) ?resta1
  case hya1 =>
    intro W hSw
    go_simp
    try with_reducible rfl
  simp only [Act.put, List.setIfInBounds_toArray, List.set_cons_zero, List.set_cons_succ, List.getElem_toArray, List.getElem_cons_zero, List.getElem_cons_succ]
  refine wpAnyH_take (i := 3) (v := ?va2) rfl (by kernel_rfl) (by kernel_rfl) (by kernel_rfl) (fun _ _ _ h => h) (Or.inl ⟨by rfl, ?hya2⟩) (by assumption) ?resta2
  case hya2 =>
    intro W hSw
    go_simp
    try with_reducible rfl
  simp only [Act.put, List.setIfInBounds_toArray, List.set_cons_zero, List.set_cons_succ, List.getElem_toArray, List.getElem_cons_zero, List.getElem_cons_succ]
  refine wpAnyH_take (i := 4) (v := ?va3) rfl (by kernel_rfl) (by kernel_rfl) (by kernel_rfl) (fun _ _ _ h => h) (Or.inl ⟨by rfl, ?hya3⟩) (by assumption) ?resta3
  case hya3 =>
    intro W hSw
    go_simp
    try with_reducible rfl
  simp only [Act.put, List.setIfInBounds_toArray, List.set_cons_zero, List.set_cons_succ, List.getElem_toArray, List.getElem_cons_zero, List.getElem_cons_succ]
  refine wpAnyH_take (i := 5) (v := ?va4) rfl (by kernel_rfl) (by kernel_rfl) (by kernel_rfl) (fun _ _ _ h => h) (Or.inl ⟨by rfl, ?hya4⟩) (by assumption) ?resta4
  case hya4 =>
    intro W hSw
    go_simp
    try with_reducible rfl
  simp only [Act.put, List.setIfInBounds_toArray, List.set_cons_zero, List.set_cons_succ, List.getElem_toArray, List.getElem_cons_zero, List.getElem_cons_succ]
  refine wpAnyH_take (i := 6) (v := .agg (awL 4 (wd K9)).toArray) rfl (by kernel_rfl) (by kernel_rfl) (by kernel_rfl) (fun _ _ _ h => h) (yieldsIf_load_mid (by rfl) _ _ rfl gC (16 + 10 * 4) rfl (awL 4 (wd K9)) _ (fun W hSw => hrange _ (hSw.2.1)) Tryd.arrCw rfl (sizeCw _)) (by assumption) ?_
  simp only [Act.put, List.setIfInBounds_toArray, List.set_cons_zero, List.set_cons_succ, List.getElem_toArray, List.getElem_cons_zero, List.getElem_cons_succ]
  refine wpAnyH_take (i := 9) (v := .agg (arL 256 (bk)).toArray) rfl (by kernel_rfl) (by kernel_rfl) (by kernel_rfl) (fun _ _ _ h => h) (yieldsIf_load_mid (by rfl) _ _ rfl gL (0) rfl (arL 256 (bk)) _ (fun W hSw => hSw.2.2.2.1.range) Tryd.arr256 rfl (size_arL _)) (by assumption) ?_
  simp only [Act.put, List.setIfInBounds_toArray, List.set_cons_zero, List.set_cons_succ, List.getElem_toArray, List.getElem_cons_zero, List.getElem_cons_succ]
  refine wpAnyH_ready (rs := [1, 11]) (by kernel_rfl) (by simp) ?_
  refine AllReadyH.cons rfl (fun K hK => ?_) (AllReadyH.cons rfl (fun K hK => ?_) AllReadyH.nil)
  · go_simp
    refine (fsplit b _ hb).mono ?_
    rintro e a5 ⟨rfl, hq⟩
    go_wp2_with fail
    refine hK.out _ _ ⟨(hHeld.1).to (by omega) hq, (hHeld.2.1).to hq, (hHeld.2.2.1).to (by omega) hq, (hHeld.2.2.2.1).to (by omega) hq, (hHeld.2.2.2.2).trans (hq.mono (hHeld.2.2.2.2).size)⟩ (fun hHeld2 => ?_)
    clear hK K hHeld hq
    have hHeld := hHeld2
    clear hHeld2
    try simp only [Act.put, List.setIfInBounds_toArray, List.set_cons_zero, List.set_cons_succ, List.getElem_toArray, List.getElem_cons_zero, List.getElem_cons_succ]
    refine wpAnyH_ready (rs := [7, 11]) (by kernel_rfl) (by simp) ?_
    refine AllReadyH.cons rfl (fun K hK => ?_) (AllReadyH.cons rfl (fun K hK => ?_) AllReadyH.nil)
    · go_simp
      refine (fadd b K9 _ hb hk).mono ?_
      rintro e a6 ⟨rfl, hq⟩
      go_wp2_with fail
      refine hK.out _ _ ⟨(hHeld.1).to (by omega) hq, (hHeld.2.1).to hq, (hHeld.2.2.1).to (by omega) hq, (hHeld.2.2.2.1).to (by omega) hq, (hHeld.2.2.2.2).trans (hq.mono (hHeld.2.2.2.2).size)⟩ (fun hHeld2 => ?_)
      clear hK K hHeld hq
      have hHeld := hHeld2
      clear hHeld2
      try simp only [Act.put, List.setIfInBounds_toArray, List.set_cons_zero, List.set_cons_succ, List.getElem_toArray, List.getElem_cons_zero, List.getElem_cons_succ]
      refine wpAnyH_ready (rs := [8, 11]) (by kernel_rfl) (by simp) ?_
      refine AllReadyH.cons rfl (fun K hK => ?_) (AllReadyH.cons rfl (fun K hK => ?_) AllReadyH.nil)
      · go_simp
        refine (funshift (adF b K9) _ (adF_lt hb hk)).mono ?_
        rintro e a7 ⟨rfl, hq⟩
        go_wp2_with fail
        refine hK.out _ _ ⟨(hHeld.1).to (by omega) hq, (hHeld.2.1).to hq, (hHeld.2.2.1).to (by omega) hq, (hHeld.2.2.2.1).to (by omega) hq, (hHeld.2.2.2.2).trans (hq.mono (hHeld.2.2.2.2).size)⟩ (fun hHeld2 => ?_)
        clear hK K hHeld hq
        have hHeld := hHeld2
        clear hHeld2
        try simp only [Act.put, List.setIfInBounds_toArray, List.set_cons_zero, List.set_cons_succ, List.getElem_toArray, List.getElem_cons_zero, List.getElem_cons_succ]
        refine wpAnyH_ready (rs := [10, 11]) (by kernel_rfl) (by simp) ?_
        refine AllReadyH.cons rfl (fun K hK => ?_) (AllReadyH.cons rfl (fun K hK => ?_) AllReadyH.nil)
        · go_simp
          refine (funsub (uhF (adF b K9)) _ (uhF_lt (adF_lt hb hk))).mono ?_
          rintro e a8 ⟨rfl, hq⟩
          go_wp2_with fail
          refine hK.out _ _ ⟨(hHeld.1).to (by omega) hq, (hHeld.2.1).to hq, (hHeld.2.2.1).to (by omega) hq, (hHeld.2.2.2.1).to (by omega) hq, (hHeld.2.2.2.2).trans (hq.mono (hHeld.2.2.2.2).size)⟩ (fun hHeld2 => ?_)
          clear hK K hHeld hq
          have hHeld := hHeld2
          clear hHeld2
          try simp only [Act.put, List.setIfInBounds_toArray, List.set_cons_zero, List.set_cons_succ, List.getElem_toArray, List.getElem_cons_zero, List.getElem_cons_succ]
          refine wpAnyH_ready (rs := [11]) (by kernel_rfl) (by simp) ?_
          refine AllReadyH.cons rfl (fun K hK => ?_) AllReadyH.nil
          obtain ⟨gT, hggT⟩ : ∃ g : Nat, a8.heap.size = g := ⟨_, rfl⟩
          have hlgRgT : gR < gT := by rw [← hggT]; exact (hHeld.2.2.1).lt (by omega)
          have hlgLgT : gL < gT := by rw [← hggT]; exact (hHeld.2.2.2.1).lt (by omega)
          have hlgCgT : gC < gT := by rw [← hggT]; exact (hHeld.2.1).lt
          have hq : Below a8.heap.size a8 (a8.alloc (.cells #[.int .u32 0, .int .u32 0, .int .u32 0, .int .u32 0] 43)) := (Below.refl _ _).alloc (Nat.le_refl _) _
          have hTa9 := Aw.new a8 4 (fun _ => 0) 43
          rw [hggT] at hTa9
          have hSa9 := show Ar (a8.alloc (.cells #[.int .u32 0, .int .u32 0, .int .u32 0, .int .u32 0] 43)) gB 16 (b) ∧ Ci (a8.alloc (.cells #[.int .u32 0, .int .u32 0, .int .u32 0, .int .u32 0] 43)) gC (f) ∧ Ar (a8.alloc (.cells #[.int .u32 0, .int .u32 0, .int .u32 0, .int .u32 0] 43)) gR 16 (fun _ => 0) ∧ Ar (a8.alloc (.cells #[.int .u32 0, .int .u32 0, .int .u32 0, .int .u32 0] 43)) gL 256 (bk) ∧ Below w.heap.size w (a8.alloc (.cells #[.int .u32 0, .int .u32 0, .int .u32 0, .int .u32 0] 43)) from ⟨(hHeld.1).to (by omega) hq, (hHeld.2.1).to hq, (hHeld.2.2.1).to (by omega) hq, (hHeld.2.2.2.1).to (by omega) hq, (hHeld.2.2.2.2).trans (hq.mono (hHeld.2.2.2.2).size)⟩
          go_simp
          obtain ⟨a9, hwa9⟩ : ∃ V : World, V = a8.alloc (.cells #[.int .u32 0, .int .u32 0, .int .u32 0, .int .u32 0] 43) := ⟨_, rfl⟩
          rw [show a8.alloc (.cells #[.int .u32 0, .int .u32 0, .int .u32 0, .int .u32 0] 43) = a9 from hwa9.symm] at hSa9
          have hTa9 : Aw a9 gT 4 (fun _ => 0) := by rw [hwa9]; exact hTa9
          try rw [hggT]
          rw [← hwa9]
          refine hK.out _ _ hSa9 (fun hHeld2 => ?_)
          clear hK K hHeld hq hSa9 hwa9 hggT
          have hHeld := hHeld2
          clear hHeld2
          try simp only [Act.put, List.setIfInBounds_toArray, List.set_cons_zero, List.set_cons_succ, List.getElem_toArray, List.getElem_cons_zero, List.getElem_cons_succ]
          refine wpAnyH_ready (rs := [12]) (by kernel_rfl) (by simp) ?_
          refine AllReadyH.cons rfl (fun K hK => ?_) AllReadyH.nil
          rw [if_pos (by rfl)]
          refine wp_store_mid _ _ _ rfl gT 0 (awL 4 (wd (usF (uhF (adF b K9))))).toArray rfl rfl hTa9.there (sizeCw _) (all_oneCell_toArray (awL_one 4 (wd (usF (uhF (adF b K9)))))) ?_
          have hTa10 := hTa9.whole (wd (usF (uhF (adF b K9))))
          have hSa10 := show Ar (World.setCells a9 gT 0 (awL 4 (wd (usF (uhF (adF b K9)))))) gB 16 (b) ∧ Ci (World.setCells a9 gT 0 (awL 4 (wd (usF (uhF (adF b K9)))))) gC (f) ∧ Ar (World.setCells a9 gT 0 (awL 4 (wd (usF (uhF (adF b K9)))))) gR 16 (fun _ => 0) ∧ Ar (World.setCells a9 gT 0 (awL 4 (wd (usF (uhF (adF b K9)))))) gL 256 (bk) ∧ Below w.heap.size w (World.setCells a9 gT 0 (awL 4 (wd (usF (uhF (adF b K9)))))) from ⟨(hHeld.1).apart (b := gT) (by omega) (awL 4 (wd (usF (uhF (adF b K9))))) 0, Cx.apart (hHeld.2.1) (b := gT) (by omega) (awL 4 (wd (usF (uhF (adF b K9))))) 0, (hHeld.2.2.1).apart (b := gT) (by omega) (awL 4 (wd (usF (uhF (adF b K9))))) 0, (hHeld.2.2.2.1).apart (b := gT) (by omega) (awL 4 (wd (usF (uhF (adF b K9))))) 0, (hHeld.2.2.2.2).trans (Below.setCells (Below.refl w.heap.size _) (b := gT) (by omega) (awL 4 (wd (usF (uhF (adF b K9))))) 0)⟩
          dsimp only [List.toList_toArray]
          generalize World.setCells a9 gT 0 (awL 4 (wd (usF (uhF (adF b K9))))) = a10 at *
          refine hK.out _ _ hSa10 (fun hHeld2 => ?_)
          clear hK K hHeld hSa10 hTa9
          have hHeld := hHeld2
          clear hHeld2
          try simp only [Act.put]
          refine wpAnyH_done (by kernel_rfl) ?_ _
          exact NoPanic.normal (HQ.out gT a10 _ _ _ _ _ _ _ _ _ _ _ (by omega) (by omega) hTa10 hHeld.1 hHeld.2.1 hHeld.2.2.1 hHeld.2.2.2.1 hHeld.2.2.2.2)
        · obtain ⟨gT, hggT⟩ : ∃ g : Nat, a7.heap.size = g := ⟨_, rfl⟩
          have hlgRgT : gR < gT := by rw [← hggT]; exact (hHeld.2.2.1).lt (by omega)
          have hlgLgT : gL < gT := by rw [← hggT]; exact (hHeld.2.2.2.1).lt (by omega)
          have hlgCgT : gC < gT := by rw [← hggT]; exact (hHeld.2.1).lt
          have hq : Below a7.heap.size a7 (a7.alloc (.cells #[.int .u32 0, .int .u32 0, .int .u32 0, .int .u32 0] 43)) := (Below.refl _ _).alloc (Nat.le_refl _) _
          have hTa11 := Aw.new a7 4 (fun _ => 0) 43
          rw [hggT] at hTa11
          have hSa11 := show Ar (a7.alloc (.cells #[.int .u32 0, .int .u32 0, .int .u32 0, .int .u32 0] 43)) gB 16 (b) ∧ Ci (a7.alloc (.cells #[.int .u32 0, .int .u32 0, .int .u32 0, .int .u32 0] 43)) gC (f) ∧ Ar (a7.alloc (.cells #[.int .u32 0, .int .u32 0, .int .u32 0, .int .u32 0] 43)) gR 16 (fun _ => 0) ∧ Ar (a7.alloc (.cells #[.int .u32 0, .int .u32 0, .int .u32 0, .int .u32 0] 43)) gL 256 (bk) ∧ Below w.heap.size w (a7.alloc (.cells #[.int .u32 0, .int .u32 0, .int .u32 0, .int .u32 0] 43)) from ⟨(hHeld.1).to (by omega) hq, (hHeld.2.1).to hq, (hHeld.2.2.1).to (by omega) hq, (hHeld.2.2.2.1).to (by omega) hq, (hHeld.2.2.2.2).trans (hq.mono (hHeld.2.2.2.2).size)⟩
          go_simp
          obtain ⟨a11, hwa11⟩ : ∃ V : World, V = a7.alloc (.cells #[.int .u32 0, .int .u32 0, .int .u32 0, .int .u32 0] 43) := ⟨_, rfl⟩
          rw [show a7.alloc (.cells #[.int .u32 0, .int .u32 0, .int .u32 0, .int .u32 0] 43) = a11 from hwa11.symm] at hSa11
          have hTa11 : Aw a11 gT 4 (fun _ => 0) := by rw [hwa11]; exact hTa11
          try rw [hggT]
          rw [← hwa11]
          refine hK.out _ _ hSa11 (fun hHeld2 => ?_)
          clear hK K hHeld hq hSa11 hwa11 hggT
          have hHeld := hHeld2
          clear hHeld2
          try simp only [Act.put, List.setIfInBounds_toArray, List.set_cons_zero, List.set_cons_succ, List.getElem_toArray, List.getElem_cons_zero, List.getElem_cons_succ]
          refine wpAnyH_ready (rs := [10]) (by kernel_rfl) (by simp) ?_
          refine AllReadyH.cons rfl (fun K hK => ?_) AllReadyH.nil
          go_simp
          refine (funsub (uhF (adF b K9)) _ (uhF_lt (adF_lt hb hk))).mono ?_
          rintro e a12 ⟨rfl, hq⟩
          go_wp2_with fail
          have hTa12 := (hTa11).to (by omega) hq
          refine hK.out _ _ ⟨(hHeld.1).to (by omega) hq, (hHeld.2.1).to hq, (hHeld.2.2.1).to (by omega) hq, (hHeld.2.2.2.1).to (by omega) hq, (hHeld.2.2.2.2).trans (hq.mono (hHeld.2.2.2.2).size)⟩ (fun hHeld2 => ?_)
          clear hK K hHeld hq hTa11
          have hHeld := hHeld2
          clear hHeld2
          try simp only [Act.put, List.setIfInBounds_toArray, List.set_cons_zero, List.set_cons_succ, List.getElem_toArray, List.getElem_cons_zero, List.getElem_cons_succ]
          refine wpAnyH_ready (rs := [12]) (by kernel_rfl) (by simp) ?_
          refine AllReadyH.cons rfl (fun K hK => ?_) AllReadyH.nil
          rw [if_pos (by rfl)]
          refine wp_store_mid _ _ _ rfl gT 0 (awL 4 (wd (usF (uhF (adF b K9))))).toArray rfl rfl hTa12.there (sizeCw _) (all_oneCell_toArray (awL_one 4 (wd (usF (uhF (adF b K9)))))) ?_
          have hTa13 := hTa12.whole (wd (usF (uhF (adF b K9))))
          have hSa13 := show Ar (World.setCells a12 gT 0 (awL 4 (wd (usF (uhF (adF b K9)))))) gB 16 (b) ∧ Ci (World.setCells a12 gT 0 (awL 4 (wd (usF (uhF (adF b K9)))))) gC (f) ∧ Ar (World.setCells a12 gT 0 (awL 4 (wd (usF (uhF (adF b K9)))))) gR 16 (fun _ => 0) ∧ Ar (World.setCells a12 gT 0 (awL 4 (wd (usF (uhF (adF b K9)))))) gL 256 (bk) ∧ Below w.heap.size w (World.setCells a12 gT 0 (awL 4 (wd (usF (uhF (adF b K9)))))) from ⟨(hHeld.1).apart (b := gT) (by omega) (awL 4 (wd (usF (uhF (adF b K9))))) 0, Cx.apart (hHeld.2.1) (b := gT) (by omega) (awL 4 (wd (usF (uhF (adF b K9))))) 0, (hHeld.2.2.1).apart (b := gT) (by omega) (awL 4 (wd (usF (uhF (adF b K9))))) 0, (hHeld.2.2.2.1).apart (b := gT) (by omega) (awL 4 (wd (usF (uhF (adF b K9))))) 0, (hHeld.2.2.2.2).trans (Below.setCells (Below.refl w.heap.size _) (b := gT) (by omega) (awL 4 (wd (usF (uhF (adF b K9))))) 0)⟩
          dsimp only [List.toList_toArray]
          generalize World.setCells a12 gT 0 (awL 4 (wd (usF (uhF (adF b K9))))) = a13 at *
          refine hK.out _ _ hSa13 (fun hHeld2 => ?_)
          clear hK K hHeld hSa13 hTa12
          have hHeld := hHeld2
          clear hHeld2
          try simp only [Act.put]
          refine wpAnyH_done (by kernel_rfl) ?_ _
          exact NoPanic.normal (HQ.out gT a13 _ _ _ _ _ _ _ _ _ _ _ (by omega) (by omega) hTa13 hHeld.1 hHeld.2.1 hHeld.2.2.1 hHeld.2.2.2.1 hHeld.2.2.2.2)
      · obtain ⟨gT, hggT⟩ : ∃ g : Nat, a6.heap.size = g := ⟨_, rfl⟩
        have hlgRgT : gR < gT := by rw [← hggT]; exact (hHeld.2.2.1).lt (by omega)
        have hlgLgT : gL < gT := by rw [← hggT]; exact (hHeld.2.2.2.1).lt (by omega)
        have hlgCgT : gC < gT := by rw [← hggT]; exact (hHeld.2.1).lt
        have hq : Below a6.heap.size a6 (a6.alloc (.cells #[.int .u32 0, .int .u32 0, .int .u32 0, .int .u32 0] 43)) := (Below.refl _ _).alloc (Nat.le_refl _) _
        have hTa14 := Aw.new a6 4 (fun _ => 0) 43
        rw [hggT] at hTa14
        have hSa14 := show Ar (a6.alloc (.cells #[.int .u32 0, .int .u32 0, .int .u32 0, .int .u32 0] 43)) gB 16 (b) ∧ Ci (a6.alloc (.cells #[.int .u32 0, .int .u32 0, .int .u32 0, .int .u32 0] 43)) gC (f) ∧ Ar (a6.alloc (.cells #[.int .u32 0, .int .u32 0, .int .u32 0, .int .u32 0] 43)) gR 16 (fun _ => 0) ∧ Ar (a6.alloc (.cells #[.int .u32 0, .int .u32 0, .int .u32 0, .int .u32 0] 43)) gL 256 (bk) ∧ Below w.heap.size w (a6.alloc (.cells #[.int .u32 0, .int .u32 0, .int .u32 0, .int .u32 0] 43)) from ⟨(hHeld.1).to (by omega) hq, (hHeld.2.1).to hq, (hHeld.2.2.1).to (by omega) hq, (hHeld.2.2.2.1).to (by omega) hq, (hHeld.2.2.2.2).trans (hq.mono (hHeld.2.2.2.2).size)⟩
        go_simp
        obtain ⟨a14, hwa14⟩ : ∃ V : World, V = a6.alloc (.cells #[.int .u32 0, .int .u32 0, .int .u32 0, .int .u32 0] 43) := ⟨_, rfl⟩
        rw [show a6.alloc (.cells #[.int .u32 0, .int .u32 0, .int .u32 0, .int .u32 0] 43) = a14 from hwa14.symm] at hSa14
        have hTa14 : Aw a14 gT 4 (fun _ => 0) := by rw [hwa14]; exact hTa14
        try rw [hggT]
        rw [← hwa14]
        refine hK.out _ _ hSa14 (fun hHeld2 => ?_)
        clear hK K hHeld hq hSa14 hwa14 hggT
        have hHeld := hHeld2
        clear hHeld2
        try simp only [Act.put, List.setIfInBounds_toArray, List.set_cons_zero, List.set_cons_succ, List.getElem_toArray, List.getElem_cons_zero, List.getElem_cons_succ]
        refine wpAnyH_ready (rs := [8]) (by kernel_rfl) (by simp) ?_
        refine AllReadyH.cons rfl (fun K hK => ?_) AllReadyH.nil
        go_simp
        refine (funshift (adF b K9) _ (adF_lt hb hk)).mono ?_
        rintro e a15 ⟨rfl, hq⟩
        go_wp2_with fail
        have hTa15 := (hTa14).to (by omega) hq
        refine hK.out _ _ ⟨(hHeld.1).to (by omega) hq, (hHeld.2.1).to hq, (hHeld.2.2.1).to (by omega) hq, (hHeld.2.2.2.1).to (by omega) hq, (hHeld.2.2.2.2).trans (hq.mono (hHeld.2.2.2.2).size)⟩ (fun hHeld2 => ?_)
        clear hK K hHeld hq hTa14
        have hHeld := hHeld2
        clear hHeld2
        try simp only [Act.put, List.setIfInBounds_toArray, List.set_cons_zero, List.set_cons_succ, List.getElem_toArray, List.getElem_cons_zero, List.getElem_cons_succ]
        refine wpAnyH_ready (rs := [10]) (by kernel_rfl) (by simp) ?_
        refine AllReadyH.cons rfl (fun K hK => ?_) AllReadyH.nil
        go_simp
        refine (funsub (uhF (adF b K9)) _ (uhF_lt (adF_lt hb hk))).mono ?_
        rintro e a16 ⟨rfl, hq⟩
        go_wp2_with fail
        have hTa16 := (hTa15).to (by omega) hq
        refine hK.out _ _ ⟨(hHeld.1).to (by omega) hq, (hHeld.2.1).to hq, (hHeld.2.2.1).to (by omega) hq, (hHeld.2.2.2.1).to (by omega) hq, (hHeld.2.2.2.2).trans (hq.mono (hHeld.2.2.2.2).size)⟩ (fun hHeld2 => ?_)
        clear hK K hHeld hq hTa15
        have hHeld := hHeld2
        clear hHeld2
        try simp only [Act.put, List.setIfInBounds_toArray, List.set_cons_zero, List.set_cons_succ, List.getElem_toArray, List.getElem_cons_zero, List.getElem_cons_succ]
        refine wpAnyH_ready (rs := [12]) (by kernel_rfl) (by simp) ?_
        refine AllReadyH.cons rfl (fun K hK => ?_) AllReadyH.nil
        rw [if_pos (by rfl)]
        refine wp_store_mid _ _ _ rfl gT 0 (awL 4 (wd (usF (uhF (adF b K9))))).toArray rfl rfl hTa16.there (sizeCw _) (all_oneCell_toArray (awL_one 4 (wd (usF (uhF (adF b K9)))))) ?_
        have hTa17 := hTa16.whole (wd (usF (uhF (adF b K9))))
        have hSa17 := show Ar (World.setCells a16 gT 0 (awL 4 (wd (usF (uhF (adF b K9)))))) gB 16 (b) ∧ Ci (World.setCells a16 gT 0 (awL 4 (wd (usF (uhF (adF b K9)))))) gC (f) ∧ Ar (World.setCells a16 gT 0 (awL 4 (wd (usF (uhF (adF b K9)))))) gR 16 (fun _ => 0) ∧ Ar (World.setCells a16 gT 0 (awL 4 (wd (usF (uhF (adF b K9)))))) gL 256 (bk) ∧ Below w.heap.size w (World.setCells a16 gT 0 (awL 4 (wd (usF (uhF (adF b K9)))))) from ⟨(hHeld.1).apart (b := gT) (by omega) (awL 4 (wd (usF (uhF (adF b K9))))) 0, Cx.apart (hHeld.2.1) (b := gT) (by omega) (awL 4 (wd (usF (uhF (adF b K9))))) 0, (hHeld.2.2.1).apart (b := gT) (by omega) (awL 4 (wd (usF (uhF (adF b K9))))) 0, (hHeld.2.2.2.1).apart (b := gT) (by omega) (awL 4 (wd (usF (uhF (adF b K9))))) 0, (hHeld.2.2.2.2).trans (Below.setCells (Below.refl w.heap.size _) (b := gT) (by omega) (awL 4 (wd (usF (uhF (adF b K9))))) 0)⟩
        dsimp only [List.toList_toArray]
        generalize World.setCells a16 gT 0 (awL 4 (wd (usF (uhF (adF b K9))))) = a17 at *
        refine hK.out _ _ hSa17 (fun hHeld2 => ?_)
        clear hK K hHeld hSa17 hTa16
        have hHeld := hHeld2
        clear hHeld2
        try simp only [Act.put]
        refine wpAnyH_done (by kernel_rfl) ?_ _
        exact NoPanic.normal (HQ.out gT a17 _ _ _ _ _ _ _ _ _ _ _ (by omega) (by omega) hTa17 hHeld.1 hHeld.2.1 hHeld.2.2.1 hHeld.2.2.2.1 hHeld.2.2.2.2)
    · obtain ⟨gT, hggT⟩ : ∃ g : Nat, a5.heap.size = g := ⟨_, rfl⟩
      have hlgRgT : gR < gT := by rw [← hggT]; exact (hHeld.2.2.1).lt (by omega)
      have hlgLgT : gL < gT := by rw [← hggT]; exact (hHeld.2.2.2.1).lt (by omega)
      have hlgCgT : gC < gT := by rw [← hggT]; exact (hHeld.2.1).lt
      have hq : Below a5.heap.size a5 (a5.alloc (.cells #[.int .u32 0, .int .u32 0, .int .u32 0, .int .u32 0] 43)) := (Below.refl _ _).alloc (Nat.le_refl _) _
      have hTa18 := Aw.new a5 4 (fun _ => 0) 43
      rw [hggT] at hTa18
      have hSa18 := show Ar (a5.alloc (.cells #[.int .u32 0, .int .u32 0, .int .u32 0, .int .u32 0] 43)) gB 16 (b) ∧ Ci (a5.alloc (.cells #[.int .u32 0, .int .u32 0, .int .u32 0, .int .u32 0] 43)) gC (f) ∧ Ar (a5.alloc (.cells #[.int .u32 0, .int .u32 0, .int .u32 0, .int .u32 0] 43)) gR 16 (fun _ => 0) ∧ Ar (a5.alloc (.cells #[.int .u32 0, .int .u32 0, .int .u32 0, .int .u32 0] 43)) gL 256 (bk) ∧ Below w.heap.size w (a5.alloc (.cells #[.int .u32 0, .int .u32 0, .int .u32 0, .int .u32 0] 43)) from ⟨(hHeld.1).to (by omega) hq, (hHeld.2.1).to hq, (hHeld.2.2.1).to (by omega) hq, (hHeld.2.2.2.1).to (by omega) hq, (hHeld.2.2.2.2).trans (hq.mono (hHeld.2.2.2.2).size)⟩
      go_simp
      obtain ⟨a18, hwa18⟩ : ∃ V : World, V = a5.alloc (.cells #[.int .u32 0, .int .u32 0, .int .u32 0, .int .u32 0] 43) := ⟨_, rfl⟩
      rw [show a5.alloc (.cells #[.int .u32 0, .int .u32 0, .int .u32 0, .int .u32 0] 43) = a18 from hwa18.symm] at hSa18
      have hTa18 : Aw a18 gT 4 (fun _ => 0) := by rw [hwa18]; exact hTa18
      try rw [hggT]
      rw [← hwa18]
      refine hK.out _ _ hSa18 (fun hHeld2 => ?_)
      clear hK K hHeld hq hSa18 hwa18 hggT
      have hHeld := hHeld2
      clear hHeld2
      try simp only [Act.put, List.setIfInBounds_toArray, List.set_cons_zero, List.set_cons_succ, List.getElem_toArray, List.getElem_cons_zero, List.getElem_cons_succ]
      refine wpAnyH_ready (rs := [7]) (by kernel_rfl) (by simp) ?_
      refine AllReadyH.cons rfl (fun K hK => ?_) AllReadyH.nil
      go_simp
      refine (fadd b K9 _ hb hk).mono ?_
      rintro e a19 ⟨rfl, hq⟩
      go_wp2_with fail
      have hTa19 := (hTa18).to (by omega) hq
      refine hK.out _ _ ⟨(hHeld.1).to (by omega) hq, (hHeld.2.1).to hq, (hHeld.2.2.1).to (by omega) hq, (hHeld.2.2.2.1).to (by omega) hq, (hHeld.2.2.2.2).trans (hq.mono (hHeld.2.2.2.2).size)⟩ (fun hHeld2 => ?_)
      clear hK K hHeld hq hTa18
      have hHeld := hHeld2
      clear hHeld2
      try simp only [Act.put, List.setIfInBounds_toArray, List.set_cons_zero, List.set_cons_succ, List.getElem_toArray, List.getElem_cons_zero, List.getElem_cons_succ]
      refine wpAnyH_ready (rs := [8]) (by kernel_rfl) (by simp) ?_
      refine AllReadyH.cons rfl (fun K hK => ?_) AllReadyH.nil
      go_simp
      refine (funshift (adF b K9) _ (adF_lt hb hk)).mono ?_
      rintro e a20 ⟨rfl, hq⟩
      go_wp2_with fail
      have hTa20 := (hTa19).to (by omega) hq
      refine hK.out _ _ ⟨(hHeld.1).to (by omega) hq, (hHeld.2.1).to hq, (hHeld.2.2.1).to (by omega) hq, (hHeld.2.2.2.1).to (by omega) hq, (hHeld.2.2.2.2).trans (hq.mono (hHeld.2.2.2.2).size)⟩ (fun hHeld2 => ?_)
      clear hK K hHeld hq hTa19
      have hHeld := hHeld2
      clear hHeld2
      try simp only [Act.put, List.setIfInBounds_toArray, List.set_cons_zero, List.set_cons_succ, List.getElem_toArray, List.getElem_cons_zero, List.getElem_cons_succ]
      refine wpAnyH_ready (rs := [10]) (by kernel_rfl) (by simp) ?_
      refine AllReadyH.cons rfl (fun K hK => ?_) AllReadyH.nil
      go_simp
      refine (funsub (uhF (adF b K9)) _ (uhF_lt (adF_lt hb hk))).mono ?_
      rintro e a21 ⟨rfl, hq⟩
      go_wp2_with fail
      have hTa21 := (hTa20).to (by omega) hq
      refine hK.out _ _ ⟨(hHeld.1).to (by omega) hq, (hHeld.2.1).to hq, (hHeld.2.2.1).to (by omega) hq, (hHeld.2.2.2.1).to (by omega) hq, (hHeld.2.2.2.2).trans (hq.mono (hHeld.2.2.2.2).size)⟩ (fun hHeld2 => ?_)
      clear hK K hHeld hq hTa20
      have hHeld := hHeld2
      clear hHeld2
      try simp only [Act.put, List.setIfInBounds_toArray, List.set_cons_zero, List.set_cons_succ, List.getElem_toArray, List.getElem_cons_zero, List.getElem_cons_succ]
      refine wpAnyH_ready (rs := [12]) (by kernel_rfl) (by simp) ?_
      refine AllReadyH.cons rfl (fun K hK => ?_) AllReadyH.nil
      rw [if_pos (by rfl)]
      refine wp_store_mid _ _ _ rfl gT 0 (awL 4 (wd (usF (uhF (adF b K9))))).toArray rfl rfl hTa21.there (sizeCw _) (all_oneCell_toArray (awL_one 4 (wd (usF (uhF (adF b K9)))))) ?_
      have hTa22 := hTa21.whole (wd (usF (uhF (adF b K9))))
      have hSa22 := show Ar (World.setCells a21 gT 0 (awL 4 (wd (usF (uhF (adF b K9)))))) gB 16 (b) ∧ Ci (World.setCells a21 gT 0 (awL 4 (wd (usF (uhF (adF b K9)))))) gC (f) ∧ Ar (World.setCells a21 gT 0 (awL 4 (wd (usF (uhF (adF b K9)))))) gR 16 (fun _ => 0) ∧ Ar (World.setCells a21 gT 0 (awL 4 (wd (usF (uhF (adF b K9)))))) gL 256 (bk) ∧ Below w.heap.size w (World.setCells a21 gT 0 (awL 4 (wd (usF (uhF (adF b K9)))))) from ⟨(hHeld.1).apart (b := gT) (by omega) (awL 4 (wd (usF (uhF (adF b K9))))) 0, Cx.apart (hHeld.2.1) (b := gT) (by omega) (awL 4 (wd (usF (uhF (adF b K9))))) 0, (hHeld.2.2.1).apart (b := gT) (by omega) (awL 4 (wd (usF (uhF (adF b K9))))) 0, (hHeld.2.2.2.1).apart (b := gT) (by omega) (awL 4 (wd (usF (uhF (adF b K9))))) 0, (hHeld.2.2.2.2).trans (Below.setCells (Below.refl w.heap.size _) (b := gT) (by omega) (awL 4 (wd (usF (uhF (adF b K9))))) 0)⟩
      dsimp only [List.toList_toArray]
      generalize World.setCells a21 gT 0 (awL 4 (wd (usF (uhF (adF b K9))))) = a22 at *
      refine hK.out _ _ hSa22 (fun hHeld2 => ?_)
      clear hK K hHeld hSa22 hTa21
      have hHeld := hHeld2
      clear hHeld2
      try simp only [Act.put]
      refine wpAnyH_done (by kernel_rfl) ?_ _
      exact NoPanic.normal (HQ.out gT a22 _ _ _ _ _ _ _ _ _ _ _ (by omega) (by omega) hTa22 hHeld.1 hHeld.2.1 hHeld.2.2.1 hHeld.2.2.2.1 hHeld.2.2.2.2)
  · obtain ⟨gT, hggT⟩ : ∃ g : Nat, ad.heap.size = g := ⟨_, rfl⟩
    have hlgRgT : gR < gT := by rw [← hggT]; exact (hHeld.2.2.1).lt (by omega)
    have hlgLgT : gL < gT := by rw [← hggT]; exact (hHeld.2.2.2.1).lt (by omega)
    have hlgCgT : gC < gT := by rw [← hggT]; exact (hHeld.2.1).lt
    have hq : Below ad.heap.size ad (ad.alloc (.cells #[.int .u32 0, .int .u32 0, .int .u32 0, .int .u32 0] 43)) := (Below.refl _ _).alloc (Nat.le_refl _) _
    have hTa23 := Aw.new ad 4 (fun _ => 0) 43
    rw [hggT] at hTa23
    have hSa23 := show Ar (ad.alloc (.cells #[.int .u32 0, .int .u32 0, .int .u32 0, .int .u32 0] 43)) gB 16 (b) ∧ Ci (ad.alloc (.cells #[.int .u32 0, .int .u32 0, .int .u32 0, .int .u32 0] 43)) gC (f) ∧ Ar (ad.alloc (.cells #[.int .u32 0, .int .u32 0, .int .u32 0, .int .u32 0] 43)) gR 16 (fun _ => 0) ∧ Ar (ad.alloc (.cells #[.int .u32 0, .int .u32 0, .int .u32 0, .int .u32 0] 43)) gL 256 (bk) ∧ Below w.heap.size w (ad.alloc (.cells #[.int .u32 0, .int .u32 0, .int .u32 0, .int .u32 0] 43)) from ⟨(hHeld.1).to (by omega) hq, (hHeld.2.1).to hq, (hHeld.2.2.1).to (by omega) hq, (hHeld.2.2.2.1).to (by omega) hq, (hHeld.2.2.2.2).trans (hq.mono (hHeld.2.2.2.2).size)⟩
    go_simp
    obtain ⟨a23, hwa23⟩ : ∃ V : World, V = ad.alloc (.cells #[.int .u32 0, .int .u32 0, .int .u32 0, .int .u32 0] 43) := ⟨_, rfl⟩
    rw [show ad.alloc (.cells #[.int .u32 0, .int .u32 0, .int .u32 0, .int .u32 0] 43) = a23 from hwa23.symm] at hSa23
    have hTa23 : Aw a23 gT 4 (fun _ => 0) := by rw [hwa23]; exact hTa23
    try rw [hggT]
    rw [← hwa23]
    refine hK.out _ _ hSa23 (fun hHeld2 => ?_)
    clear hK K hHeld hq hSa23 hwa23 hggT
    have hHeld := hHeld2
    clear hHeld2
    try simp only [Act.put, List.setIfInBounds_toArray, List.set_cons_zero, List.set_cons_succ, List.getElem_toArray, List.getElem_cons_zero, List.getElem_cons_succ]
    refine wpAnyH_ready (rs := [1]) (by kernel_rfl) (by simp) ?_
    refine AllReadyH.cons rfl (fun K hK => ?_) AllReadyH.nil
    go_simp
    refine (fsplit b _ hb).mono ?_
    rintro e a24 ⟨rfl, hq⟩
    go_wp2_with fail
    have hTa24 := (hTa23).to (by omega) hq
    refine hK.out _ _ ⟨(hHeld.1).to (by omega) hq, (hHeld.2.1).to hq, (hHeld.2.2.1).to (by omega) hq, (hHeld.2.2.2.1).to (by omega) hq, (hHeld.2.2.2.2).trans (hq.mono (hHeld.2.2.2.2).size)⟩ (fun hHeld2 => ?_)
    clear hK K hHeld hq hTa23
    have hHeld := hHeld2
    clear hHeld2
    try simp only [Act.put, List.setIfInBounds_toArray, List.set_cons_zero, List.set_cons_succ, List.getElem_toArray, List.getElem_cons_zero, List.getElem_cons_succ]
    refine wpAnyH_ready (rs := [7]) (by kernel_rfl) (by simp) ?_
    refine AllReadyH.cons rfl (fun K hK => ?_) AllReadyH.nil
    go_simp
    refine (fadd b K9 _ hb hk).mono ?_
    rintro e a25 ⟨rfl, hq⟩
    go_wp2_with fail
    have hTa25 := (hTa24).to (by omega) hq
    refine hK.out _ _ ⟨(hHeld.1).to (by omega) hq, (hHeld.2.1).to hq, (hHeld.2.2.1).to (by omega) hq, (hHeld.2.2.2.1).to (by omega) hq, (hHeld.2.2.2.2).trans (hq.mono (hHeld.2.2.2.2).size)⟩ (fun hHeld2 => ?_)
    clear hK K hHeld hq hTa24
    have hHeld := hHeld2
    clear hHeld2
    try simp only [Act.put, List.setIfInBounds_toArray, List.set_cons_zero, List.set_cons_succ, List.getElem_toArray, List.getElem_cons_zero, List.getElem_cons_succ]
    refine wpAnyH_ready (rs := [8]) (by kernel_rfl) (by simp) ?_
    refine AllReadyH.cons rfl (fun K hK => ?_) AllReadyH.nil
    go_simp
    refine (funshift (adF b K9) _ (adF_lt hb hk)).mono ?_
    rintro e a26 ⟨rfl, hq⟩
    go_wp2_with fail
    have hTa26 := (hTa25).to (by omega) hq
    refine hK.out _ _ ⟨(hHeld.1).to (by omega) hq, (hHeld.2.1).to hq, (hHeld.2.2.1).to (by omega) hq, (hHeld.2.2.2.1).to (by omega) hq, (hHeld.2.2.2.2).trans (hq.mono (hHeld.2.2.2.2).size)⟩ (fun hHeld2 => ?_)
    clear hK K hHeld hq hTa25
    have hHeld := hHeld2
    clear hHeld2
    try simp only [Act.put, List.setIfInBounds_toArray, List.set_cons_zero, List.set_cons_succ, List.getElem_toArray, List.getElem_cons_zero, List.getElem_cons_succ]
    refine wpAnyH_ready (rs := [10]) (by kernel_rfl) (by simp) ?_
    refine AllReadyH.cons rfl (fun K hK => ?_) AllReadyH.nil
    go_simp
    refine (funsub (uhF (adF b K9)) _ (uhF_lt (adF_lt hb hk))).mono ?_
    rintro e a27 ⟨rfl, hq⟩
    go_wp2_with fail
    have hTa27 := (hTa26).to (by omega) hq
    refine hK.out _ _ ⟨(hHeld.1).to (by omega) hq, (hHeld.2.1).to hq, (hHeld.2.2.1).to (by omega) hq, (hHeld.2.2.2.1).to (by omega) hq, (hHeld.2.2.2.2).trans (hq.mono (hHeld.2.2.2.2).size)⟩ (fun hHeld2 => ?_)
    clear hK K hHeld hq hTa26
    have hHeld := hHeld2
    clear hHeld2
    try simp only [Act.put, List.setIfInBounds_toArray, List.set_cons_zero, List.set_cons_succ, List.getElem_toArray, List.getElem_cons_zero, List.getElem_cons_succ]
    refine wpAnyH_ready (rs := [12]) (by kernel_rfl) (by simp) ?_
    refine AllReadyH.cons rfl (fun K hK => ?_) AllReadyH.nil
    rw [if_pos (by rfl)]
    refine wp_store_mid _ _ _ rfl gT 0 (awL 4 (wd (usF (uhF (adF b K9))))).toArray rfl rfl hTa27.there (sizeCw _) (all_oneCell_toArray (awL_one 4 (wd (usF (uhF (adF b K9)))))) ?_
    have hTa28 := hTa27.whole (wd (usF (uhF (adF b K9))))
    have hSa28 := show Ar (World.setCells a27 gT 0 (awL 4 (wd (usF (uhF (adF b K9)))))) gB 16 (b) ∧ Ci (World.setCells a27 gT 0 (awL 4 (wd (usF (uhF (adF b K9)))))) gC (f) ∧ Ar (World.setCells a27 gT 0 (awL 4 (wd (usF (uhF (adF b K9)))))) gR 16 (fun _ => 0) ∧ Ar (World.setCells a27 gT 0 (awL 4 (wd (usF (uhF (adF b K9)))))) gL 256 (bk) ∧ Below w.heap.size w (World.setCells a27 gT 0 (awL 4 (wd (usF (uhF (adF b K9)))))) from ⟨(hHeld.1).apart (b := gT) (by omega) (awL 4 (wd (usF (uhF (adF b K9))))) 0, Cx.apart (hHeld.2.1) (b := gT) (by omega) (awL 4 (wd (usF (uhF (adF b K9))))) 0, (hHeld.2.2.1).apart (b := gT) (by omega) (awL 4 (wd (usF (uhF (adF b K9))))) 0, (hHeld.2.2.2.1).apart (b := gT) (by omega) (awL 4 (wd (usF (uhF (adF b K9))))) 0, (hHeld.2.2.2.2).trans (Below.setCells (Below.refl w.heap.size _) (b := gT) (by omega) (awL 4 (wd (usF (uhF (adF b K9))))) 0)⟩
    dsimp only [List.toList_toArray]
    generalize World.setCells a27 gT 0 (awL 4 (wd (usF (uhF (adF b K9))))) = a28 at *
    refine hK.out _ _ hSa28 (fun hHeld2 => ?_)
    clear hK K hHeld hSa28 hTa27
    have hHeld := hHeld2
    clear hHeld2
    try simp only [Act.put]
    refine wpAnyH_done (by kernel_rfl) ?_ _
    exact NoPanic.normal (HQ.out gT a28 _ _ _ _ _ _ _ _ _ _ _ (by omega) (by omega) hTa28 hHeld.1 hHeld.2.1 hHeld.2.2.1 hHeld.2.2.2.1 hHeld.2.2.2.2)

set_option maxHeartbeats 4000000 in
theorem fdecrypt (v : Value) (f b : Nat → Nat) (w : World) (hf : B16 f) (hb : B16 b) (hv : CipV w v f) (h : Boxes w) :
    Calls Tryd.prog 14 #[v, .agg (arL 16 b).toArray] w fun e w' => e = .returned (.agg (arL 16 (deF f b)).toArray) ∧ Below w.heap.size w w' := by
  have hz := zero16b
  have hzL := zero256
  obtain ⟨kB, hkB⟩ : ∃ kB : Array Value, (arL 16 b).toArray = kB := ⟨_, rfl⟩
  obtain ⟨w1, hw1⟩ : ∃ w1 : World, w1 = w.alloc (.cells (arL 16 b).toArray 22) := ⟨_, rfl⟩
  have hs1 : w1.heap.size = w.heap.size + 1 := by rw [hw1]; simp
  have hb1 : Below w.heap.size w w1 := by rw [hw1]; exact (Below.refl _ _).alloc (Nat.le_refl _) _
  have hK1 : Ar w1 w.heap.size 16 b := by rw [hw1]; exact Ar.new w 16 b _
  obtain ⟨w2, hw2⟩ : ∃ w2 : World, w2 = w1.alloc (.cells (arL 16 fun _ => 0).toArray 22) := ⟨_, rfl⟩
  have hb2 : Below w.heap.size w w2 := by rw [hw2]; exact hb1.alloc (by omega) _
  have hR2 : Ar w2 (w.heap.size + 1) 16 (fun _ => 0) := by rw [hw2, ← hs1]; exact Ar.new w1 16 _ _
  have hK2 : Ar w2 w.heap.size 16 b := by rw [hw2]; exact hK1.alloc (by omega) _
  have HF := Lib.hid hf
  have HBB := Lib.hid hb
  have HX := Lib.hid h
  have hv2 := Lib.hid (hv w2 hb2)
  rw [hkB] at hw1
  rw [hkB]
  clear hb1 hK1 hkB hf hb h hv
  go_enter Tryd.func14, Tryd.ntmps14
  go_upto_region 1 with fail
  rw [← hw1, ← hw2]
  clear hw1 hw2 hs1
  obtain ⟨gB, hgB⟩ : ∃ gB : Nat, w.heap.size = gB := ⟨_, rfl⟩
  obtain ⟨gR, hgR⟩ : ∃ gR : Nat, w.heap.size + 1 = gR := ⟨_, rfl⟩
  have hlB : w.heap.size ≤ gB := by omega
  have hlR : gB < gR := by omega
  rw [hgR] at hR2
  rw [hgB] at hK2
  try rw [hgR]
  try simp only [hgB]
  clear hgR
  go_wp2_with fail
  refine hv2.out.mono ?_
  rintro e w3 ⟨gC, rfl, hC3, hor, hq⟩
  have hneR : gC ≠ gR := by have hs := hR2.lt (by omega); omega
  have hR3 := hR2.to (by omega) hq
  have hK3 := hK2.to (by omega) hq
  have hB3 := hb2.trans (hq.mono hb2.size)
  clear hR2 hK2 hb2 hq hv2 hor
  go_wp2_with fail
  refine (froots _ (HX.out.keep hB3)).mono ?_
  rintro e w4 ⟨rfl, hq⟩
  have hC4 := hC3.to hq
  have hR4 := hR3.to (by omega) hq
  have hK4 := hK3.to (by omega) hq
  have hB4 := hB3.trans (hq.mono hB3.size)
  clear hC3 hR3 hK3 hB3 hq
  obtain ⟨gL, hgL⟩ : ∃ g : Nat, w4.heap.size = g := ⟨_, rfl⟩
  have hlL : gR < gL := by rw [← hgL]; exact hR4.lt (by omega)
  have hlC : gC < gL := by rw [← hgL]; exact hC4.lt
  obtain ⟨w5, hw5⟩ : ∃ V : World, V = w4.alloc (.cells (arL 256 fun _ => 0).toArray 30) := ⟨_, rfl⟩
  have hL5 : Ar w5 gL 256 (fun _ => 0) := by rw [hw5, ← hgL]; exact Ar.new w4 256 _ _
  have hC5 : Ci w5 gC f := by rw [hw5]; exact Cx.alloc hC4 (by decide) _
  have hR5 : Ar w5 gR 16 (fun _ => 0) := by rw [hw5]; exact hR4.alloc (by omega) _
  have hK5 : Ar w5 gB 16 b := by rw [hw5]; exact hK4.alloc (by omega) _
  have hB5 : Below w.heap.size w w5 := by rw [hw5]; exact hB4.alloc hB4.size _
  clear hC4 hR4 hK4 hB4
  go_upto_region 3 with (first
    | (refine wpList_store_ar rfl _ _ _ rfl _ _ _ bk rfl rfl (by rw [← hw5]; exact hL5) (size_arL _) ?_; intro w6 hL6 bel siz kee)
    | fail)
  rw [← hw5] at bel siz kee
  have hC6 : Ci w6 gC f := Cx.keep hC5 hlC bel
  have hR6 := hR5.keep hlL bel
  have hK6 := hK5.keep (show gB < gL by omega) bel
  have hB6 := hB5.trans (bel.mono (by omega))
  clear hL5 hC5 hR5 hK5 hB5 bel siz kee hw5 hgL hzL
  try dsimp only [Act.put]
  have hrk := Lib.hid (fun r => rk_lt f HF.out r)
  have hel := Lib.hid (dS_lt HF.out HBB.out)
  obtain ⟨K9, hK9⟩ : ∃ K : Nat → Nat, rk f 10 = K := ⟨_, rfl⟩
  refine fdecryptReg f b K9 gB gC gR gL HBB.out (by rw [← hK9]; exact hrk.out 10) hlB hlR hlL (fun W h => by rw [← hK9]; exact h.there 10 (by decide)) hK6 hC6 hR6 hL6 hB6 ?_
  intro gT w7 u11 u12 u13 u14 u15 u16 u17 u18 u19 u20 u21 hlT hlT2 hT7 hK7 hC7 hR7 hL7 hB7
  rw [← hK9, show usF (uhF (adF b (rk f 10))) = dS f b (9 - 9) from rfl] at hT7
  clear hK6 hC6 hR6 hL6 hB6 hK7 hK9 K9
  go_wp2_with fail
  go_loopw [7] (fun i wr => ∃ r : Nat, r ≤ 9 ∧ i = .int .i64 r ∧ Aw wr gT 4 (wd (dS f b (9 - r))) ∧ Ci wr gC f ∧ Ar wr gR 16 (fun _ => 0) ∧ Ar wr gL 256 bk ∧ Below w.heap.size w wr) (fun i _ => (intOf i).toNat)
  case atStart => exact ⟨9, by omega, rfl, hT7, hC7, hR7, hL7, hB7⟩
  case round =>
    clear hT7 hC7 hR7 hL7 hB7
    obtain ⟨r, hr, rfl, hT0, hC0, hR0, hL0, hB0⟩ := hrel
    obtain ⟨X9, hX9⟩ : ∃ X : Nat → Nat, dS f b (9 - r) = X := ⟨_, rfl⟩
    have hxl := Lib.hid (show B16 X9 by rw [← hX9]; exact hel.out _)
    by_cases h0 : 0 < r
    · have i1 : (0 : Int) < (r : Int) := by omega
      have i2 : (r : Int) < 11 := by omega
      obtain ⟨q, hq⟩ : ∃ q : Nat, r = q + 1 := ⟨r - 1, by omega⟩
      have q1 : (r : Int) - 1 = (q : Int) := by omega
      have q2 : wrap64 (q : Int) = (q : Int) := IntWalk.wrap64_in _ (by omega)
      have q3 : IntKind.i64.wrap (q : Int) = (q : Int) := wraps_i64' _ (by omega) (by omega)
      obtain ⟨K9, hK9⟩ : ∃ K : Nat → Nat, rk f r = K := ⟨_, rfl⟩
      have hkl := Lib.hid (show B16 K9 by rw [← hK9]; exact hrk.out r)
      have hrange := Lib.hid (show ∀ W, Ci W gC f → W.rangeAt gC (16 + r * 4) (awL 4 (wd K9)) from fun W h => by rw [← hK9]; exact h.there r (by omega))
      have hst := Lib.hid (show usF (uhF (umF (adF X9 K9))) = dS f b (9 - q) by rw [← hX9, ← hK9]; exact dS_step f b r q hq hr)
      have HQ1 := Lib.hid hq
      rw [hX9] at hT0
      clear hX9 hK9 hq
      go_upto_region 7 with fail
      have hTwr := hT0
      clear hT0
      have hTbd := hTwr.drew
      refine wp_region_held_drew (S := fun W => Ci W gC (f) ∧ Ar W gR 16 (fun _ => 0) ∧ Ar W gL 256 (bk) ∧ Below w.heap.size w W) (by kernel_rfl) ⟨hC0.drew, hR0.drew, hL0.drew, hB0.drew⟩ (fun hHeld => ?_)
      clear hC0 hR0 hL0 hB0 hTwr
      generalize World.drew wr = bd at *
      refine wpAnyH_take (i := 1) (v := ?vb1) rfl (by kernel_rfl) (by kernel_rfl) (by kernel_rfl) (fun _ _ _ h => h) (Or.inl ⟨by rfl, ?hyb1⟩) (by assumption) ?restb1
      case hyb1 =>
        intro W hSw
        go_simp
        try with_reducible rfl
      simp only [Act.put, List.setIfInBounds_toArray, List.set_cons_zero, List.set_cons_succ, List.getElem_toArray, List.getElem_cons_zero, List.getElem_cons_succ]
      refine wpAnyH_take (i := 2) (v := ?vb2) rfl (by kernel_rfl) (by kernel_rfl) (by kernel_rfl) (fun _ _ _ h => h) (Or.inl ⟨by rfl, ?hyb2⟩) (by assumption) ?restb2
      case hyb2 =>
        intro W hSw
        go_simp
        try with_reducible rfl
      simp only [Act.put, List.setIfInBounds_toArray, List.set_cons_zero, List.set_cons_succ, List.getElem_toArray, List.getElem_cons_zero, List.getElem_cons_succ]
      refine wpAnyH_take (i := 3) (v := ?vb3) rfl (by kernel_rfl) (by kernel_rfl) (by kernel_rfl) (fun _ _ _ h => h) (Or.inl ⟨by rfl, ?hyb3⟩) (by assumption) ?restb3
      case hyb3 =>
        intro W hSw
        go_simp
        try with_reducible rfl
      simp only [Act.put, List.setIfInBounds_toArray, List.set_cons_zero, List.set_cons_succ, List.getElem_toArray, List.getElem_cons_zero, List.getElem_cons_succ]
      refine wpAnyH_take (i := 4) (v := ?vb4) rfl (by kernel_rfl) (by kernel_rfl) (by kernel_rfl) (fun _ _ _ h => h) (Or.inl ⟨by rfl, ?hyb4⟩) (by assumption) ?restb4
      case hyb4 =>
        intro W hSw
        go_simp
        try with_reducible rfl
      simp only [Act.put, List.setIfInBounds_toArray, List.set_cons_zero, List.set_cons_succ, List.getElem_toArray, List.getElem_cons_zero, List.getElem_cons_succ]
      refine wpAnyH_take (i := 5) (v := ?vb5) rfl (by kernel_rfl) (by kernel_rfl) (by kernel_rfl) (fun _ _ _ h => h) (Or.inl ⟨by rfl, ?hyb5⟩) (by assumption) ?restb5
      case hyb5 =>
        intro W hSw
        go_simp
        try with_reducible rfl
      simp only [Act.put, List.setIfInBounds_toArray, List.set_cons_zero, List.set_cons_succ, List.getElem_toArray, List.getElem_cons_zero, List.getElem_cons_succ]
      refine wpAnyH_take (i := 6) (v := .agg (awL 4 (wd K9)).toArray) rfl (by kernel_rfl) (by kernel_rfl) (by kernel_rfl) (fun _ _ _ h => h) (yieldsIf_load_mid (by rfl) _ _ rfl gC (16 + r * 4) rfl (awL 4 (wd K9)) _ (fun W hSw => hrange.out _ (hSw.1)) Tryd.arrCw rfl (sizeCw _)) (by assumption) ?_
      simp only [Act.put, List.setIfInBounds_toArray, List.set_cons_zero, List.set_cons_succ, List.getElem_toArray, List.getElem_cons_zero, List.getElem_cons_succ]
      refine wpAnyH_take (i := 10) (v := .agg (arL 256 (bk)).toArray) rfl (by kernel_rfl) (by kernel_rfl) (by kernel_rfl) (fun _ _ _ h => h) (yieldsIf_load_mid (by rfl) _ _ rfl gL (0) rfl (arL 256 (bk)) _ (fun W hSw => hSw.2.2.1.range) Tryd.arr256 rfl (size_arL _)) (by assumption) ?_
      simp only [Act.put, List.setIfInBounds_toArray, List.set_cons_zero, List.set_cons_succ, List.getElem_toArray, List.getElem_cons_zero, List.getElem_cons_succ]
      refine wpAnyH_ready (rs := [0]) (by kernel_rfl) (by simp) ?_
      refine AllReadyH.cons rfl (fun K hK => ?_) AllReadyH.nil
      rw [if_pos (by rfl)]
      refine wp_load_mid _ _ rfl gT 0 rfl (awL 4 (wd X9)) _ hTbd.range Tryd.arrCw rfl (sizeCw _) ?_
      refine hK.out _ _ hHeld (fun hHeld2 => ?_)
      clear hK K hHeld
      have hHeld := hHeld2
      clear hHeld2
      try simp only [Act.put, List.setIfInBounds_toArray, List.set_cons_zero, List.set_cons_succ, List.getElem_toArray, List.getElem_cons_zero]
      refine wpAnyH_ready (rs := [7]) (by kernel_rfl) (by simp) ?_
      refine AllReadyH.cons rfl (fun K hK => ?_) AllReadyH.nil
      go_simp
      refine (fadd X9 K9 _ hxl.out hkl.out).mono ?_
      rintro e b6 ⟨rfl, hq⟩
      go_wp2_with fail
      have hTb6 := (hTbd).to (by omega) hq
      refine hK.out _ _ ⟨(hHeld.1).to hq, (hHeld.2.1).to (by omega) hq, (hHeld.2.2.1).to (by omega) hq, (hHeld.2.2.2).trans (hq.mono (hHeld.2.2.2).size)⟩ (fun hHeld2 => ?_)
      clear hK K hHeld hq hTbd
      have hHeld := hHeld2
      clear hHeld2
      try simp only [Act.put, List.setIfInBounds_toArray, List.set_cons_zero, List.set_cons_succ, List.getElem_toArray, List.getElem_cons_zero, List.getElem_cons_succ]
      refine wpAnyH_ready (rs := [8]) (by kernel_rfl) (by simp) ?_
      refine AllReadyH.cons rfl (fun K hK => ?_) AllReadyH.nil
      go_simp
      refine (funmix (adF X9 K9) _ (adF_lt hxl.out hkl.out)).mono ?_
      rintro e b7 ⟨rfl, hq⟩
      go_wp2_with fail
      have hTb7 := (hTb6).to (by omega) hq
      refine hK.out _ _ ⟨(hHeld.1).to hq, (hHeld.2.1).to (by omega) hq, (hHeld.2.2.1).to (by omega) hq, (hHeld.2.2.2).trans (hq.mono (hHeld.2.2.2).size)⟩ (fun hHeld2 => ?_)
      clear hK K hHeld hq hTb6
      have hHeld := hHeld2
      clear hHeld2
      try simp only [Act.put, List.setIfInBounds_toArray, List.set_cons_zero, List.set_cons_succ, List.getElem_toArray, List.getElem_cons_zero, List.getElem_cons_succ]
      refine wpAnyH_ready (rs := [9]) (by kernel_rfl) (by simp) ?_
      refine AllReadyH.cons rfl (fun K hK => ?_) AllReadyH.nil
      go_simp
      refine (funshift (umF (adF X9 K9)) _ (umF_lt _)).mono ?_
      rintro e b8 ⟨rfl, hq⟩
      go_wp2_with fail
      have hTb8 := (hTb7).to (by omega) hq
      refine hK.out _ _ ⟨(hHeld.1).to hq, (hHeld.2.1).to (by omega) hq, (hHeld.2.2.1).to (by omega) hq, (hHeld.2.2.2).trans (hq.mono (hHeld.2.2.2).size)⟩ (fun hHeld2 => ?_)
      clear hK K hHeld hq hTb7
      have hHeld := hHeld2
      clear hHeld2
      try simp only [Act.put, List.setIfInBounds_toArray, List.set_cons_zero, List.set_cons_succ, List.getElem_toArray, List.getElem_cons_zero, List.getElem_cons_succ]
      refine wpAnyH_ready (rs := [11]) (by kernel_rfl) (by simp) ?_
      refine AllReadyH.cons rfl (fun K hK => ?_) AllReadyH.nil
      go_simp
      refine (funsub (uhF (umF (adF X9 K9))) _ (uhF_lt (umF_lt _))).mono ?_
      rintro e b9 ⟨rfl, hq⟩
      go_wp2_with fail
      have hTb9 := (hTb8).to (by omega) hq
      refine hK.out _ _ ⟨(hHeld.1).to hq, (hHeld.2.1).to (by omega) hq, (hHeld.2.2.1).to (by omega) hq, (hHeld.2.2.2).trans (hq.mono (hHeld.2.2.2).size)⟩ (fun hHeld2 => ?_)
      clear hK K hHeld hq hTb8
      have hHeld := hHeld2
      clear hHeld2
      try simp only [Act.put, List.setIfInBounds_toArray, List.set_cons_zero, List.set_cons_succ, List.getElem_toArray, List.getElem_cons_zero, List.getElem_cons_succ]
      refine wpAnyH_ready (rs := [12]) (by kernel_rfl) (by simp) ?_
      refine AllReadyH.cons rfl (fun K hK => ?_) AllReadyH.nil
      rw [if_pos (by rfl)]
      refine wp_store_mid _ _ _ rfl gT 0 (awL 4 (wd (usF (uhF (umF (adF X9 K9)))))).toArray rfl rfl hTb9.there (sizeCw _) (all_oneCell_toArray (awL_one 4 (wd (usF (uhF (umF (adF X9 K9))))))) ?_
      have hTb10 := hTb9.whole (wd (usF (uhF (umF (adF X9 K9)))))
      have hSb10 := show Ci (World.setCells b9 gT 0 (awL 4 (wd (usF (uhF (umF (adF X9 K9))))))) gC (f) ∧ Ar (World.setCells b9 gT 0 (awL 4 (wd (usF (uhF (umF (adF X9 K9))))))) gR 16 (fun _ => 0) ∧ Ar (World.setCells b9 gT 0 (awL 4 (wd (usF (uhF (umF (adF X9 K9))))))) gL 256 (bk) ∧ Below w.heap.size w (World.setCells b9 gT 0 (awL 4 (wd (usF (uhF (umF (adF X9 K9))))))) from ⟨Cx.apart (hHeld.1) (b := gT) (by omega) (awL 4 (wd (usF (uhF (umF (adF X9 K9)))))) 0, (hHeld.2.1).apart (b := gT) (by omega) (awL 4 (wd (usF (uhF (umF (adF X9 K9)))))) 0, (hHeld.2.2.1).apart (b := gT) (by omega) (awL 4 (wd (usF (uhF (umF (adF X9 K9)))))) 0, (hHeld.2.2.2).trans (Below.setCells (Below.refl w.heap.size _) (b := gT) (by omega) (awL 4 (wd (usF (uhF (umF (adF X9 K9)))))) 0)⟩
      dsimp only [List.toList_toArray]
      generalize World.setCells b9 gT 0 (awL 4 (wd (usF (uhF (umF (adF X9 K9)))))) = b10 at *
      refine hK.out _ _ hSb10 (fun hHeld2 => ?_)
      clear hK K hHeld hSb10 hTb9
      have hHeld := hHeld2
      clear hHeld2
      try simp only [Act.put]
      refine wpAnyH_done (by kernel_rfl) ?_ _
      obtain ⟨hC9, hR9, hL9, hB9⟩ := hHeld
      have hT9 := hTb10
      clear hTb10
      rw [hst.out] at hT9
      clear i2
      go_wp2_with fail
      go_roundw
      case rel => exact ⟨q, by omega, by first | rfl | go_num, hT9, hC9, hR9, hL9, hB9⟩
      case measure => simp [intOf]; omega
    · obtain rfl : r = 0 := by omega
      obtain ⟨K9, hK9⟩ : ∃ K : Nat → Nat, rk f 0 = K := ⟨_, rfl⟩
      have hkl := Lib.hid (show B16 K9 by rw [← hK9]; exact hrk.out 0)
      have hrange := Lib.hid (show ∀ W, Ci W gC f → W.rangeAt gC 16 (awL 4 (wd K9)) from fun W h => by rw [← hK9]; exact h.there 0 (by decide))
      have hlast := Lib.hid (show adF X9 K9 = deF f b by rw [← hX9, ← hK9]; exact dS_last f b)
      rw [hX9] at hT0
      clear hX9 hK9
      go_upto_region 8 with fail
      have hRwr := hR0
      clear hR0
      have hRcd := hRwr.drew
      refine wp_region_held_drew (S := fun W => Ci W gC (f) ∧ Aw W gT 4 (wd X9) ∧ Below w.heap.size w W) (by kernel_rfl) ⟨hC0.drew, hT0.drew, hB0.drew⟩ (fun hHeld => ?_)
      clear hC0 hT0 hB0 hRwr
      generalize World.drew wr = cd at *
      refine wpAnyH_take (i := 0) (v := .agg (awL 4 (wd X9)).toArray) rfl (by kernel_rfl) (by kernel_rfl) (by kernel_rfl) (fun _ _ _ h => h) (yieldsIf_load_mid (by rfl) _ _ rfl gT (0) rfl (awL 4 (wd X9)) _ (fun W hSw => hSw.2.1.range) Tryd.arrCw rfl (sizeCw _)) (by assumption) ?_
      simp only [Act.put, List.setIfInBounds_toArray, List.set_cons_zero, List.set_cons_succ, List.getElem_toArray, List.getElem_cons_zero]
      refine wpAnyH_take (i := 1) (v := ?vc1) rfl (by kernel_rfl) (by kernel_rfl) (by kernel_rfl) (fun _ _ _ h => h) (Or.inl ⟨by rfl, ?hyc1⟩) (by assumption) ?restc1
      case hyc1 =>
        intro W hSw
        go_simp
        try with_reducible rfl
      simp only [Act.put, List.setIfInBounds_toArray, List.set_cons_zero, List.set_cons_succ, List.getElem_toArray, List.getElem_cons_zero, List.getElem_cons_succ]
      refine wpAnyH_take (i := 2) (v := ?vc2) rfl (by kernel_rfl) (by kernel_rfl) (by kernel_rfl) (fun _ _ _ h => h) (Or.inl ⟨by rfl, ?hyc2⟩) (by assumption) ?restc2
      case hyc2 =>
        intro W hSw
        go_simp
        try with_reducible rfl
      simp only [Act.put, List.setIfInBounds_toArray, List.set_cons_zero, List.set_cons_succ, List.getElem_toArray, List.getElem_cons_zero, List.getElem_cons_succ]
      refine wpAnyH_take (i := 3) (v := ?vc3) rfl (by kernel_rfl) (by kernel_rfl) (by kernel_rfl) (fun _ _ _ h => h) (Or.inl ⟨by rfl, ?hyc3⟩) (by assumption) ?restc3
      case hyc3 =>
        intro W hSw
        go_simp
        try with_reducible rfl
      simp only [Act.put, List.setIfInBounds_toArray, List.set_cons_zero, List.set_cons_succ, List.getElem_toArray, List.getElem_cons_zero, List.getElem_cons_succ]
      refine wpAnyH_take (i := 4) (v := ?vc4) rfl (by kernel_rfl) (by kernel_rfl) (by kernel_rfl) (fun _ _ _ h => h) (Or.inl ⟨by rfl, ?hyc4⟩) (by assumption) ?restc4
      case hyc4 =>
        intro W hSw
        go_simp
        try with_reducible rfl
      simp only [Act.put, List.setIfInBounds_toArray, List.set_cons_zero, List.set_cons_succ, List.getElem_toArray, List.getElem_cons_zero, List.getElem_cons_succ]
      refine wpAnyH_take (i := 5) (v := .agg (awL 4 (wd K9)).toArray) rfl (by kernel_rfl) (by kernel_rfl) (by kernel_rfl) (fun _ _ _ h => h) (yieldsIf_load_mid (by rfl) _ _ rfl gC (16) rfl (awL 4 (wd K9)) _ (fun W hSw => hrange.out _ (hSw.1)) Tryd.arrCw rfl (sizeCw _)) (by assumption) ?_
      simp only [Act.put, List.setIfInBounds_toArray, List.set_cons_zero, List.set_cons_succ, List.getElem_toArray, List.getElem_cons_zero, List.getElem_cons_succ]
      refine wpAnyH_ready (rs := [6]) (by kernel_rfl) (by simp) ?_
      refine AllReadyH.cons rfl (fun K hK => ?_) AllReadyH.nil
      go_simp
      refine (fadd X9 K9 _ hxl.out hkl.out).mono ?_
      rintro e c5 ⟨rfl, hq⟩
      go_wp2_with fail
      have hRc5 := (hRcd).to (by omega) hq
      refine hK.out _ _ ⟨(hHeld.1).to hq, (hHeld.2.1).to (by omega) hq, (hHeld.2.2).trans (hq.mono (hHeld.2.2).size)⟩ (fun hHeld2 => ?_)
      clear hK K hHeld hq hRcd
      have hHeld := hHeld2
      clear hHeld2
      try simp only [Act.put, List.setIfInBounds_toArray, List.set_cons_zero, List.set_cons_succ, List.getElem_toArray, List.getElem_cons_zero, List.getElem_cons_succ]
      refine wpAnyH_ready (rs := [7]) (by kernel_rfl) (by simp) ?_
      refine AllReadyH.cons rfl (fun K hK => ?_) AllReadyH.nil
      go_simp
      refine (fjoin (adF X9 K9) _ (adF_lt hxl.out hkl.out)).mono ?_
      rintro e c6 ⟨rfl, hq⟩
      go_wp2_with fail
      have hRc6 := (hRc5).to (by omega) hq
      refine hK.out _ _ ⟨(hHeld.1).to hq, (hHeld.2.1).to (by omega) hq, (hHeld.2.2).trans (hq.mono (hHeld.2.2).size)⟩ (fun hHeld2 => ?_)
      clear hK K hHeld hq hRc5
      have hHeld := hHeld2
      clear hHeld2
      try simp only [Act.put, List.setIfInBounds_toArray, List.set_cons_zero, List.set_cons_succ, List.getElem_toArray, List.getElem_cons_zero, List.getElem_cons_succ]
      refine wpAnyH_ready (rs := [8]) (by kernel_rfl) (by simp) ?_
      refine AllReadyH.cons rfl (fun K hK => ?_) AllReadyH.nil
      rw [if_pos (by rfl)]
      refine wp_store_mid _ _ _ rfl gR 0 (arL 16 (adF X9 K9)).toArray rfl rfl hRc6.there (size16b _) (all_oneCell_toArray (arL_one 16 (adF X9 K9))) ?_
      have hRc7 := hRc6.whole (adF X9 K9)
      have hSc7 := show Ci (World.setCells c6 gR 0 (arL 16 (adF X9 K9))) gC (f) ∧ Aw (World.setCells c6 gR 0 (arL 16 (adF X9 K9))) gT 4 (wd X9) ∧ Below w.heap.size w (World.setCells c6 gR 0 (arL 16 (adF X9 K9))) from ⟨Cx.apart (hHeld.1) (b := gR) (by omega) (arL 16 (adF X9 K9)) 0, (hHeld.2.1).apart (b := gR) (by omega) (arL 16 (adF X9 K9)) 0, (hHeld.2.2).trans (Below.setCells (Below.refl w.heap.size _) (b := gR) (by omega) (arL 16 (adF X9 K9)) 0)⟩
      dsimp only [List.toList_toArray]
      generalize World.setCells c6 gR 0 (arL 16 (adF X9 K9)) = c7 at *
      refine hK.out _ _ hSc7 (fun hHeld2 => ?_)
      clear hK K hHeld hSc7 hRc6
      have hHeld := hHeld2
      clear hHeld2
      try simp only [Act.put]
      refine wpAnyH_done (by kernel_rfl) ?_ _
      have hB9 := hHeld.2.2
      have hR9 := hRc7
      clear hHeld hRc7
      rw [hlast.out] at hR9
      go_wp2_with fail
      refine bodyPost_ret_ar rfl rfl hR9 Tryd.arr16b (size16b _) rfl ⟨rfl, hB9⟩
end Go.Proofs.YtejgeefhnpeejaaDoor
