/-
  The walk of the law FastNil of layer 7: for every block it returns true, and writes nothing that was there.
-/
import Derived.Test.YtejgeefhnpeejaaDoorFao
import Derived.Test.YtejgeefhnpeejaaDoorFap
import Derived.Test.YtejgeefhnpeejaaDoorCxl
import Derived.Test.YtejgeefhnpeejaaDoorEqs
import Derived.Test.YtejgeefhnpeejaaDoorArg
import Derived.Deep.RegionHeld3
import Derived.Test.YtejgeefhnpeejaaDoorGke
import Derived.Test.YtejgeefhnpeejaaDoorBku
namespace Go.Proofs.YtejgeefhnpeejaaDoor
open Go.RowKit
set_option linter.unusedVariables false
set_option maxRecDepth 100000

theorem Tryd.zeroCip : (Tryd.prog.info? 46).map (fun i => (i.zero, i.size)) = some (some (.agg (cxL 61 (ciF zF zF false)).toArray), 61) := by kernel_rfl
theorem zeroCip (w : World) : (zeroValue 46).run Tryd.prog w = .ok (.agg (cxL 61 (ciF zF zF false)).toArray) w := (zero_of_info Tryd.zeroCip).1 w

noncomputable def fnilRegC : Code := ((Tryd.f6.body.bind (regionNo 5)).getD .skip)
set_option maxHeartbeats 4000000 in
theorem fnilReg (b : Nat → Nat) (gb gZ : Nat) {Q0 : Exit → Act → World → Prop} {t0 t2 t3 t5 t6 t7 t8 t9 t10 t11 t12 t13 t14 t15 t16 t17 t18 t19 t20 t21 t22 t23 t24 t25 t26 t27 t28 t29 t30 t31 t32 t33 t34 t35 t36 t37 t38 t39 t40 t41 t42 t43 t44 t45 t46 t47 t48 t49 : Value} {w W : World} (Hb : B16 b) (hlb : w.heap.size ≤ gb) (hbW : Ar W gb 16 b) (hZW : Cx W gZ 61 (ciF zF zF false)) (hBW : Below w.heap.size w W)
    (hQ : ∀ (gT : Nat) (w9 : World) (u8 u9 u10 u11 : Value), gb < gT → gZ < gT → Ar w9 gT 16 (enF zF b) → Ar w9 gb 16 b → Cx w9 gZ 61 (ciF zF zF false) → Below w.heap.size w w9 → Q0 .normal ⟨(t0 :: .pointer (some ⟨gb, 0, none⟩) :: t2 :: t3 :: .pointer (some ⟨gZ, 0, none⟩) :: .pointer (some ⟨gT, 0, none⟩) :: t6 :: t7 :: u8 :: u9 :: u10 :: u11 :: t12 :: t13 :: t14 :: t15 :: t16 :: t17 :: t18 :: t19 :: t20 :: t21 :: t22 :: t23 :: t24 :: t25 :: t26 :: t27 :: t28 :: t29 :: t30 :: t31 :: t32 :: t33 :: t34 :: t35 :: t36 :: t37 :: t38 :: t39 :: t40 :: t41 :: t42 :: t43 :: t44 :: t45 :: t46 :: t47 :: t48 :: t49 :: []).toArray, []⟩ w9) :
    Code.wp Tryd.prog fnilRegC Q0 ⟨(t0 :: .pointer (some ⟨gb, 0, none⟩) :: t2 :: t3 :: .pointer (some ⟨gZ, 0, none⟩) :: t5 :: t6 :: t7 :: t8 :: t9 :: t10 :: t11 :: t12 :: t13 :: t14 :: t15 :: t16 :: t17 :: t18 :: t19 :: t20 :: t21 :: t22 :: t23 :: t24 :: t25 :: t26 :: t27 :: t28 :: t29 :: t30 :: t31 :: t32 :: t33 :: t34 :: t35 :: t36 :: t37 :: t38 :: t39 :: t40 :: t41 :: t42 :: t43 :: t44 :: t45 :: t46 :: t47 :: t48 :: t49 :: []).toArray, []⟩ W := by
  have HQ := Lib.hid hQ
  clear hQ
  refine Code.wp_mono NoPanic.imp ?_
  conv => arg 2; whnf
  have hz := zero16b
  have z0 := run_zero16
  refine wp_region_held_drew (S := fun W => Ar W gb 16 (b) ∧ Cx W gZ 61 (ciF zF zF false) ∧ Below w.heap.size w W) (by kernel_rfl) ⟨hbW, hZW.drew, hBW.drew⟩ (fun hHeld => ?_)
  clear hbW hZW hBW 
  generalize World.drew W = ad at *
  refine wpAnyH_take (i := 0) (v := ?va1) rfl (by kernel_rfl) (by kernel_rfl) (by kernel_rfl) (fun _ _ _ h => h) (Or.inl ⟨by rfl, ?hya1⟩) (by assumption) ?resta1
  case hya1 =>
    intro W hSw
    go_simp
    try with_reducible rfl
  simp only [Act.put, List.setIfInBounds_toArray, List.set_cons_zero, List.set_cons_succ, List.getElem_toArray, List.getElem_cons_zero]
  refine wpAnyH_take (i := 2) (v := .agg (arL 16 (b)).toArray) rfl (by kernel_rfl) (by kernel_rfl) (by kernel_rfl) (fun _ _ _ h => h) (yieldsIf_load_mid (by rfl) _ _ rfl gb (0) rfl (arL 16 (b)) _ (fun W hSw => hSw.1.range) Tryd.arr16b rfl (size16b _)) (by assumption) ?_
  simp only [Act.put, List.setIfInBounds_toArray, List.set_cons_zero, List.set_cons_succ, List.getElem_toArray, List.getElem_cons_zero, List.getElem_cons_succ]
  refine wpAnyH_ready (rs := [1, 4]) (by kernel_rfl) (by simp) ?_
  refine AllReadyH.cons rfl (fun K hK => ?_) (AllReadyH.cons rfl (fun K hK => ?_) AllReadyH.nil)
  · go_simp
    refine (refprepare zF _ zF_lt).mono ?_
    rintro e a2 ⟨rfl, hq⟩
    go_wp2_with fail
    refine hK.out _ _ ⟨(hHeld.1).to (by omega) hq, (hHeld.2.1).to (by decide) hq, (hHeld.2.2).trans (hq.mono (hHeld.2.2).size)⟩ (fun hHeld2 => ?_)
    clear hK K hHeld hq
    have hHeld := hHeld2
    clear hHeld2
    try simp only [Act.put, List.setIfInBounds_toArray, List.set_cons_zero, List.set_cons_succ, List.getElem_toArray, List.getElem_cons_zero, List.getElem_cons_succ]
    refine wpAnyH_ready (rs := [3, 4]) (by kernel_rfl) (by simp) ?_
    refine AllReadyH.cons rfl (fun K hK => ?_) (AllReadyH.cons rfl (fun K hK => ?_) AllReadyH.nil)
    · go_simp
      refine (refencrypt zF b _ zF_lt Hb).mono ?_
      rintro e a3 ⟨rfl, hq⟩
      go_wp2_with fail
      refine hK.out _ _ ⟨(hHeld.1).to (by omega) hq, (hHeld.2.1).to (by decide) hq, (hHeld.2.2).trans (hq.mono (hHeld.2.2).size)⟩ (fun hHeld2 => ?_)
      clear hK K hHeld hq
      have hHeld := hHeld2
      clear hHeld2
      try simp only [Act.put, List.setIfInBounds_toArray, List.set_cons_zero, List.set_cons_succ, List.getElem_toArray, List.getElem_cons_zero, List.getElem_cons_succ]
      refine wpAnyH_ready (rs := [4]) (by kernel_rfl) (by simp) ?_
      refine AllReadyH.cons rfl (fun K hK => ?_) AllReadyH.nil
      obtain ⟨gT, hggT⟩ : ∃ g : Nat, a3.heap.size = g := ⟨_, rfl⟩
      have hlgbgT : gb < gT := by rw [← hggT]; exact (hHeld.1).lt (by omega)
      have hlgZgT : gZ < gT := by rw [← hggT]; exact (hHeld.2.1).lt (by decide)
      have hq : Below a3.heap.size a3 (a3.alloc (.cells (arL 16 fun _ => 0).toArray 22)) := (Below.refl _ _).alloc (Nat.le_refl _) _
      have hTa4 := Ar.new a3 16 (fun _ => 0) 22
      rw [hggT] at hTa4
      have hSa4 := show Ar (a3.alloc (.cells (arL 16 fun _ => 0).toArray 22)) gb 16 (b) ∧ Cx (a3.alloc (.cells (arL 16 fun _ => 0).toArray 22)) gZ 61 (ciF zF zF false) ∧ Below w.heap.size w (a3.alloc (.cells (arL 16 fun _ => 0).toArray 22)) from ⟨(hHeld.1).to (by omega) hq, (hHeld.2.1).to (by decide) hq, (hHeld.2.2).trans (hq.mono (hHeld.2.2).size)⟩
      go_simp
      obtain ⟨a4, hwa4⟩ : ∃ V : World, V = a3.alloc (.cells (arL 16 fun _ => 0).toArray 22) := ⟨_, rfl⟩
      rw [show a3.alloc (.cells (arL 16 fun _ => 0).toArray 22) = a4 from hwa4.symm] at hSa4
      have hTa4 : Ar a4 gT 16 (fun _ => 0) := by rw [hwa4]; exact hTa4
      try rw [hggT]
      rw [← hwa4]
      refine hK.out _ _ hSa4 (fun hHeld2 => ?_)
      clear hK K hHeld hq hSa4 hwa4 hggT
      have hHeld := hHeld2
      clear hHeld2
      try simp only [Act.put, List.setIfInBounds_toArray, List.set_cons_zero, List.set_cons_succ, List.getElem_toArray, List.getElem_cons_zero, List.getElem_cons_succ]
      refine wpAnyH_ready (rs := [5]) (by kernel_rfl) (by simp) ?_
      refine AllReadyH.cons rfl (fun K hK => ?_) AllReadyH.nil
      rw [if_pos (by rfl)]
      refine wp_store_mid _ _ _ rfl gT 0 (arL 16 (enF zF b)).toArray rfl rfl hTa4.there (size16b _) (all_oneCell_toArray (arL_one 16 (enF zF b))) ?_
      have hTa5 := hTa4.whole (enF zF b)
      have hSa5 := show Ar (World.setCells a4 gT 0 (arL 16 (enF zF b))) gb 16 (b) ∧ Cx (World.setCells a4 gT 0 (arL 16 (enF zF b))) gZ 61 (ciF zF zF false) ∧ Below w.heap.size w (World.setCells a4 gT 0 (arL 16 (enF zF b))) from ⟨(hHeld.1).apart (b := gT) (by omega) (arL 16 (enF zF b)) 0, (hHeld.2.1).apart (b := gT) (by omega) (arL 16 (enF zF b)) 0, (hHeld.2.2).trans (Below.setCells (Below.refl w.heap.size _) (b := gT) (by omega) (arL 16 (enF zF b)) 0)⟩
      dsimp only [List.toList_toArray]
      generalize World.setCells a4 gT 0 (arL 16 (enF zF b)) = a5 at *
      refine hK.out _ _ hSa5 (fun hHeld2 => ?_)
      clear hK K hHeld hSa5 hTa4
      have hHeld := hHeld2
      clear hHeld2
      try simp only [Act.put]
      refine wpAnyH_done (by kernel_rfl) ?_ _
      exact NoPanic.normal (HQ.out gT a5 _ _ _ _ (by omega) (by omega) hTa5 hHeld.1 hHeld.2.1 hHeld.2.2)
    · obtain ⟨gT, hggT⟩ : ∃ g : Nat, a2.heap.size = g := ⟨_, rfl⟩
      have hlgbgT : gb < gT := by rw [← hggT]; exact (hHeld.1).lt (by omega)
      have hlgZgT : gZ < gT := by rw [← hggT]; exact (hHeld.2.1).lt (by decide)
      have hq : Below a2.heap.size a2 (a2.alloc (.cells (arL 16 fun _ => 0).toArray 22)) := (Below.refl _ _).alloc (Nat.le_refl _) _
      have hTa6 := Ar.new a2 16 (fun _ => 0) 22
      rw [hggT] at hTa6
      have hSa6 := show Ar (a2.alloc (.cells (arL 16 fun _ => 0).toArray 22)) gb 16 (b) ∧ Cx (a2.alloc (.cells (arL 16 fun _ => 0).toArray 22)) gZ 61 (ciF zF zF false) ∧ Below w.heap.size w (a2.alloc (.cells (arL 16 fun _ => 0).toArray 22)) from ⟨(hHeld.1).to (by omega) hq, (hHeld.2.1).to (by decide) hq, (hHeld.2.2).trans (hq.mono (hHeld.2.2).size)⟩
      go_simp
      obtain ⟨a6, hwa6⟩ : ∃ V : World, V = a2.alloc (.cells (arL 16 fun _ => 0).toArray 22) := ⟨_, rfl⟩
      rw [show a2.alloc (.cells (arL 16 fun _ => 0).toArray 22) = a6 from hwa6.symm] at hSa6
      have hTa6 : Ar a6 gT 16 (fun _ => 0) := by rw [hwa6]; exact hTa6
      try rw [hggT]
      rw [← hwa6]
      refine hK.out _ _ hSa6 (fun hHeld2 => ?_)
      clear hK K hHeld hq hSa6 hwa6 hggT
      have hHeld := hHeld2
      clear hHeld2
      try simp only [Act.put, List.setIfInBounds_toArray, List.set_cons_zero, List.set_cons_succ, List.getElem_toArray, List.getElem_cons_zero, List.getElem_cons_succ]
      refine wpAnyH_ready (rs := [3]) (by kernel_rfl) (by simp) ?_
      refine AllReadyH.cons rfl (fun K hK => ?_) AllReadyH.nil
      go_simp
      refine (refencrypt zF b _ zF_lt Hb).mono ?_
      rintro e a7 ⟨rfl, hq⟩
      go_wp2_with fail
      have hTa7 := (hTa6).to (by omega) hq
      refine hK.out _ _ ⟨(hHeld.1).to (by omega) hq, (hHeld.2.1).to (by decide) hq, (hHeld.2.2).trans (hq.mono (hHeld.2.2).size)⟩ (fun hHeld2 => ?_)
      clear hK K hHeld hq hTa6
      have hHeld := hHeld2
      clear hHeld2
      try simp only [Act.put, List.setIfInBounds_toArray, List.set_cons_zero, List.set_cons_succ, List.getElem_toArray, List.getElem_cons_zero, List.getElem_cons_succ]
      refine wpAnyH_ready (rs := [5]) (by kernel_rfl) (by simp) ?_
      refine AllReadyH.cons rfl (fun K hK => ?_) AllReadyH.nil
      rw [if_pos (by rfl)]
      refine wp_store_mid _ _ _ rfl gT 0 (arL 16 (enF zF b)).toArray rfl rfl hTa7.there (size16b _) (all_oneCell_toArray (arL_one 16 (enF zF b))) ?_
      have hTa8 := hTa7.whole (enF zF b)
      have hSa8 := show Ar (World.setCells a7 gT 0 (arL 16 (enF zF b))) gb 16 (b) ∧ Cx (World.setCells a7 gT 0 (arL 16 (enF zF b))) gZ 61 (ciF zF zF false) ∧ Below w.heap.size w (World.setCells a7 gT 0 (arL 16 (enF zF b))) from ⟨(hHeld.1).apart (b := gT) (by omega) (arL 16 (enF zF b)) 0, (hHeld.2.1).apart (b := gT) (by omega) (arL 16 (enF zF b)) 0, (hHeld.2.2).trans (Below.setCells (Below.refl w.heap.size _) (b := gT) (by omega) (arL 16 (enF zF b)) 0)⟩
      dsimp only [List.toList_toArray]
      generalize World.setCells a7 gT 0 (arL 16 (enF zF b)) = a8 at *
      refine hK.out _ _ hSa8 (fun hHeld2 => ?_)
      clear hK K hHeld hSa8 hTa7
      have hHeld := hHeld2
      clear hHeld2
      try simp only [Act.put]
      refine wpAnyH_done (by kernel_rfl) ?_ _
      exact NoPanic.normal (HQ.out gT a8 _ _ _ _ (by omega) (by omega) hTa8 hHeld.1 hHeld.2.1 hHeld.2.2)
  · obtain ⟨gT, hggT⟩ : ∃ g : Nat, ad.heap.size = g := ⟨_, rfl⟩
    have hlgbgT : gb < gT := by rw [← hggT]; exact (hHeld.1).lt (by omega)
    have hlgZgT : gZ < gT := by rw [← hggT]; exact (hHeld.2.1).lt (by decide)
    have hq : Below ad.heap.size ad (ad.alloc (.cells (arL 16 fun _ => 0).toArray 22)) := (Below.refl _ _).alloc (Nat.le_refl _) _
    have hTa9 := Ar.new ad 16 (fun _ => 0) 22
    rw [hggT] at hTa9
    have hSa9 := show Ar (ad.alloc (.cells (arL 16 fun _ => 0).toArray 22)) gb 16 (b) ∧ Cx (ad.alloc (.cells (arL 16 fun _ => 0).toArray 22)) gZ 61 (ciF zF zF false) ∧ Below w.heap.size w (ad.alloc (.cells (arL 16 fun _ => 0).toArray 22)) from ⟨(hHeld.1).to (by omega) hq, (hHeld.2.1).to (by decide) hq, (hHeld.2.2).trans (hq.mono (hHeld.2.2).size)⟩
    go_simp
    obtain ⟨a9, hwa9⟩ : ∃ V : World, V = ad.alloc (.cells (arL 16 fun _ => 0).toArray 22) := ⟨_, rfl⟩
    rw [show ad.alloc (.cells (arL 16 fun _ => 0).toArray 22) = a9 from hwa9.symm] at hSa9
    have hTa9 : Ar a9 gT 16 (fun _ => 0) := by rw [hwa9]; exact hTa9
    try rw [hggT]
    rw [← hwa9]
    refine hK.out _ _ hSa9 (fun hHeld2 => ?_)
    clear hK K hHeld hq hSa9 hwa9 hggT
    have hHeld := hHeld2
    clear hHeld2
    try simp only [Act.put, List.setIfInBounds_toArray, List.set_cons_zero, List.set_cons_succ, List.getElem_toArray, List.getElem_cons_zero, List.getElem_cons_succ]
    refine wpAnyH_ready (rs := [1]) (by kernel_rfl) (by simp) ?_
    refine AllReadyH.cons rfl (fun K hK => ?_) AllReadyH.nil
    go_simp
    refine (refprepare zF _ zF_lt).mono ?_
    rintro e a10 ⟨rfl, hq⟩
    go_wp2_with fail
    have hTa10 := (hTa9).to (by omega) hq
    refine hK.out _ _ ⟨(hHeld.1).to (by omega) hq, (hHeld.2.1).to (by decide) hq, (hHeld.2.2).trans (hq.mono (hHeld.2.2).size)⟩ (fun hHeld2 => ?_)
    clear hK K hHeld hq hTa9
    have hHeld := hHeld2
    clear hHeld2
    try simp only [Act.put, List.setIfInBounds_toArray, List.set_cons_zero, List.set_cons_succ, List.getElem_toArray, List.getElem_cons_zero, List.getElem_cons_succ]
    refine wpAnyH_ready (rs := [3]) (by kernel_rfl) (by simp) ?_
    refine AllReadyH.cons rfl (fun K hK => ?_) AllReadyH.nil
    go_simp
    refine (refencrypt zF b _ zF_lt Hb).mono ?_
    rintro e a11 ⟨rfl, hq⟩
    go_wp2_with fail
    have hTa11 := (hTa10).to (by omega) hq
    refine hK.out _ _ ⟨(hHeld.1).to (by omega) hq, (hHeld.2.1).to (by decide) hq, (hHeld.2.2).trans (hq.mono (hHeld.2.2).size)⟩ (fun hHeld2 => ?_)
    clear hK K hHeld hq hTa10
    have hHeld := hHeld2
    clear hHeld2
    try simp only [Act.put, List.setIfInBounds_toArray, List.set_cons_zero, List.set_cons_succ, List.getElem_toArray, List.getElem_cons_zero, List.getElem_cons_succ]
    refine wpAnyH_ready (rs := [5]) (by kernel_rfl) (by simp) ?_
    refine AllReadyH.cons rfl (fun K hK => ?_) AllReadyH.nil
    rw [if_pos (by rfl)]
    refine wp_store_mid _ _ _ rfl gT 0 (arL 16 (enF zF b)).toArray rfl rfl hTa11.there (size16b _) (all_oneCell_toArray (arL_one 16 (enF zF b))) ?_
    have hTa12 := hTa11.whole (enF zF b)
    have hSa12 := show Ar (World.setCells a11 gT 0 (arL 16 (enF zF b))) gb 16 (b) ∧ Cx (World.setCells a11 gT 0 (arL 16 (enF zF b))) gZ 61 (ciF zF zF false) ∧ Below w.heap.size w (World.setCells a11 gT 0 (arL 16 (enF zF b))) from ⟨(hHeld.1).apart (b := gT) (by omega) (arL 16 (enF zF b)) 0, (hHeld.2.1).apart (b := gT) (by omega) (arL 16 (enF zF b)) 0, (hHeld.2.2).trans (Below.setCells (Below.refl w.heap.size _) (b := gT) (by omega) (arL 16 (enF zF b)) 0)⟩
    dsimp only [List.toList_toArray]
    generalize World.setCells a11 gT 0 (arL 16 (enF zF b)) = a12 at *
    refine hK.out _ _ hSa12 (fun hHeld2 => ?_)
    clear hK K hHeld hSa12 hTa11
    have hHeld := hHeld2
    clear hHeld2
    try simp only [Act.put]
    refine wpAnyH_done (by kernel_rfl) ?_ _
    exact NoPanic.normal (HQ.out gT a12 _ _ _ _ (by omega) (by omega) hTa12 hHeld.1 hHeld.2.1 hHeld.2.2)
theorem s16_one {w : World} {g : Nat} {b : Nat → Nat} (h : Ar w g 16 b) : S16 w (some ⟨g, 0, none⟩) 1 (fun _ j => if j < 16 then b j else 0) := fun _ => ⟨g, 0, rfl, h.lt (by omega), fun i hi => by
  obtain rfl : i = 0 := by omega
  rw [arL_ext (n := 16) (g := b) (fun j hj => if_pos hj)]
  exact h.range⟩

set_option maxHeartbeats 8000000 in
theorem fnils (b : Nat → Nat) (w : World) (hb : ∀ j, j < 16 → b j < 256) (hs : Boxes w) :
    Calls Tryd.prog 6 #[.agg (arL 16 b).toArray] w fun e w' => e = .returned (.bool true) ∧ Below w.heap.size w w' := by
  have HX := Lib.hid hs
  have hz := zero16b
  have hzK := zeroK
  have hzC := zeroCip
  have Hb := Lib.hid hb
  obtain ⟨kb, hkb⟩ : ∃ k : Array Value, (arL 16 b).toArray = k := ⟨_, rfl⟩
  obtain ⟨w1, hw1⟩ : ∃ V : World, V = w.alloc (.cells (arL 16 b).toArray 22) := ⟨_, rfl⟩
  have hs1 : w1.heap.size = w.heap.size + 1 := by rw [hw1]; simp
  have hBw1 : Below w.heap.size w w1 := by rw [hw1]; exact (Below.refl _ _).alloc (Nat.le_refl _) _
  have hbw1 : Ar w1 w.heap.size 16 b := by rw [hw1]; exact Ar.new w 16 b _
  rw [hkb] at hw1
  rw [hkb]
  clear hkb hs hb
  go_enter Tryd.func6, Tryd.ntmps6
  go_upto_region 1 with fail
  rw [← hw1]
  clear hw1
  try simp only [Nat.add_assoc, Nat.reduceAdd]
  obtain ⟨gb, hgb⟩ : ∃ g : Nat, w.heap.size = g := ⟨_, rfl⟩
  rw [hgb] at hbw1
  try simp only [hgb]
  have hlb : w.heap.size ≤ gb := by omega
  clear  hs1
  go_wp2_with fail
  refine (fawake _ (HX.out.keep hBw1)).mono ?_
  rintro e x1 ⟨rfl, hq⟩
  have hbx1 := (hbw1).to (by omega) hq
  have hBx1 := hBw1.trans (hq.mono hBw1.size)
  clear hq hbw1 hBw1
  obtain ⟨gZ, hgZ⟩ : ∃ g : Nat, x1.heap.size = g := ⟨_, rfl⟩
  have hlgbgZ : gb < gZ := by rw [← hgZ]; exact hbx1.lt (by omega)
  obtain ⟨z1, hz1⟩ : ∃ V : World, V = x1.alloc (.cells (cxL 61 (ciF zF zF false)).toArray 46) := ⟨_, rfl⟩
  have hq : Below x1.heap.size x1 z1 := by rw [hz1]; exact (Below.refl _ _).alloc (Nat.le_refl _) _
  have hZz1 : Cx z1 gZ 61 (ciF zF zF false) := by rw [hz1, ← hgZ]; exact Cx.new x1 61 _ _
  have hbz1 := hbx1.to (by omega) hq
  have hBz1 := hBx1.trans (hq.mono hBx1.size)
  clear hq hbx1 hBx1
  go_upto_region 5 with fail
  try rw [hgZ]
  rw [← hz1]
  clear hz1 hgZ
  refine fnilReg b gb gZ Hb.out hlb hbz1 hZz1 hBz1 ?_
  intro gT w9 u8 u9 u10 u11 hlT hlT2 hTw9 hbw9 hZw9 hBw9
  clear hbz1 hZz1 hBz1
  have heq := fun X => eq16_true (f := X) (g := X) (fun _ _ => rfl)
  have hgd := Tryd.eqg16
  have heqz := eq16_true (f := zF) (g := fun _ => 0) (fun _ _ => rfl)
  have z0 := run_zero16
  have hbF := Lib.hid (show ∀ i j : Nat, (fun (_ j : Nat) => if j < 16 then b j else 0) i j < 256 from fun i j => by dsimp only; split; exact Hb.out j (by assumption); omega)
  go_upto_region 6 with fail
  refine wp_region_held_drew (S := fun W => Ar W gb 16 (b) ∧ Ar W gT 16 (enF zF b) ∧ Cx W gZ 61 (ciF zF zF false) ∧ Below w.heap.size w W) (by kernel_rfl) ⟨hbw9.drew, hTw9.drew, hZw9.drew, hBw9.drew⟩ (fun hHeld => ?_)
  clear hbw9 hTw9 hZw9 hBw9 
  generalize World.drew w9 = qd at *
  refine wpAnyH_take (i := 0) (v := ?vq1) rfl (by kernel_rfl) (by kernel_rfl) (by kernel_rfl) (fun _ _ _ h => h) (Or.inl ⟨by rfl, ?hyq1⟩) (by assumption) ?restq1
  case hyq1 =>
    intro W hSw
    go_simp
    try with_reducible rfl
  simp only [Act.put, List.setIfInBounds_toArray, List.set_cons_zero, List.set_cons_succ, List.getElem_toArray, List.getElem_cons_zero]
  refine wpAnyH_take (i := 1) (v := .agg (arL 16 (b)).toArray) rfl (by kernel_rfl) (by kernel_rfl) (by kernel_rfl) (fun _ _ _ h => h) (yieldsIf_load_mid (by rfl) _ _ rfl gb (0) rfl (arL 16 (b)) _ (fun W hSw => hSw.1.range) Tryd.arr16b rfl (size16b _)) (by assumption) ?_
  simp only [Act.put, List.setIfInBounds_toArray, List.set_cons_zero, List.set_cons_succ, List.getElem_toArray, List.getElem_cons_zero, List.getElem_cons_succ]
  refine wpAnyH_take (i := 3) (v := .agg (arL 16 (enF zF b)).toArray) rfl (by kernel_rfl) (by kernel_rfl) (by kernel_rfl) (fun _ _ _ h => h) (yieldsIf_load_mid (by rfl) _ _ rfl gT (0) rfl (arL 16 (enF zF b)) _ (fun W hSw => hSw.2.1.range) Tryd.arr16b rfl (size16b _)) (by assumption) ?_
  simp only [Act.put, List.setIfInBounds_toArray, List.set_cons_zero, List.set_cons_succ, List.getElem_toArray, List.getElem_cons_zero, List.getElem_cons_succ]
  refine wpAnyH_ready (rs := [2]) (by kernel_rfl) (by simp) ?_
  refine AllReadyH.cons rfl (fun K hK => ?_) AllReadyH.nil
  go_simp
  refine (fencrypt (.pointer none) zF b _ zF_lt Hb.out (exp_nil _ (HX.out.keep (hHeld.2.2.2))) (HX.out.keep (hHeld.2.2.2))).mono ?_
  rintro e q2 ⟨rfl, hq⟩
  go_wp2_with fail
  refine hK.out _ _ ⟨(hHeld.1).to (by omega) hq, (hHeld.2.1).to (by omega) hq, (hHeld.2.2.1).to (by decide) hq, (hHeld.2.2.2).trans (hq.mono (hHeld.2.2.2).size)⟩ (fun hHeld2 => ?_)
  clear hK K hHeld hq
  have hHeld := hHeld2
  clear hHeld2
  try simp only [Act.put, List.setIfInBounds_toArray, List.set_cons_zero, List.set_cons_succ, List.getElem_toArray, List.getElem_cons_zero, List.getElem_cons_succ]
  refine wpAnyH_take (i := 4) (v := ?vq3) rfl (by kernel_rfl) (by kernel_rfl) (by kernel_rfl) (fun _ _ _ h => h) (Or.inl ⟨by rfl, ?hyq3⟩) (by assumption) ?restq3
  case hyq3 =>
    intro W hSw
    go_simp
    try with_reducible rfl
  simp only [Act.put, List.setIfInBounds_toArray, List.set_cons_zero, List.set_cons_succ, List.getElem_toArray, List.getElem_cons_zero, List.getElem_cons_succ]
  refine wpAnyH_take (i := 5) (v := ?vq4) rfl (by kernel_rfl) (by kernel_rfl) (by kernel_rfl) (fun _ _ _ h => h) (Or.inl ⟨by rfl, ?hyq4⟩) (by assumption) ?restq4
  case hyq4 =>
    intro W hSw
    go_simp
    try with_reducible rfl
  simp only [Act.put, List.setIfInBounds_toArray, List.set_cons_zero, List.set_cons_succ, List.getElem_toArray, List.getElem_cons_zero, List.getElem_cons_succ]
  refine wpAnyH_take (i := 6) (v := .agg (arL 16 (b)).toArray) rfl (by kernel_rfl) (by kernel_rfl) (by kernel_rfl) (fun _ _ _ h => h) (yieldsIf_load_mid (by rfl) _ _ rfl gb (0) rfl (arL 16 (b)) _ (fun W hSw => hSw.1.range) Tryd.arr16b rfl (size16b _)) (by assumption) ?_
  simp only [Act.put, List.setIfInBounds_toArray, List.set_cons_zero, List.set_cons_succ, List.getElem_toArray, List.getElem_cons_zero, List.getElem_cons_succ]
  refine wpAnyH_take (i := 8) (v := .agg (arL 16 (enF zF b)).toArray) rfl (by kernel_rfl) (by kernel_rfl) (by kernel_rfl) (fun _ _ _ h => h) (yieldsIf_load_mid (by rfl) _ _ rfl gT (0) rfl (arL 16 (enF zF b)) _ (fun W hSw => hSw.2.1.range) Tryd.arr16b rfl (size16b _)) (by assumption) ?_
  simp only [Act.put, List.setIfInBounds_toArray, List.set_cons_zero, List.set_cons_succ, List.getElem_toArray, List.getElem_cons_zero, List.getElem_cons_succ]
  refine wpAnyH_ready (rs := [7]) (by kernel_rfl) (by simp) ?_
  refine AllReadyH.cons rfl (fun K hK => ?_) AllReadyH.nil
  go_simp
  refine (fencrypt (.pointer (some ⟨gZ, 0, none⟩)) zF b _ zF_lt Hb.out (exp_zero gZ _ _ (hHeld.2.2.1) (HX.out.keep (hHeld.2.2.2))) (HX.out.keep (hHeld.2.2.2))).mono ?_
  rintro e q5 ⟨rfl, hq⟩
  go_wp2_with fail
  refine hK.out _ _ ⟨(hHeld.1).to (by omega) hq, (hHeld.2.1).to (by omega) hq, (hHeld.2.2.1).to (by decide) hq, (hHeld.2.2.2).trans (hq.mono (hHeld.2.2.2).size)⟩ (fun hHeld2 => ?_)
  clear hK K hHeld hq
  have hHeld := hHeld2
  clear hHeld2
  try simp only [Act.put, List.setIfInBounds_toArray, List.set_cons_zero, List.set_cons_succ, List.getElem_toArray, List.getElem_cons_zero, List.getElem_cons_succ]
  refine wpAnyH_take (i := 9) (v := ?vq6) rfl (by kernel_rfl) (by kernel_rfl) (by kernel_rfl) (fun _ _ _ h => h) (Or.inl ⟨by rfl, ?hyq6⟩) (by assumption) ?restq6
  case hyq6 =>
    intro W hSw
    go_simp
    try with_reducible rfl
  simp only [Act.put, List.setIfInBounds_toArray, List.set_cons_zero, List.set_cons_succ, List.getElem_toArray, List.getElem_cons_zero, List.getElem_cons_succ]
  refine wpAnyH_take (i := 10) (v := ?vq7) rfl (by kernel_rfl) (by kernel_rfl) (by kernel_rfl) (fun _ _ _ h => h) (Or.inl ⟨by rfl, ?hyq7⟩) (by assumption) ?restq7
  case hyq7 =>
    intro W hSw
    go_simp
    try with_reducible rfl
  simp only [Act.put, List.setIfInBounds_toArray, List.set_cons_zero, List.set_cons_succ, List.getElem_toArray, List.getElem_cons_zero, List.getElem_cons_succ]
  refine wpAnyH_take (i := 11) (v := ?vq8) rfl (by kernel_rfl) (by kernel_rfl) (by kernel_rfl) (fun _ _ _ h => h) (Or.inl ⟨by rfl, ?hyq8⟩) (by assumption) ?restq8
  case hyq8 =>
    intro W hSw
    go_simp
    try with_reducible rfl
  simp only [Act.put, List.setIfInBounds_toArray, List.set_cons_zero, List.set_cons_succ, List.getElem_toArray, List.getElem_cons_zero, List.getElem_cons_succ]
  refine wpAnyH_take (i := 12) (v := ?vq9) rfl (by kernel_rfl) (by kernel_rfl) (by kernel_rfl) (fun _ _ _ h => h) (Or.inl ⟨by rfl, ?hyq9⟩) (by assumption) ?restq9
  case hyq9 =>
    intro W hSw
    go_simp
    try with_reducible rfl
  simp only [Act.put, List.setIfInBounds_toArray, List.set_cons_zero, List.set_cons_succ, List.getElem_toArray, List.getElem_cons_zero, List.getElem_cons_succ]
  refine wpAnyH_take (i := 13) (v := .agg (arL 16 (enF zF b)).toArray) rfl (by kernel_rfl) (by kernel_rfl) (by kernel_rfl) (fun _ _ _ h => h) (yieldsIf_load_mid (by rfl) _ _ rfl gT (0) rfl (arL 16 (enF zF b)) _ (fun W hSw => hSw.2.1.range) Tryd.arr16b rfl (size16b _)) (by assumption) ?_
  simp only [Act.put, List.setIfInBounds_toArray, List.set_cons_zero, List.set_cons_succ, List.getElem_toArray, List.getElem_cons_zero, List.getElem_cons_succ]
  refine wpAnyH_take (i := 15) (v := .agg (arL 16 (b)).toArray) rfl (by kernel_rfl) (by kernel_rfl) (by kernel_rfl) (fun _ _ _ h => h) (yieldsIf_load_mid (by rfl) _ _ rfl gb (0) rfl (arL 16 (b)) _ (fun W hSw => hSw.1.range) Tryd.arr16b rfl (size16b _)) (by assumption) ?_
  simp only [Act.put, List.setIfInBounds_toArray, List.set_cons_zero, List.set_cons_succ, List.getElem_toArray, List.getElem_cons_zero, List.getElem_cons_succ]
  refine wpAnyH_ready (rs := [14]) (by kernel_rfl) (by simp) ?_
  refine AllReadyH.cons rfl (fun K hK => ?_) AllReadyH.nil
  go_simp
  refine (fdecEnc (.pointer none) zF b _ zF_lt Hb.out (exp_nil _ (HX.out.keep (hHeld.2.2.2))) (HX.out.keep (hHeld.2.2.2))).mono ?_
  rintro e q10 ⟨rfl, hq⟩
  go_wp2_with fail
  refine hK.out _ _ ⟨(hHeld.1).to (by omega) hq, (hHeld.2.1).to (by omega) hq, (hHeld.2.2.1).to (by decide) hq, (hHeld.2.2.2).trans (hq.mono (hHeld.2.2.2).size)⟩ (fun hHeld2 => ?_)
  clear hK K hHeld hq
  have hHeld := hHeld2
  clear hHeld2
  try simp only [Act.put, List.setIfInBounds_toArray, List.set_cons_zero, List.set_cons_succ, List.getElem_toArray, List.getElem_cons_zero, List.getElem_cons_succ]
  refine wpAnyH_take (i := 16) (v := ?vq11) rfl (by kernel_rfl) (by kernel_rfl) (by kernel_rfl) (fun _ _ _ h => h) (Or.inl ⟨by rfl, ?hyq11⟩) (by assumption) ?restq11
  case hyq11 =>
    intro W hSw
    go_simp
    try with_reducible rfl
  simp only [Act.put, List.setIfInBounds_toArray, List.set_cons_zero, List.set_cons_succ, List.getElem_toArray, List.getElem_cons_zero, List.getElem_cons_succ]
  refine wpAnyH_take (i := 17) (v := ?vq12) rfl (by kernel_rfl) (by kernel_rfl) (by kernel_rfl) (fun _ _ _ h => h) (Or.inl ⟨by rfl, ?hyq12⟩) (by assumption) ?restq12
  case hyq12 =>
    intro W hSw
    go_simp
    try with_reducible rfl
  simp only [Act.put, List.setIfInBounds_toArray, List.set_cons_zero, List.set_cons_succ, List.getElem_toArray, List.getElem_cons_zero, List.getElem_cons_succ]
  refine wpAnyH_take (i := 18) (v := ?vq13) rfl (by kernel_rfl) (by kernel_rfl) (by kernel_rfl) (fun _ _ _ h => h) (Or.inl ⟨by rfl, ?hyq13⟩) (by assumption) ?restq13
  case hyq13 =>
    intro W hSw
    go_simp
    try with_reducible rfl
  simp only [Act.put, List.setIfInBounds_toArray, List.set_cons_zero, List.set_cons_succ, List.getElem_toArray, List.getElem_cons_zero, List.getElem_cons_succ]
  refine wpAnyH_take (i := 19) (v := .agg (arL 16 (enF zF b)).toArray) rfl (by kernel_rfl) (by kernel_rfl) (by kernel_rfl) (fun _ _ _ h => h) (yieldsIf_load_mid (by rfl) _ _ rfl gT (0) rfl (arL 16 (enF zF b)) _ (fun W hSw => hSw.2.1.range) Tryd.arr16b rfl (size16b _)) (by assumption) ?_
  simp only [Act.put, List.setIfInBounds_toArray, List.set_cons_zero, List.set_cons_succ, List.getElem_toArray, List.getElem_cons_zero, List.getElem_cons_succ]
  refine wpAnyH_take (i := 21) (v := .agg (arL 16 (b)).toArray) rfl (by kernel_rfl) (by kernel_rfl) (by kernel_rfl) (fun _ _ _ h => h) (yieldsIf_load_mid (by rfl) _ _ rfl gb (0) rfl (arL 16 (b)) _ (fun W hSw => hSw.1.range) Tryd.arr16b rfl (size16b _)) (by assumption) ?_
  simp only [Act.put, List.setIfInBounds_toArray, List.set_cons_zero, List.set_cons_succ, List.getElem_toArray, List.getElem_cons_zero, List.getElem_cons_succ]
  refine wpAnyH_ready (rs := [20]) (by kernel_rfl) (by simp) ?_
  refine AllReadyH.cons rfl (fun K hK => ?_) AllReadyH.nil
  go_simp
  refine (fdecEnc (.pointer (some ⟨gZ, 0, none⟩)) zF b _ zF_lt Hb.out (exp_zero gZ _ _ (hHeld.2.2.1) (HX.out.keep (hHeld.2.2.2))) (HX.out.keep (hHeld.2.2.2))).mono ?_
  rintro e q14 ⟨rfl, hq⟩
  go_wp2_with fail
  refine hK.out _ _ ⟨(hHeld.1).to (by omega) hq, (hHeld.2.1).to (by omega) hq, (hHeld.2.2.1).to (by decide) hq, (hHeld.2.2.2).trans (hq.mono (hHeld.2.2.2).size)⟩ (fun hHeld2 => ?_)
  clear hK K hHeld hq
  have hHeld := hHeld2
  clear hHeld2
  try simp only [Act.put, List.setIfInBounds_toArray, List.set_cons_zero, List.set_cons_succ, List.getElem_toArray, List.getElem_cons_zero, List.getElem_cons_succ]
  refine wpAnyH_take (i := 22) (v := ?vq15) rfl (by kernel_rfl) (by kernel_rfl) (by kernel_rfl) (fun _ _ _ h => h) (Or.inl ⟨by rfl, ?hyq15⟩) (by assumption) ?restq15
  case hyq15 =>
    intro W hSw
    go_simp
    try with_reducible rfl
  simp only [Act.put, List.setIfInBounds_toArray, List.set_cons_zero, List.set_cons_succ, List.getElem_toArray, List.getElem_cons_zero, List.getElem_cons_succ]
  refine wpAnyH_take (i := 23) (v := ?vq16) rfl (by kernel_rfl) (by kernel_rfl) (by kernel_rfl) (fun _ _ _ h => h) (Or.inl ⟨by rfl, ?hyq16⟩) (by assumption) ?restq16
  case hyq16 =>
    intro W hSw
    go_simp
    try with_reducible rfl
  simp only [Act.put, List.setIfInBounds_toArray, List.set_cons_zero, List.set_cons_succ, List.getElem_toArray, List.getElem_cons_zero, List.getElem_cons_succ]
  refine wpAnyH_take (i := 24) (v := ?vq17) rfl (by kernel_rfl) (by kernel_rfl) (by kernel_rfl) (fun _ _ _ h => h) (Or.inl ⟨by rfl, ?hyq17⟩) (by assumption) ?restq17
  case hyq17 =>
    intro W hSw
    go_simp
    try with_reducible rfl
  simp only [Act.put, List.setIfInBounds_toArray, List.set_cons_zero, List.set_cons_succ, List.getElem_toArray, List.getElem_cons_zero, List.getElem_cons_succ]
  refine wpAnyH_take (i := 25) (v := ?vq18) rfl (by kernel_rfl) (by kernel_rfl) (by kernel_rfl) (fun _ _ _ h => h) (Or.inl ⟨by rfl, ?hyq18⟩) (by assumption) ?restq18
  case hyq18 =>
    intro W hSw
    go_simp
    try with_reducible rfl
  simp only [Act.put, List.setIfInBounds_toArray, List.set_cons_zero, List.set_cons_succ, List.getElem_toArray, List.getElem_cons_zero, List.getElem_cons_succ]
  refine wpAnyH_take (i := 27) (v := ?vq19) rfl (by kernel_rfl) (by kernel_rfl) (by kernel_rfl) (fun _ _ _ h => h) (Or.inl ⟨by rfl, ?hyq19⟩) (by assumption) ?restq19
  case hyq19 =>
    intro W hSw
    go_simp
    try with_reducible rfl
  simp only [Act.put, List.setIfInBounds_toArray, List.set_cons_zero, List.set_cons_succ, List.getElem_toArray, List.getElem_cons_zero, List.getElem_cons_succ]
  refine wpAnyH_ready (rs := [26]) (by kernel_rfl) (by simp) ?_
  refine AllReadyH.cons rfl (fun K hK => ?_) AllReadyH.nil
  go_simp
  refine (fkey_nil _).mono ?_
  rintro e q20 ⟨rfl, hq⟩
  go_wp2_with fail
  refine hK.out _ _ ⟨(hHeld.1).to (by omega) hq, (hHeld.2.1).to (by omega) hq, (hHeld.2.2.1).to (by decide) hq, (hHeld.2.2.2).trans (hq.mono (hHeld.2.2.2).size)⟩ (fun hHeld2 => ?_)
  clear hK K hHeld hq
  have hHeld := hHeld2
  clear hHeld2
  try simp only [Act.put, List.setIfInBounds_toArray, List.set_cons_zero, List.set_cons_succ, List.getElem_toArray, List.getElem_cons_zero, List.getElem_cons_succ]
  refine wpAnyH_take (i := 28) (v := ?vq21) rfl (by kernel_rfl) (by kernel_rfl) (by kernel_rfl) (fun _ _ _ h => h) (Or.inl ⟨by rfl, ?hyq21⟩) (by assumption) ?restq21
  case hyq21 =>
    intro W hSw
    go_simp
    try with_reducible rfl
  simp only [Act.put, List.setIfInBounds_toArray, List.set_cons_zero, List.set_cons_succ, List.getElem_toArray, List.getElem_cons_zero, List.getElem_cons_succ]
  refine wpAnyH_take (i := 29) (v := ?vq22) rfl (by kernel_rfl) (by kernel_rfl) (by kernel_rfl) (fun _ _ _ h => h) (Or.inl ⟨by rfl, ?hyq22⟩) (by assumption) ?restq22
  case hyq22 =>
    intro W hSw
    go_simp
    try with_reducible rfl
  simp only [Act.put, List.setIfInBounds_toArray, List.set_cons_zero, List.set_cons_succ, List.getElem_toArray, List.getElem_cons_zero, List.getElem_cons_succ]
  refine wpAnyH_take (i := 30) (v := ?vq23) rfl (by kernel_rfl) (by kernel_rfl) (by kernel_rfl) (fun _ _ _ h => h) (Or.inl ⟨by rfl, ?hyq23⟩) (by assumption) ?restq23
  case hyq23 =>
    intro W hSw
    go_simp
    try with_reducible rfl
  simp only [Act.put, List.setIfInBounds_toArray, List.set_cons_zero, List.set_cons_succ, List.getElem_toArray, List.getElem_cons_zero, List.getElem_cons_succ]
  refine wpAnyH_take (i := 31) (v := ?vq24) rfl (by kernel_rfl) (by kernel_rfl) (by kernel_rfl) (fun _ _ _ h => h) (Or.inl ⟨by rfl, ?hyq24⟩) (by assumption) ?restq24
  case hyq24 =>
    intro W hSw
    go_simp
    try with_reducible rfl
  simp only [Act.put, List.setIfInBounds_toArray, List.set_cons_zero, List.set_cons_succ, List.getElem_toArray, List.getElem_cons_zero, List.getElem_cons_succ]
  refine wpAnyH_take (i := 32) (v := .agg (arL 16 (b)).toArray) rfl (by kernel_rfl) (by kernel_rfl) (by kernel_rfl) (fun _ _ _ h => h) (yieldsIf_load_mid (by rfl) _ _ rfl gb (0) rfl (arL 16 (b)) _ (fun W hSw => hSw.1.range) Tryd.arr16b rfl (size16b _)) (by assumption) ?_
  simp only [Act.put, List.setIfInBounds_toArray, List.set_cons_zero, List.set_cons_succ, List.getElem_toArray, List.getElem_cons_zero, List.getElem_cons_succ]
  refine wpAnyH_ready (rs := [33]) (by kernel_rfl) (by simp) ?_
  refine AllReadyH.cons rfl (fun K hK => ?_) AllReadyH.nil
  rw [if_pos (by rfl)]
  refine wp_bs_by _ _ _ rfl [(0, .agg (arL 16 (b)).toArray)] rfl _ (built16 _ _) ?_
  obtain ⟨gl, hggl⟩ : ∃ g : Nat, q20.heap.size = g := ⟨_, rfl⟩
  obtain ⟨q25, hwq25⟩ : ∃ V : World, V = q20.alloc (.cells (arL 16 (b)).toArray 22) := ⟨_, rfl⟩
  have hq : Below q20.heap.size q20 q25 := by rw [hwq25]; exact (Below.refl _ _).alloc (Nat.le_refl _) _
  have hlq25 : Ar q25 gl 16 (b) := by rw [hwq25, ← hggl]; exact Ar.new q20 16 _ _
  rw [← hwq25]
  try rw [hggl]
  refine hK.out _ _ ⟨(hHeld.1).to (by omega) hq, (hHeld.2.1).to (by omega) hq, (hHeld.2.2.1).to (by decide) hq, (hHeld.2.2.2).trans (hq.mono (hHeld.2.2.2).size)⟩ (fun hHeld2 => ?_)
  clear hK K hHeld hq hwq25 hggl
  have hHeld := hHeld2
  clear hHeld2
  try simp only [Act.put, List.setIfInBounds_toArray, List.set_cons_zero, List.set_cons_succ, List.getElem_toArray, List.getElem_cons_zero, List.getElem_cons_succ]
  refine wpAnyH_ready (rs := [34]) (by kernel_rfl) (by simp) ?_
  refine AllReadyH.cons rfl (fun K hK => ?_) AllReadyH.nil
  go_simp
  refine (fall (.pointer none) zF (some ⟨gl, 0, none⟩) 1 1 _ _ zF_lt hbF.out (s16_one hlq25) (by omega) (exp_nil _ (HX.out.keep (hHeld.2.2.2))) (HX.out.keep (hHeld.2.2.2))).mono ?_
  rintro e q26 ⟨A9, rfl, _, hq⟩
  go_wp2_with fail
  have hlq26 := (hlq25).to (by omega) hq
  refine hK.out _ _ ⟨(hHeld.1).to (by omega) hq, (hHeld.2.1).to (by omega) hq, (hHeld.2.2.1).to (by decide) hq, (hHeld.2.2.2).trans (hq.mono (hHeld.2.2.2).size)⟩ (fun hHeld2 => ?_)
  clear hK K hHeld hq hlq25
  have hHeld := hHeld2
  clear hHeld2
  try simp only [Act.put, List.setIfInBounds_toArray, List.set_cons_zero, List.set_cons_succ, List.getElem_toArray, List.getElem_cons_zero, List.getElem_cons_succ]
  refine wpAnyH_take (i := 35) (v := ?vq27) rfl (by kernel_rfl) (by kernel_rfl) (by kernel_rfl) (fun _ _ _ h => h) (Or.inl ⟨by rfl, ?hyq27⟩) (by assumption) ?restq27
  case hyq27 =>
    intro W hSw
    go_simp
    try with_reducible rfl
  simp only [Act.put, List.setIfInBounds_toArray, List.set_cons_zero, List.set_cons_succ, List.getElem_toArray, List.getElem_cons_zero, List.getElem_cons_succ]
  refine wpAnyH_take (i := 36) (v := ?vq28) rfl (by kernel_rfl) (by kernel_rfl) (by kernel_rfl) (fun _ _ _ h => h) (Or.inl ⟨by rfl, ?hyq28⟩) (by assumption) ?restq28
  case hyq28 =>
    intro W hSw
    go_simp
    try with_reducible rfl
  simp only [Act.put, List.setIfInBounds_toArray, List.set_cons_zero, List.set_cons_succ, List.getElem_toArray, List.getElem_cons_zero, List.getElem_cons_succ]
  refine wpAnyH_take (i := 37) (v := ?vq29) rfl (by kernel_rfl) (by kernel_rfl) (by kernel_rfl) (fun _ _ _ h => h) (Or.inl ⟨by rfl, ?hyq29⟩) (by assumption) ?restq29
  case hyq29 =>
    intro W hSw
    go_simp
    try with_reducible rfl
  simp only [Act.put, List.setIfInBounds_toArray, List.set_cons_zero, List.set_cons_succ, List.getElem_toArray, List.getElem_cons_zero, List.getElem_cons_succ]
  refine wpAnyH_take (i := 38) (v := ?vq30) rfl (by kernel_rfl) (by kernel_rfl) (by kernel_rfl) (fun _ _ _ h => h) (Or.inl ⟨by rfl, ?hyq30⟩) (by assumption) ?restq30
  case hyq30 =>
    intro W hSw
    go_simp
    try with_reducible rfl
  simp only [Act.put, List.setIfInBounds_toArray, List.set_cons_zero, List.set_cons_succ, List.getElem_toArray, List.getElem_cons_zero, List.getElem_cons_succ]
  refine wpAnyH_done (by kernel_rfl) ?_ _
  have hBe := hHeld.2.2.2
  clear hHeld
  go_wp2_with fail
  go_ret
  exact ⟨rfl, hBe⟩
end Go.Proofs.YtejgeefhnpeejaaDoor
