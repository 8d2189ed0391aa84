/-
  One loop over the parts of bytes in the law BlockSplits of layer 8, whatever the frame: it counts the parts; it is left early, or runs to its end, and never by the law's saying no.
-/
import Derived.Test.YtejgeefhnpeejaaBki
import Derived.Test.YtejgeefhnpeejaaBwj
import Derived.Test.YtejgeefhnpeejaaBkh
import Derived.Test.YtejgeefhnpeejaaBitr
import Derived.LoopN
import Derived.Deep.RegionHeld3
namespace Go.Proofs.Ytejgeefhnpeejaa
open Go.RowKit Go.Shelf
set_option linter.unusedVariables false
set_option maxRecDepth 100000
attribute [local go_sem] Oper.semAt_some

set_option maxHeartbeats 1600000 in
theorem refpart2 (g o n c i : Nat) (f : Nat → Nat) (w : World) (hi : 16 * i + 16 ≤ n) (hnc : n ≤ c) (hn6 : n ≤ 1000000) (hcell : ∀ j, j < 16 → w.cell? ⟨g, o + 16 * i + j, none⟩ = some (.int .u8 (f j : Nat))) (hg : g < w.heap.size) :
    Calls Try.prog 18 #[.slice (some ⟨g, o, none⟩) n c, .int .i64 (i : Int)] w fun e w' => e = .returned (.agg (arL 16 f).toArray) ∧ Below w.heap.size w w' := by
  have hz := zero16x
  obtain ⟨w2, hw2⟩ : ∃ w2 : World, w2 = w.alloc (.cells (arL 16 fun _ => 0).toArray 22) := ⟨_, rfl⟩
  have hb2 : Below w.heap.size w w2 := by rw [hw2]; exact (Below.refl _ _).alloc (by omega) _
  have hR2 : Ar w2 w.heap.size 16 (fun _ => 0) := by rw [hw2]; exact Ar.new w 16 _ _
  obtain ⟨s, hs⟩ : ∃ s : Nat, 16 * i = s := ⟨_, rfl⟩
  have hr : w2.rangeAt g (o + s) (arL 16 f) := fun j v hv => by
    obtain ⟨hj, rfl⟩ := arL_get_some hv
    rw [hw2, World.cell?_alloc_lt w _ ⟨g, o + s + j, none⟩ hg, ← hs]
    exact hcell j hj
  have e1 : wrap64 (16 * (i : Int)) = (s : Int) := by rw [IntWalk.wrap64_in _ (by omega)]; omega
  have e2 : IntKind.i64.wrap (16 * (i : Int)) = (s : Int) := by rw [wraps_i64' _ (by omega) (by omega)]; omega
  have e3 : 16 * (i : Int) = (s : Int) := by omega
  have e4 : (s : Int) + 16 ≤ (c : Int) := by omega
  clear hs hcell
  go_enter Try.func18, Try.ntmps18
  go_upto_region 1 with fail
  rw [← hw2]
  clear hw2
  have hat := arrayAt16
  have e5 : s + 16 - s = 16 := by omega
  go_wp2_with (first
    | (refine wpList_load_mid rfl _ _ rfl g (o + s) rfl (arL 16 f) _ hr Try.arr16x rfl (size16x _) ?_)
    | (refine wpList_store_ar rfl _ _ _ rfl _ _ _ f rfl rfl hR2 (size16x _) ?_; intro w8 hA8 hb8 _ _))
  refine bodyPost_ret_ar rfl rfl hA8 Try.arr16x (size16x _) rfl ⟨rfl, ?_⟩
  exact hb2.trans (hb8.mono (by omega))

/-- The first loop over an iterator of a code. -/
def rangeIn : Code → Option Code
  | .rangeFunc g ps a b => some (.rangeFunc g ps a b)
  | .loop c => rangeIn c
  | .seq a b => match rangeIn a with
    | some c => some c
    | none => rangeIn b
  | .block _ c => rangeIn c
  | .scope c => rangeIn c
  | .cond _ a b => match rangeIn a with
    | some c => some c
    | none => rangeIn b
  | _ => none
noncomputable def spC : Code := ((Try.f5.body.bind rangeIn).getD .skip)
theorem pt_cell {w : World} {B n b o : Nat} {xs : List UInt8} (h : Sl w B (some ⟨b, o, none⟩) n xs) (k : Nat) (hk : 16 * k + 16 ≤ n) (j : Nat) (hj : j < 16) : w.cell? ⟨b, o + 16 * k + j, none⟩ = some (.int .u8 (pt xs k j : Nat)) := by
  have := pt_cells h k hk j _ (arL_get 16 _ j hj)
  rwa [Addr.add_mid] at this
theorem setc_ne (W : World) {g g' : Nat} (h : g ≠ g') (v : Value) : (W.setCell ⟨g', 0, none⟩ v).cell? ⟨g, 0, none⟩ = W.cell? ⟨g, 0, none⟩ := by
  exact World.cell?_setCell_other _ _ _ _ (fun e => h (by injection e with e1; exact e1.symm))
theorem kfacts {k q N : Nat} (h : k + 1 = q) (hk : k < 62) (hN : k < N) : ¬ ((N : Int) ≤ (k : Int)) ∧ wrap64 ((k : Int) + 1) = (q : Int) ∧ IntKind.i64.wrap ((k : Int) + 1) = (q : Int) ∧ (k : Int) + 1 = (q : Int) := by
  subst h
  refine ⟨by omega, ?_, ?_, by omega⟩
  · rw [IntWalk.wrap64_in _ (by omega)]; omega
  · rw [wraps_i64' _ (by omega) (by omega)]; omega
theorem wsmall {s : Nat} (h : s < 256) : IntKind.i64.wrap (s : Int) = (s : Int) := wraps_i64' _ (by omega) (by omega)
theorem two {r : Nat} (h : r < 2) : r = 0 ∨ r = 1 := by omega
theorem kfact2 {x k y q : Nat} (hy : x + 1 = y) (hq : k + 1 = q) (hx : x ≠ k) : ¬ ((y : Int) = (q : Int)) := by omega
theorem kfact3 {k n N : Nat} (hN : N = n / 16) (hk : k < N) : 16 * k + 16 ≤ n := by omega
theorem OnlyN.normal {Q : Exit → Act → World → Prop} {a : Act} {w : World} (h : Q .normal a w) : OnlyN Q .normal a w := h
theorem range_snoc (k : Nat) : List.range k ++ [k] = List.range (k + 1) := List.range_succ.symm
theorem range_not {pre : List Nat} {x : Nat} (h : pre = List.range pre.length) (hx : x ≠ pre.length) : pre ++ [x] ≠ List.range (pre ++ [x]).length := by
  intro e
  rw [List.length_append, List.length_singleton, List.range_succ, ← h] at e
  have := List.append_cancel_left e
  simp at this
  exact hx this
/-- How the loop may be left. -/
def IxS (g12 ρ : Nat) (W0 : World) (c : Code) (pre : List Nat) (W : World) : Prop :=
  (c = .ret ∧ pre ≠ List.range pre.length) ∨ (c = .exit 6 ∧ ρ = 0 ∧ Boxed W g12 3 (.int .i64 (pre.length : Int)) ∧ Below g12 W0 W)
theorem ixs_own (g12 ρ : Nat) (W0 : World) (hg : g12 ≤ W0.heap.size) (c : Code) : OwnFrom W0.heap.size (IxS g12 ρ W0 c) := by
  intro s X Y row hs hgr hr
  rcases hs with ⟨h1, h2⟩ | ⟨h1, h2, h3, h4⟩
  · exact Or.inl ⟨h1, h2⟩
  · exact Or.inr ⟨h1, h2, boxed_own (β := Unit) g12 3 (fun _ => .int .i64 (s.length : Int)) () X Y row h3 hgr (fun r e => (hr r e).2), ownFrom_below (β := Unit) hg hg () X Y row h4 hgr hr⟩

set_option maxHeartbeats 2000000 in
theorem splitsRange {Q0 : Exit → Act → World → Prop} {t0 t1 t5 t6 t8 t9 t10 t13 t14 t15 t16 t17 t18 t19 t20 t21 t22 t23 t24 t25 t26 t27 t28 t29 t30 t31 t32 t33 t34 t35 t36 t37 t38 t39 t40 t41 t42 t43 t44 t45 t46 t47 t48 t49 t50 t51 t52 t53 t54 t55 t56 t57 t58 t59 t60 t61 t62 t63 t64 t65 t66 t67 t68 t69 t70 t71 t72 t73 t74 t75 t76 t78 t79 t80 t81 t82 t83 t84 t85 t86 t87 t88 t89 t90 t91 t92 t93 t94 t95 t96 t97 t98 t99 t100 t101 t102 t103 t104 t105 t106 t107 t108 t109 t110 t111 t112 t113 : Value} {ds : List Deferred} {W0 : World} (A : Option Addr) (n c : Nat) (xs : List UInt8) (s N ρ g2 g3 g4 g7 g11 g12 gA Bs : Nat)
    (hn : n ≤ 1000) (hnc : n ≤ c) (hN : N = n / 16) (hs : s < 256) (hρ : ρ < 2) (l2 : g2 < g12) (l3 : g3 < g12) (l4 : g4 < g12) (l7 : g7 < g12) (l11 : g11 < g12) (lB : Bs < g12)
    (h2 : W0.cell? ⟨g2, 0, none⟩ = some (.slice A n c)) (h3 : W0.cell? ⟨g3, 0, none⟩ = some (.int .u8 s)) (h4 : Boxed W0 g4 4 (.bool false)) (h7 : W0.cell? ⟨g7, 0, none⟩ = some (.int .i64 N)) (h11 : W0.cell? ⟨g11, 0, none⟩ = some (.int .i64 ρ))
    (h12 : Boxed W0 g12 3 (.int .i64 0)) (hS : Sl W0 g12 A n xs) (hA : Sl W0 g12 (some ⟨gA, 0, none⟩) n xs) (hBs : W0.cell? ⟨Bs, 0, none⟩ = some (.slice (some ⟨gA, 0, none⟩) n n))
    (hQ : ∀ (D k : Nat) (W' : World), W0.heap.size ≤ D → W'.heap[D]? = some (.deferred (some [])) → Boxed W' g12 3 (.int .i64 k) → k ≤ N → (ρ = 1 → k = N) → Below g12 W0 W' →
      Q0 .normal { tmps := (t0 :: t1 :: .pointer (some ⟨g2, 0, none⟩) :: .pointer (some ⟨g3, 0, none⟩) :: .pointer (some ⟨g4, 0, none⟩) :: t5 :: t6 :: .pointer (some ⟨g7, 0, none⟩) :: t8 :: t9 :: t10 :: .pointer (some ⟨g11, 0, none⟩) :: .pointer (some ⟨g12, 0, none⟩) :: t13 :: t14 :: t15 :: t16 :: t17 :: t18 :: t19 :: t20 :: t21 :: t22 :: t23 :: t24 :: t25 :: t26 :: t27 :: t28 :: t29 :: t30 :: t31 :: t32 :: t33 :: t34 :: t35 :: t36 :: t37 :: t38 :: t39 :: t40 :: t41 :: t42 :: t43 :: t44 :: t45 :: t46 :: t47 :: t48 :: t49 :: t50 :: t51 :: t52 :: t53 :: t54 :: t55 :: t56 :: t57 :: t58 :: t59 :: t60 :: t61 :: t62 :: t63 :: t64 :: t65 :: t66 :: t67 :: t68 :: t69 :: t70 :: t71 :: t72 :: t73 :: t74 :: t75 :: t76 :: .func (.func 27) #[] #[.pointer (some ⟨Bs, 0, none⟩)] :: t78 :: t79 :: t80 :: t81 :: t82 :: t83 :: t84 :: t85 :: t86 :: t87 :: t88 :: t89 :: t90 :: t91 :: t92 :: t93 :: t94 :: t95 :: t96 :: t97 :: t98 :: t99 :: t100 :: t101 :: t102 :: t103 :: t104 :: t105 :: t106 :: t107 :: t108 :: t109 :: t110 :: t111 :: t112 :: t113 :: []).toArray, defers := { target := .collected D, args := #[] } :: ds } W') :
    Code.wp Try.prog spC (Exit.inBlock 6 Q0) { tmps := (t0 :: t1 :: .pointer (some ⟨g2, 0, none⟩) :: .pointer (some ⟨g3, 0, none⟩) :: .pointer (some ⟨g4, 0, none⟩) :: t5 :: t6 :: .pointer (some ⟨g7, 0, none⟩) :: t8 :: t9 :: t10 :: .pointer (some ⟨g11, 0, none⟩) :: .pointer (some ⟨g12, 0, none⟩) :: t13 :: t14 :: t15 :: t16 :: t17 :: t18 :: t19 :: t20 :: t21 :: t22 :: t23 :: t24 :: t25 :: t26 :: t27 :: t28 :: t29 :: t30 :: t31 :: t32 :: t33 :: t34 :: t35 :: t36 :: t37 :: t38 :: t39 :: t40 :: t41 :: t42 :: t43 :: t44 :: t45 :: t46 :: t47 :: t48 :: t49 :: t50 :: t51 :: t52 :: t53 :: t54 :: t55 :: t56 :: t57 :: t58 :: t59 :: t60 :: t61 :: t62 :: t63 :: t64 :: t65 :: t66 :: t67 :: t68 :: t69 :: t70 :: t71 :: t72 :: t73 :: t74 :: t75 :: t76 :: .func (.func 27) #[] #[.pointer (some ⟨Bs, 0, none⟩)] :: t78 :: t79 :: t80 :: t81 :: t82 :: t83 :: t84 :: t85 :: t86 :: t87 :: t88 :: t89 :: t90 :: t91 :: t92 :: t93 :: t94 :: t95 :: t96 :: t97 :: t98 :: t99 :: t100 :: t101 :: t102 :: t103 :: t104 :: t105 :: t106 :: t107 :: t108 :: t109 :: t110 :: t111 :: t112 :: t113 :: []).toArray, defers := ds } W0 := by
  have hz := zero16x
  have hl12 := h12.lt
  have hg12 : g12 ≤ W0.heap.size := Nat.le_of_lt hl12
  have HQ := Lib.hid hQ
  clear hQ
  conv => arg 2; whnf
  refine (wpIn_wide (n := 5)).1 ?_
  have HN := Lib.hid hN
  have HNL := Lib.hid (show N ≤ 62 by omega)
  refine wpIn_rangeFunc_ownH (F := Fence.wide) (n := 5) rfl (by omega) (gf := 27) (lb := #[.pointer (some ⟨Bs, 0, none⟩)]) rfl trivial (enters_of Try.func27 (by kernel_rfl) rfl)
    (parts_stops 4 (by omega) Bs g12 (some ⟨gA, 0, none⟩) n n xs (by omega) (Nat.le_refl _) W0 hg12 (Nat.lt_of_lt_of_le lB hg12) hBs hA) (fun h k => h.trans k) (KpP.putObj hg12 (Nat.lt_of_lt_of_le lB hg12)) (Below.refl _ _) (fun _ => rfl)
    (fun pre W => pre = List.range pre.length ∧ Boxed W g12 3 (.int .i64 (pre.length : Int)) ∧ Below g12 W0 W)
    (IxS g12 ρ W0)
    (fun pre X Y row h hgr hr => ⟨h.1, boxed_own (β := Unit) g12 3 (fun _ => .int .i64 (pre.length : Int)) () X Y row h.2.1 hgr (fun r e => (hr r e).2), ownFrom_below (β := Unit) hg12 hg12 () X Y row h.2.2 hgr hr⟩)
    (ixs_own g12 ρ W0 hg12)
    ⟨rfl, h12, Below.refl _ _⟩
    (fun x a' W => ∃ Bx, g12 < Bx ∧ Ar W Bx 16 (pt xs x) ∧ a' = { tmps := (t0 :: t1 :: .pointer (some ⟨g2, 0, none⟩) :: .pointer (some ⟨g3, 0, none⟩) :: .pointer (some ⟨g4, 0, none⟩) :: t5 :: t6 :: .pointer (some ⟨g7, 0, none⟩) :: t8 :: t9 :: t10 :: .pointer (some ⟨g11, 0, none⟩) :: .pointer (some ⟨g12, 0, none⟩) :: .int .i64 ((x + 1 : Nat) : Int) :: .pointer (some ⟨Bx, 0, none⟩) :: t15 :: t16 :: t17 :: t18 :: t19 :: t20 :: t21 :: t22 :: t23 :: t24 :: t25 :: t26 :: t27 :: t28 :: t29 :: t30 :: t31 :: t32 :: t33 :: t34 :: t35 :: t36 :: t37 :: t38 :: t39 :: t40 :: t41 :: t42 :: t43 :: t44 :: t45 :: t46 :: t47 :: t48 :: t49 :: t50 :: t51 :: t52 :: t53 :: t54 :: t55 :: t56 :: t57 :: t58 :: t59 :: t60 :: t61 :: t62 :: t63 :: t64 :: t65 :: t66 :: t67 :: t68 :: t69 :: t70 :: t71 :: t72 :: t73 :: t74 :: t75 :: t76 :: .func (.func 27) #[] #[.pointer (some ⟨Bs, 0, none⟩)] :: .int .i64 ((x + 1 : Nat) : Int) :: .agg (arL 16 (pt xs x)).toArray :: t80 :: t81 :: t82 :: t83 :: t84 :: t85 :: t86 :: t87 :: t88 :: t89 :: t90 :: t91 :: t92 :: t93 :: t94 :: t95 :: t96 :: t97 :: t98 :: t99 :: t100 :: t101 :: t102 :: t103 :: t104 :: t105 :: t106 :: t107 :: t108 :: t109 :: t110 :: t111 :: t112 :: t113 :: []).toArray, defers := [] })
    (fun x a' _ X Y row h hg hr => by
      obtain ⟨Bx, e1, e2, e3⟩ := h
      exact ⟨Bx, e1, ar_own (β := Unit) Bx 16 _ () X Y row e2 hg (fun r e => (hr r e).2), e3⟩) ?assign ?body ?done ?stop
  case assign =>
    rintro l pre x W K ⟨hp, hk, hB⟩ hK
    dsimp only [ptE]
    have hWs : W0.heap.size ≤ W.heap.size := hB.size
    obtain ⟨W1, hW1⟩ : ∃ V : World, V = W.alloc (.cells (arL 16 fun _ => 0).toArray 22) := ⟨_, rfl⟩
    have hT1 : Ar W1 W.heap.size 16 (fun _ => 0) := by rw [hW1]; exact Ar.new W 16 _ _
    have hb1 : Below W.heap.size W W1 := by rw [hW1]; exact (Below.refl _ _).alloc (Nat.le_refl _) _
    gi_wp2_with (refine wpListIn_store_ar rfl _ _ _ rfl W.heap.size 16 _ (pt xs x) rfl rfl (by rw [← hW1]; exact hT1) (size16x _) ?_; intro W2 hT2 hb2 hs2 he2)
    rw [← hW1] at hb2
    have hb3 := hb1.trans hb2
    refine hK _ _ (keepsFrom_new _ hb3) (KpP.new hb3 (by omega) (by omega)) ⟨hp, boxed_below hk hb3, hB.trans (hb3.mono (by omega))⟩ ⟨W.heap.size, hk.lt, hT2, rfl⟩
  case body =>
    rintro l pre x a' w hl ⟨r, hr⟩ ⟨hp, hk, hB⟩ ⟨Bx, hBx, hT, rfl⟩ hlt
    obtain ⟨k, hkk⟩ : ∃ k : Nat, pre.length = k := ⟨_, rfl⟩
    rw [hkk] at hlt hk
    rw [← HN.out] at hlt
    have hk62 : k < 62 := Nat.lt_of_lt_of_le hlt HNL.out
    have m12 := hk.lt
    have m12' : g12 ≤ w.heap.size := Nat.le_of_lt m12
    have m2 := Nat.lt_trans l2 m12
    have m3 := Nat.lt_trans l3 m12
    have m7 := Nat.lt_trans l7 m12
    have m11 := Nat.lt_trans l11 m12
    have c2 := (hB.cell (p := ⟨g2, 0, none⟩) l2).trans h2
    have c3 := (hB.cell (p := ⟨g3, 0, none⟩) l3).trans h3
    have c7 := (hB.cell (p := ⟨g7, 0, none⟩) l7).trans h7
    have c11 := (hB.cell (p := ⟨g11, 0, none⟩) l11).trans h11
    have c12 := hk.cell
    have b4 : Boxed w g4 4 (.bool false) := (hB.block g4 l4).trans h4
    have hSl := Lib.hid (hS.below hB)
    have hN16 := HN.out
    have HK6 := Lib.hid (kfact3 hN16 hlt)
    have HN6 := Lib.hid (Nat.le_trans hn (show 1000 ≤ 1000000 by decide))
    obtain ⟨b, o, hA1, hbB⟩ := sl_some hSl.out (Nat.lt_of_lt_of_le (Nat.succ_pos _) HK6.out)
    subst hA1
    have hbw : b < w.heap.size := Nat.lt_of_lt_of_le hbB m12'
    obtain ⟨q, hq0⟩ : ∃ q : Nat, k + 1 = q := ⟨_, rfl⟩
    obtain ⟨i1, i2, i3, i4⟩ := kfacts (N := N) hq0 hk62 hlt
    have i5 := wsmall hs
    have i6 := wsmall (show q < 256 by rw [← hq0]; exact Nat.lt_of_lt_of_le (Nat.succ_lt_succ hk62) (by decide))
    have hρ2 := two hρ
    have hgd := Try.eqgx
    have heq := fun X => eqx_true (f := X) (g := X) (fun _ _ => rfl)
    have HL := Lib.hid hlt
    clear hlt hN16 hk62 HN HQ hN hz h2 h3 h4 h7 h11 h12 hS hA hBs hr hl12 hn hs hρ HNL
    by_cases hx : x = k
    · subst hx
      rw [hq0]
      have HQQ := Lib.hid (show q = (pre ++ [x]).length by rw [List.length_append, hkk, ← hq0]; rfl)
      have HP := Lib.hid (show pre ++ [x] = List.range (pre ++ [x]).length by rw [List.length_append, hkk]; rw [hp, hkk]; exact range_snoc x)
      clear hq0 HL hp
      repeat (first | apply wpIn_block | (apply wpIn_seq_k; intro _ _))
      refine wpIn_region_calm (S := fun W' => Ar W' Bx 16 (pt xs x) ∧ Below w.heap.size w W') (by kernel_rfl) (by kernel_rfl) ⟨hT.drew, (Below.refl _ _).drew⟩ (fun hHeld => ?_)
      generalize World.drew w = d at *
      refine wpAnyH_take (i := 0) (v := ?vy1) rfl (by kernel_rfl) (by kernel_rfl) (by kernel_rfl) (fun _ _ _ h => h) (Or.inl ⟨by rfl, ?hyy1⟩) (by assumption) ?resty1
      case hyy1 =>
        intro W hSw
        have c0 := (hSw.2.cell (p := ⟨g12, 0, none⟩) m12).trans c12
        go_simp
        try with_reducible rfl
      simp only [Act.put, List.setIfInBounds_toArray, List.set_cons_zero, List.set_cons_succ, List.getElem_toArray, List.getElem_cons_zero]
      refine wpAnyH_take (i := 1) (v := ?vy2) rfl (by kernel_rfl) (by kernel_rfl) (by kernel_rfl) (fun _ _ _ h => h) (Or.inl ⟨by rfl, ?hyy2⟩) (by assumption) ?resty2
      case hyy2 =>
        intro W hSw
        have c0 := (hSw.2.cell (p := ⟨g7, 0, none⟩) m7).trans c7
        go_simp
        try with_reducible rfl
      simp only [Act.put, List.setIfInBounds_toArray, List.set_cons_zero, List.set_cons_succ, List.getElem_toArray, List.getElem_cons_zero, List.getElem_cons_succ]
      refine wpAnyH_take (i := 2) (v := .bool false) rfl (by kernel_rfl) (by kernel_rfl) (by kernel_rfl) (fun _ _ _ h => h) (Or.inl ⟨by rfl, ?hyy3⟩) (by assumption) ?resty3
      case hyy3 =>
        intro W hSw
        skip
        go_simp
        try with_reducible rfl
      simp only [Act.put, List.setIfInBounds_toArray, List.set_cons_zero, List.set_cons_succ, List.getElem_toArray, List.getElem_cons_zero, List.getElem_cons_succ]
      refine wpAnyH_take (i := 3) (v := .bool false) rfl (by kernel_rfl) (by kernel_rfl) (by kernel_rfl) (fun _ _ _ h => h) (Or.inl ⟨by rfl, ?hyy4⟩) (by assumption) ?resty4
      case hyy4 =>
        intro W hSw
        skip
        go_simp
        try with_reducible rfl
      simp only [Act.put, List.setIfInBounds_toArray, List.set_cons_zero, List.set_cons_succ, List.getElem_toArray, List.getElem_cons_zero, List.getElem_cons_succ]
      refine wpAnyH_take (i := 4) (v := ?vy5) rfl (by kernel_rfl) (by kernel_rfl) (by kernel_rfl) (fun _ _ _ h => h) (Or.inl ⟨by rfl, ?hyy5⟩) (by assumption) ?resty5
      case hyy5 =>
        intro W hSw
        go_simp
        try with_reducible rfl
      simp only [Act.put, List.setIfInBounds_toArray, List.set_cons_zero, List.set_cons_succ, List.getElem_toArray, List.getElem_cons_zero, List.getElem_cons_succ]
      refine wpAnyH_take (i := 5) (v := ?vy6) rfl (by kernel_rfl) (by kernel_rfl) (by kernel_rfl) (fun _ _ _ h => h) (Or.inl ⟨by rfl, ?hyy6⟩) (by assumption) ?resty6
      case hyy6 =>
        intro W hSw
        have c0 := (hSw.2.cell (p := ⟨g12, 0, none⟩) m12).trans c12
        go_simp
        try with_reducible rfl
      simp only [Act.put, List.setIfInBounds_toArray, List.set_cons_zero, List.set_cons_succ, List.getElem_toArray, List.getElem_cons_zero, List.getElem_cons_succ]
      refine wpAnyH_take (i := 6) (v := ?vy7) rfl (by kernel_rfl) (by kernel_rfl) (by kernel_rfl) (fun _ _ _ h => h) (Or.inl ⟨by rfl, ?hyy7⟩) (by assumption) ?resty7
      case hyy7 =>
        intro W hSw
        go_simp
        try with_reducible rfl
      simp only [Act.put, List.setIfInBounds_toArray, List.set_cons_zero, List.set_cons_succ, List.getElem_toArray, List.getElem_cons_zero, List.getElem_cons_succ]
      refine wpAnyH_take (i := 7) (v := .bool false) rfl (by kernel_rfl) (by kernel_rfl) (by kernel_rfl) (fun _ _ _ h => h) (Or.inl ⟨by rfl, ?hyy8⟩) (by assumption) ?resty8
      case hyy8 =>
        intro W hSw
        skip
        go_simp
        try with_reducible rfl
      simp only [Act.put, List.setIfInBounds_toArray, List.set_cons_zero, List.set_cons_succ, List.getElem_toArray, List.getElem_cons_zero, List.getElem_cons_succ]
      refine wpAnyH_take (i := 8) (v := .bool false) rfl (by kernel_rfl) (by kernel_rfl) (by kernel_rfl) (fun _ _ _ h => h) (Or.inl ⟨by rfl, ?hyy9⟩) (by assumption) ?resty9
      case hyy9 =>
        intro W hSw
        skip
        go_simp
        try with_reducible rfl
      simp only [Act.put, List.setIfInBounds_toArray, List.set_cons_zero, List.set_cons_succ, List.getElem_toArray, List.getElem_cons_zero, List.getElem_cons_succ]
      refine wpAnyH_take (i := 9) (v := .bool false) rfl (by kernel_rfl) (by kernel_rfl) (by kernel_rfl) (fun _ _ _ h => h) (Or.inl ⟨by rfl, ?hyy10⟩) (by assumption) ?resty10
      case hyy10 =>
        intro W hSw
        skip
        go_simp
        try with_reducible rfl
      simp only [Act.put, List.setIfInBounds_toArray, List.set_cons_zero, List.set_cons_succ, List.getElem_toArray, List.getElem_cons_zero, List.getElem_cons_succ]
      refine wpAnyH_take (i := 10) (v := .agg (arL 16 (pt xs x)).toArray) rfl (by kernel_rfl) (by kernel_rfl) (by kernel_rfl) (fun _ _ _ h => h) (yieldsIf_load_mid (by rfl) _ _ rfl Bx (0) rfl (arL 16 (pt xs x)) _ (fun W hSw => hSw.1.range) Try.arr16x rfl (size16x _)) (by assumption) ?_
      simp only [Act.put, List.setIfInBounds_toArray, List.set_cons_zero, List.set_cons_succ, List.getElem_toArray, List.getElem_cons_zero, List.getElem_cons_succ]
      refine wpAnyH_take (i := 11) (v := ?vy11) rfl (by kernel_rfl) (by kernel_rfl) (by kernel_rfl) (fun _ _ _ h => h) (Or.inl ⟨by rfl, ?hyy11⟩) (by assumption) ?resty11
      case hyy11 =>
        intro W hSw
        have c0 := (hSw.2.cell (p := ⟨g2, 0, none⟩) m2).trans c2
        go_simp
        try with_reducible rfl
      simp only [Act.put, List.setIfInBounds_toArray, List.set_cons_zero, List.set_cons_succ, List.getElem_toArray, List.getElem_cons_zero, List.getElem_cons_succ]
      refine wpAnyH_take (i := 12) (v := ?vy12) rfl (by kernel_rfl) (by kernel_rfl) (by kernel_rfl) (fun _ _ _ h => h) (Or.inl ⟨by rfl, ?hyy12⟩) (by assumption) ?resty12
      case hyy12 =>
        intro W hSw
        have c0 := (hSw.2.cell (p := ⟨g12, 0, none⟩) m12).trans c12
        go_simp
        try with_reducible rfl
      simp only [Act.put, List.setIfInBounds_toArray, List.set_cons_zero, List.set_cons_succ, List.getElem_toArray, List.getElem_cons_zero, List.getElem_cons_succ]
      refine wpAnyH_ready (rs := [13]) (by kernel_rfl) (by simp) ?_
      refine AllReadyH.cons rfl (fun K hK => ?_) AllReadyH.nil
      go_simp
      refine (refpart2 b o n c x (pt xs x) d HK6.out hnc HN6.out (pt_cell ((hSl.out).below ((hHeld.2).mono m12')) x HK6.out) (Nat.lt_of_lt_of_le hbw (hHeld.2).size)).mono ?_
      rintro e y13 ⟨rfl, hq⟩
      go_wp2_with fail
      refine hK.out _ _ ⟨(hHeld.1).to (by omega) hq, (hHeld.2).trans (hq.mono (hHeld.2).size)⟩ (fun hHeld2 => ?_)
      clear hK K hHeld hq
      have hHeld := hHeld2
      clear hHeld2
      try simp only [Act.put, List.setIfInBounds_toArray, List.set_cons_zero, List.set_cons_succ, List.getElem_toArray, List.getElem_cons_zero, List.getElem_cons_succ]
      refine wpAnyH_take (i := 14) (v := .bool false) rfl (by kernel_rfl) (by kernel_rfl) (by kernel_rfl) (fun _ _ _ h => h) (Or.inl ⟨by rfl, ?hyy14⟩) (by assumption) ?resty14
      case hyy14 =>
        intro W hSw
        skip
        go_simp
        try with_reducible rfl
      simp only [Act.put, List.setIfInBounds_toArray, List.set_cons_zero, List.set_cons_succ, List.getElem_toArray, List.getElem_cons_zero, List.getElem_cons_succ]
      refine wpAnyH_take (i := 15) (v := .bool false) rfl (by kernel_rfl) (by kernel_rfl) (by kernel_rfl) (fun _ _ _ h => h) (Or.inl ⟨by rfl, ?hyy15⟩) (by assumption) ?resty15
      case hyy15 =>
        intro W hSw
        skip
        go_simp
        try with_reducible rfl
      simp only [Act.put, List.setIfInBounds_toArray, List.set_cons_zero, List.set_cons_succ, List.getElem_toArray, List.getElem_cons_zero, List.getElem_cons_succ]
      refine wpAnyH_done (by kernel_rfl) ?_ _
      obtain ⟨_, hB9⟩ := hHeld
      refine OnlyN.normal ?_
      have hk9 := boxed_below hk hB9
      have c129 := hk9.cell
      have f129 := hk9.frozen
      have hq9 := hk9.set (.int .i64 q)
      have c11s := ((setc_ne y13 (Nat.ne_of_lt l11) (.int .i64 q)).trans (hB9.cell (p := ⟨g11, 0, none⟩) m11)).trans c11
      have c3s := ((setc_ne y13 (Nat.ne_of_lt l3) (.int .i64 q)).trans (hB9.cell (p := ⟨g3, 0, none⟩) m3)).trans c3
      have c12s := hq9.cell
      have hB10 : Below g12 w (World.setCell y13 ⟨g12, 0, none⟩ (.int .i64 q)) := (hB9.mono m12').setCell (p := ⟨g12, 0, none⟩) (Nat.le_refl _) _
      have hF10 : KeepsFrom W0.heap.size w (World.setCell y13 ⟨g12, 0, none⟩ (.int .i64 q)) := (keepsFrom_new _ hB9).trans ((KeepsOthers.setCell _ _ _).from _)
      have hKp10 : KpP g12 Bs w (World.setCell y13 ⟨g12, 0, none⟩ (.int .i64 q)) := ⟨hB10, hB10.block Bs lB⟩
      clear c2 c3 c7 c11 c12
      generalize hz9 : World.setCell y13 ⟨g12, 0, none⟩ (.int .i64 q) = z9 at *
      clear hk9 hB9
      rcases hρ2 with rfl | rfl
      · by_cases hsq : (s : Int) < (q : Int)
        · gi_wp2_with fail
          exact ⟨hF10, Or.inr ⟨rfl, rfl, HQQ.out ▸ hq9, hB.trans hB10⟩⟩
        · gi_wp2_with fail
          exact ⟨hF10, hKp10, HP.out, HQQ.out ▸ hq9, hB.trans hB10⟩
      · gi_wp2_with fail
        exact ⟨hF10, hKp10, HP.out, HQQ.out ▸ hq9, hB.trans hB10⟩
    · have HX := Lib.hid (range_not hp (by rw [hkk]; exact hx))
      obtain ⟨y, hy0⟩ : ∃ y : Nat, x + 1 = y := ⟨_, rfl⟩
      have i7 : ¬ ((y : Int) = (q : Int)) := kfact2 hy0 hq0 hx
      rw [hy0]
      clear hq0 HL hy0 hx hp
      repeat (first | apply wpIn_block | (apply wpIn_seq_k; intro _ _))
      refine wpIn_region_calm (S := fun W' => Ar W' Bx 16 (pt xs x) ∧ Below w.heap.size w W') (by kernel_rfl) (by kernel_rfl) ⟨hT.drew, (Below.refl _ _).drew⟩ (fun hHeld => ?_)
      generalize World.drew w = d at *
      refine wpAnyH_take (i := 0) (v := ?vn1) rfl (by kernel_rfl) (by kernel_rfl) (by kernel_rfl) (fun _ _ _ h => h) (Or.inl ⟨by rfl, ?hyn1⟩) (by assumption) ?restn1
      case hyn1 =>
        intro W hSw
        have c0 := (hSw.2.cell (p := ⟨g12, 0, none⟩) m12).trans c12
        go_simp
        try with_reducible rfl
      simp only [Act.put, List.setIfInBounds_toArray, List.set_cons_zero, List.set_cons_succ, List.getElem_toArray, List.getElem_cons_zero]
      refine wpAnyH_take (i := 1) (v := ?vn2) rfl (by kernel_rfl) (by kernel_rfl) (by kernel_rfl) (fun _ _ _ h => h) (Or.inl ⟨by rfl, ?hyn2⟩) (by assumption) ?restn2
      case hyn2 =>
        intro W hSw
        have c0 := (hSw.2.cell (p := ⟨g7, 0, none⟩) m7).trans c7
        go_simp
        try with_reducible rfl
      simp only [Act.put, List.setIfInBounds_toArray, List.set_cons_zero, List.set_cons_succ, List.getElem_toArray, List.getElem_cons_zero, List.getElem_cons_succ]
      refine wpAnyH_take (i := 2) (v := .bool false) rfl (by kernel_rfl) (by kernel_rfl) (by kernel_rfl) (fun _ _ _ h => h) (Or.inl ⟨by rfl, ?hyn3⟩) (by assumption) ?restn3
      case hyn3 =>
        intro W hSw
        skip
        go_simp
        try with_reducible rfl
      simp only [Act.put, List.setIfInBounds_toArray, List.set_cons_zero, List.set_cons_succ, List.getElem_toArray, List.getElem_cons_zero, List.getElem_cons_succ]
      refine wpAnyH_take (i := 3) (v := .bool false) rfl (by kernel_rfl) (by kernel_rfl) (by kernel_rfl) (fun _ _ _ h => h) (Or.inl ⟨by rfl, ?hyn4⟩) (by assumption) ?restn4
      case hyn4 =>
        intro W hSw
        skip
        go_simp
        try with_reducible rfl
      simp only [Act.put, List.setIfInBounds_toArray, List.set_cons_zero, List.set_cons_succ, List.getElem_toArray, List.getElem_cons_zero, List.getElem_cons_succ]
      refine wpAnyH_take (i := 4) (v := ?vn5) rfl (by kernel_rfl) (by kernel_rfl) (by kernel_rfl) (fun _ _ _ h => h) (Or.inl ⟨by rfl, ?hyn5⟩) (by assumption) ?restn5
      case hyn5 =>
        intro W hSw
        go_simp
        try with_reducible rfl
      simp only [Act.put, List.setIfInBounds_toArray, List.set_cons_zero, List.set_cons_succ, List.getElem_toArray, List.getElem_cons_zero, List.getElem_cons_succ]
      refine wpAnyH_take (i := 5) (v := ?vn6) rfl (by kernel_rfl) (by kernel_rfl) (by kernel_rfl) (fun _ _ _ h => h) (Or.inl ⟨by rfl, ?hyn6⟩) (by assumption) ?restn6
      case hyn6 =>
        intro W hSw
        have c0 := (hSw.2.cell (p := ⟨g12, 0, none⟩) m12).trans c12
        go_simp
        try with_reducible rfl
      simp only [Act.put, List.setIfInBounds_toArray, List.set_cons_zero, List.set_cons_succ, List.getElem_toArray, List.getElem_cons_zero, List.getElem_cons_succ]
      refine wpAnyH_take (i := 6) (v := ?vn7) rfl (by kernel_rfl) (by kernel_rfl) (by kernel_rfl) (fun _ _ _ h => h) (Or.inl ⟨by rfl, ?hyn7⟩) (by assumption) ?restn7
      case hyn7 =>
        intro W hSw
        go_simp
        try with_reducible rfl
      simp only [Act.put, List.setIfInBounds_toArray, List.set_cons_zero, List.set_cons_succ, List.getElem_toArray, List.getElem_cons_zero, List.getElem_cons_succ]
      refine wpAnyH_take (i := 7) (v := .bool true) rfl (by kernel_rfl) (by kernel_rfl) (by kernel_rfl) (fun _ _ _ h => h) (Or.inl ⟨by rfl, ?hyn8⟩) (by assumption) ?restn8
      case hyn8 =>
        intro W hSw
        skip
        go_simp
        try with_reducible rfl
      simp only [Act.put, List.setIfInBounds_toArray, List.set_cons_zero, List.set_cons_succ, List.getElem_toArray, List.getElem_cons_zero, List.getElem_cons_succ]
      refine wpAnyH_take (i := 8) (v := .bool true) rfl (by kernel_rfl) (by kernel_rfl) (by kernel_rfl) (fun _ _ _ h => h) (Or.inl ⟨by rfl, ?hyn9⟩) (by assumption) ?restn9
      case hyn9 =>
        intro W hSw
        skip
        go_simp
        try with_reducible rfl
      simp only [Act.put, List.setIfInBounds_toArray, List.set_cons_zero, List.set_cons_succ, List.getElem_toArray, List.getElem_cons_zero, List.getElem_cons_succ]
      refine wpAnyH_take (i := 9) (v := .bool true) rfl (by kernel_rfl) (by kernel_rfl) (by kernel_rfl) (fun _ _ _ h => h) (Or.inl ⟨by rfl, ?hyn10⟩) (by assumption) ?restn10
      case hyn10 =>
        intro W hSw
        skip
        go_simp
        try with_reducible rfl
      simp only [Act.put, List.setIfInBounds_toArray, List.set_cons_zero, List.set_cons_succ, List.getElem_toArray, List.getElem_cons_zero, List.getElem_cons_succ]
      refine wpAnyH_take (i := 10) (v := undef) rfl (by kernel_rfl) (by kernel_rfl) (by kernel_rfl) (fun _ _ _ h => h) (Or.inr ⟨by rfl, rfl⟩) (by assumption) ?_
      simp only [Act.put, List.setIfInBounds_toArray, List.set_cons_zero, List.set_cons_succ, List.getElem_toArray, List.getElem_cons_zero, List.getElem_cons_succ]
      refine wpAnyH_take (i := 11) (v := undef) rfl (by kernel_rfl) (by kernel_rfl) (by kernel_rfl) (fun _ _ _ h => h) (Or.inr ⟨by rfl, rfl⟩) (by assumption) ?_
      simp only [Act.put, List.setIfInBounds_toArray, List.set_cons_zero, List.set_cons_succ, List.getElem_toArray, List.getElem_cons_zero, List.getElem_cons_succ]
      refine wpAnyH_take (i := 12) (v := undef) rfl (by kernel_rfl) (by kernel_rfl) (by kernel_rfl) (fun _ _ _ h => h) (Or.inr ⟨by rfl, rfl⟩) (by assumption) ?_
      simp only [Act.put, List.setIfInBounds_toArray, List.set_cons_zero, List.set_cons_succ, List.getElem_toArray, List.getElem_cons_zero, List.getElem_cons_succ]
      refine wpAnyH_take (i := 13) (v := undef) rfl (by kernel_rfl) (by kernel_rfl) (by kernel_rfl) (fun _ _ _ h => h) (Or.inr ⟨by rfl, rfl⟩) (by assumption) ?_
      simp only [Act.put, List.setIfInBounds_toArray, List.set_cons_zero, List.set_cons_succ, List.getElem_toArray, List.getElem_cons_zero, List.getElem_cons_succ]
      refine wpAnyH_take (i := 14) (v := undef) rfl (by kernel_rfl) (by kernel_rfl) (by kernel_rfl) (fun _ _ _ h => h) (Or.inr ⟨by rfl, rfl⟩) (by assumption) ?_
      simp only [Act.put, List.setIfInBounds_toArray, List.set_cons_zero, List.set_cons_succ, List.getElem_toArray, List.getElem_cons_zero, List.getElem_cons_succ]
      refine wpAnyH_take (i := 15) (v := .bool true) rfl (by kernel_rfl) (by kernel_rfl) (by kernel_rfl) (fun _ _ _ h => h) (Or.inl ⟨by rfl, ?hyn11⟩) (by assumption) ?restn11
      case hyn11 =>
        intro W hSw
        skip
        go_simp
        try with_reducible rfl
      simp only [Act.put, List.setIfInBounds_toArray, List.set_cons_zero, List.set_cons_succ, List.getElem_toArray, List.getElem_cons_zero, List.getElem_cons_succ]
      refine wpAnyH_done (by kernel_rfl) ?_ _
      obtain ⟨_, hB9⟩ := hHeld
      refine OnlyN.normal ?_
      have b49 := boxed_below b4 hB9
      have c49 := b49.cell
      have f49 := b49.frozen
      clear c2 c3 c7 c11 c12
      gi_wp2_with fail
      exact ⟨(keepsFrom_new _ hB9).trans ((KeepsOthers.setCell _ _ _).from _), Or.inl ⟨rfl, HX.out⟩⟩
  case done =>
    rintro D ys W hD rfl ⟨_, hk, hB⟩ hK
    refine HQ.out D N W hD hK ?_ (Nat.le_refl _) (fun _ => rfl) hB
    rw [List.length_range, ← HN.out] at hk
    exact hk
  case stop =>
    rintro D c pre W hD ⟨k, hk, rfl⟩ hix hK
    rcases hix with ⟨_, h⟩ | ⟨rfl, h0, hb, hB⟩
    · exact absurd (by rw [List.length_range]) h
    · rw [List.length_range] at hb
      refine (wpIn_wide (n := 5)).2 ?_
      refine wp_exit ?_
      refine HQ.out D k W hD hK hb (by rw [HN.out]; exact hk) (fun h1 => by omega) hB
end Go.Proofs.Ytejgeefhnpeejaa
