/-
  Contract of block.Split, by a walk through its text: the parts of bytes, in a slice of its own, and a copy of the rest; what was there stays as it was.
-/
import Derived.Test.YtejgeefhnpeejaaBkg
import Derived.Test.YtejgeefhnpeejaaBks
import Derived.Great.BuildSlice
namespace Go.Proofs.Ytejgeefhnpeejaa
open Go.RowKit Go.Shelf
set_option linter.unusedVariables false
set_option maxRecDepth 100000
attribute [local go_sem] Oper.semAt_some

/-- A slice from a place on. -/
theorem slice_from (A : Option Addr) (n c o : Nat) (ho : o ≤ n) (hnc : n ≤ c) : ∃ A' : Option Addr, (∀ W, (Instr.sliceAt 30 (.slice A n c) (some (.int .i64 (o : Int))) none none).run Try.prog W = .ok (.slice A' (n - o) (c - o)) W) ∧
    ∀ (W : World) (B : Nat) (l : List UInt8), Sl W B A n l → Sl W B A' (n - o) (l.drop o) := by
  have hel : Try.prog.elem 30 = 5 := by simp [Program.elem]
  have hs : ∀ W, (sizeOf 5).run Try.prog W = .ok 1 W := fun W => by kernel_rfl
  have hu : Try.prog.underlying 30 = some (.slice (Try.prog.elem 30)) := by rw [hel]; exact Try.sl8
  refine ⟨if c = o then A else A.map (·.add (o * 1)), fun W => ?_, fun W B l h => ?_⟩
  · rw [run_sliceAt_slice (P := Try.prog) W 30 _ _ _ _ hu]
    have h1 := run_slice_any (P := Try.prog) W 30 A n c hu (some (.int .i64 (o : Int))) none none
    rw [h1, hel]
    simp [Instr.sliceBounds, run_sliceBound, sliced, ho, hs]
  · have hl := h.len
    refine ⟨by simp [hl], fun hn => ?_⟩
    obtain ⟨b, off, e, hb, hc⟩ := h.2 (by omega)
    rw [if_neg (by omega), e]
    refine ⟨b, off + o, by simp [Addr.add], hb, fun j u hj => ?_⟩
    rw [List.getElem?_drop] at hj
    rw [Nat.add_assoc]; exact hc (o + j) u hj
theorem ar_own {β : Type} (g n : Nat) (f : Nat → Nat) : Own (fun (_ : β) W => Ar W g n f) := fun s X Y row hs hg hrow j hj =>
  ⟨cell_kept (hs j hj).1 hg hrow, (frozen_kept (hs j hj).1 hg hrow).trans (hs j hj).2⟩
theorem keepsFrom_new {A B : World} (n : Nat) (h : Below A.heap.size A B) : KeepsFrom n A B := ⟨h.size, fun k o _ hk _ => (h.block k (Array.getElem?_eq_some_iff.1 hk).1).trans hk⟩
theorem boxed_below {W W' : World} {B : Nat} {t : TypeId} {v : Value} (h : Boxed W B t v) (hb : Below W.heap.size W W') : Boxed W' B t v := (hb.block B h.lt).trans h
theorem lF_drop (l : List UInt8) (o j : Nat) : lF (l.drop o) j = lF l (o + j) := by simp [lF, List.getD]
/-- The blocks of the places in a list. -/
def blV (xs : List UInt8) (pre : List Nat) : List Value := pre.flatMap fun k => arL 16 (pt xs k)
theorem blV_snoc (xs : List UInt8) (pre : List Nat) (x : Nat) : blV xs (pre ++ [x]) = blV xs pre ++ arL 16 (pt xs x) := by simp [blV]
theorem infoB : (Try.prog.info? 22).map (fun i => (i.zero, i.size, i.bytes)) = some (some (.agg (Array.replicate 16 (.int .u8 0))), 16, 16) := by kernel_rfl
theorem built16x (f : Nat → Nat) (V : World) : (Instr.buildSlice 31 1 #[(0, .agg (arL 16 f).toArray)]).run Try.prog V = .ok (.slice (some ⟨V.heap.size, 0, none⟩) 1 1) (V.alloc (.cells (arL 16 f).toArray 22)) := by
  obtain ⟨i0, hi0, hz0, hz1, hz2⟩ := info_parts infoB
  exact run_buildSlice (P := Try.prog) V 31 22 1 _ (arL 16 f).toArray i0 _ Try.underlying31 hi0 hz0 (by rw [hz1]; decide) (by rw [hz1]; decide) (by rw [hz1]; kernel_rfl)

set_option maxHeartbeats 4000000 in
theorem bsplit (A : Option Addr) (n c : Nat) (xs : List UInt8) (w : World) (h : Sl w w.heap.size A n xs) (hn : n ≤ 1000) (hnc : n ≤ c) :
    Calls Try.prog 16 #[.slice A n c] w fun e w' => ∃ A1 c1 g, e = .returned (.tuple #[.slice A1 (n / 16) c1, .slice (some ⟨g, 0, none⟩) (n - 16 * (n / 16)) (n - 16 * (n / 16))]) ∧
      w'.ownsRow w.heap.size 22 16 (.slice A1 (n / 16) c1) (n / 16) (blV xs (List.range (n / 16))) ∧ Ar w' g (n - 16 * (n / 16)) (fun j => lF xs (16 * (n / 16) + j)) ∧ w.heap.size ≤ g ∧ g < w'.heap.size ∧ Below w.heap.size w w' := by
  obtain ⟨i0, hi0, hz0, hz1, hz2⟩ := info_parts infoB
  have hz := zero16x
  obtain ⟨N, hN⟩ : ∃ N : Nat, N = n / 16 := ⟨_, rfl⟩
  have N1 : ((n : Int)).tdiv 16 = (N : Int) := by rw [Int.tdiv_eq_ediv_of_nonneg (by omega)]; omega
  have N2 : (n : Int) / 16 = (N : Int) := by omega
  obtain ⟨w1, hw1⟩ : ∃ V : World, V = w.alloc (.cells #[.slice none 0 0] 31) := ⟨_, rfl⟩
  have hs1 : w1.heap.size = w.heap.size + 1 := by rw [hw1]; simp
  have hF1 : Boxed w1 w.heap.size 31 (.slice none 0 0) := by rw [hw1]; exact Boxed.new w _ _
  have hb1 : Below w.heap.size w w1 := by rw [hw1]; exact (Below.refl _ _).alloc (Nat.le_refl _) _
  obtain ⟨w2, hmk, hown2, hg2⟩ := run_make_own (P := Try.prog) w1 w.heap.size 31 22 i0 _ 16 Try.underlying31 hi0 hz0 hz1 .i64 .i64 N (by rw [hz2]; omega) (by unfold maxLen; omega) (by omega)
  refine (callsIn_wide (n := 5)).1 ?_
  refine callsIn_of_wp_marks Try.func16 rfl trivial ?_ rfl
  simp only [Try.ntmps16, List.size_toArray, List.length_cons, List.length_nil, Nat.reduceAdd, Nat.reduceSub, Array.replicate_succ, Array.replicate_zero, List.push_toArray, List.append_toArray, List.nil_append, List.cons_append]
  refine wpIn_wide.2 ?_
  have HN := Lib.hid hN
  have HLE := Lib.hid (show N ≤ 62 by omega)
  clear hN
  go_upto_region 1 with fail
  rw [← hw1]
  clear hw1
  have hc1 := hF1.cell
  have hf1 := hF1.frozen
  have hF2 : Boxed w2 w.heap.size 31 (.slice none 0 0) := hF1.kept hg2 (by simp)
  have hc2 := hF2.cell
  have hf2 := hF2.frozen
  go_upto_region 2 with fail
  rw [hs1] at hown2
  have hte : 31 ≠ 22 := by decide
  have hF3 := hF2.set (.slice (some ⟨w.heap.size + 1, 0, none⟩) 0 N)
  have hO3 := hown2.kept (grownBy_setCell' w2 w.heap.size (.slice (some ⟨w.heap.size + 1, 0, none⟩) 0 N)) (.inr (hF2.not_row hte hown2).symm)
  have hB3 : Below w.heap.size w (w2.setCell ⟨w.heap.size, 0, none⟩ (.slice (some ⟨w.heap.size + 1, 0, none⟩) 0 N)) := (hb1.grown hg2 hb1.size (fun k e => by cases e)).setCell (p := ⟨w.heap.size, 0, none⟩) (Nat.le_refl _) _
  generalize World.setCell w2 ⟨w.heap.size, 0, none⟩ (.slice (some ⟨w.heap.size + 1, 0, none⟩) 0 N) = w3 at *
  obtain ⟨v0, hv0⟩ : ∃ v : Value, Value.slice (some ⟨w.heap.size + 1, 0, none⟩) 0 N = v := ⟨_, rfl⟩
  rw [hv0] at hF3 hO3
  try rw [hv0]
  have hS3 := h.below hB3
  have HS0 := Lib.hid h
  clear hc1 hf1 hc2 hf2 hF1 hF2 hown2 hg2 hmk hb1 h hv0
  go_wp2_with fail
  refine (bparts A n c w3).mono ?_
  rintro e w4 ⟨rfl, hw4⟩
  obtain ⟨gB, hgB⟩ : ∃ g : Nat, w3.heap.size = g := ⟨_, rfl⟩
  have hF4 : Boxed w4 w.heap.size 31 v0 := by rw [hw4]; exact hF3.alloc _
  have hlB : w.heap.size < gB := by rw [← hgB]; exact hF3.lt
  have hP4 : Boxed w4 gB 30 (.slice A n c) := by rw [hw4, ← hgB]; exact Boxed.new w3 _ _
  have hO4 : w4.ownsRow w.heap.size 22 16 v0 0 [] := by rw [hw4]; exact hO3.alloc _
  have hB4 : Below w.heap.size w w4 := by rw [hw4]; exact hB3.alloc hB3.size _
  have hS4 : Sl w4 w.heap.size A n xs := hS3.below (by rw [hw4]; exact (Below.refl _ _).alloc hB3.size _)
  rw [hgB]
  clear hw4 hgB hF3 hO3 hB3 hS3 hs1
  go_wp2_with fail
  have hte8 : 30 ≠ 22 := by decide
  have HLT := Lib.hid (show n / 16 ≤ 62 by omega)
  refine (wpIn_wide (n := 5)).1 ?_
  refine wpIn_rangeFunc_ownH (F := Fence.wide) (n := 5) rfl (by omega) (gf := 27) (lb := #[.pointer (some ⟨gB, 0, none⟩)]) rfl trivial (enters_of Try.func27 (by kernel_rfl) rfl)
    (parts_stops 4 (by omega) gB w.heap.size A n c xs (by omega) hnc w4 hB4.size hP4.lt hP4.cell hS4) (fun h k => h.trans k) (KpP.putObj hB4.size hP4.lt) (Below.refl _ _) (fun _ => rfl)
    (fun pre W => (∃ v, Boxed W w.heap.size 31 v ∧ W.ownsRow w.heap.size 22 16 v pre.length (blV xs pre) ∧ True) ∧ Boxed W gB 30 (.slice A n c) ∧ Below w.heap.size w W)
    (fun _ _ _ => False)
    (OwnFrom.and (Own.from (holdsRow_own w.heap.size w.heap.size 31 22 16 (fun pre => pre.length) (fun pre => blV xs pre) (fun _ _ => True)) _) (OwnFrom.and (Own.from (boxed_own gB 30 (fun _ => .slice A n c)) _) (ownFrom_below (Nat.le_refl _) hB4.size)))
    (fun _ _ _ _ _ hs _ _ => hs)
    ⟨⟨v0, hF4, hO4, trivial⟩, hP4, hB4⟩
    (fun x a' W => ∃ Bx, gB < Bx ∧ Ar W Bx 16 (pt xs x) ∧ a' = { tmps := #[.slice A n c, undef, .pointer (some ⟨w.heap.size, 0, none⟩), .slice none 0 0, undef, .pointer (some ⟨Bx, 0, none⟩), .slice A n c, .int .i64 n, .int .i64 N, v0, .slice A n c,
      .func (.func 27) #[] #[.pointer (some ⟨gB, 0, none⟩)], .int .i64 ((x + 1 : Nat) : Int), .agg (arL 16 (pt xs x)).toArray, undef, undef, undef, undef, undef, undef, undef, undef, undef, undef, undef], defers := [] })
    (fun x a' _ X Y row hs hg hr => by
      obtain ⟨Bx, h1, h2, h3⟩ := hs
      exact ⟨Bx, h1, ar_own (β := Unit) Bx 16 _ () X Y row h2 hg (fun r e => (hr r e).2), h3⟩) ?assign ?body ?done ?stop
  case assign =>
    rintro l pre x W K ⟨⟨v, hv, hrow, _⟩, hP, hB⟩ hK
    dsimp only [ptE]
    obtain ⟨W1, hW1⟩ : ∃ V : World, V = W.alloc (.cells (arL 16 fun _ => 0).toArray 22) := ⟨_, rfl⟩
    have hT1 : Ar W1 W.heap.size 16 (fun _ => 0) := by rw [hW1]; exact Ar.new W 16 _ _
    have hb1 : Below W.heap.size W W1 := by rw [hW1]; exact (Below.refl _ _).alloc (Nat.le_refl _) _
    gi_wp2_with (refine wpListIn_store_ar rfl _ _ _ rfl W.heap.size 16 _ (pt xs x) rfl rfl (by rw [← hW1]; exact hT1) (size16x _) ?_; intro W2 hT2 hb2 hs2 he2)
    rw [← hW1] at hb2
    have hb3 := hb1.trans hb2
    refine hK _ _ (keepsFrom_new _ hb3) (KpP.new hb3 hB.size hP.lt) ⟨⟨v, boxed_below hv hb3, ?_, trivial⟩, boxed_below hP hb3, hB.trans (hb3.mono hB.size)⟩ ⟨W.heap.size, hP.lt, hT2, rfl⟩
    exact World.ownsRow.kept hrow (grown_new hb3) (Classical.em _)
  case body =>
    rintro l pre x a' W hl ⟨r, hr⟩ ⟨⟨v, hv, hrow, _⟩, hP, hB⟩ ⟨Bx, hBx, hT, rfl⟩ hlt
    have hc := hv.cell
    have hpl : pre.length < 62 := Nat.lt_of_lt_of_le hlt HLT.out
    have hBs := hB.size
    gi_wp2_with (first
      | (refine wpListIn_load_ar rfl _ _ rfl _ _ _ rfl hT Try.arr16x (size16x _) ?_)
      | (refine wpListIn_bs_by rfl _ _ _ rfl [(0, .agg (arL 16 (pt xs x)).toArray)] rfl _ (built16x _ _) ?_)
      | (gi_at_builtin; refine wpListIn_append_own _ rfl _ _ 31 rfl w.heap.size 22 i0 _ 16 16 Try.underlying31 hi0 hz0 hz1 hz2 rfl (by decide) _ _ _ rfl (hrow.alloc _) ⟨W.heap.size, 0, none⟩ 1 1 (arL 16 (pt xs x)) rfl rfl (Ar.new W 16 (pt xs x) _).src (arL_one 16 _) (by unfold maxLen; omega) (by omega) (by simp; omega) ?_; intro v' w9 hown' hgrow _; obtain ⟨g', cap', rfl⟩ := ownsRow_succ hown'; obtain ⟨hv1, hv2, hr2, hk2, hb2⟩ := hv.appended hte hrow hB.size (Nat.le_refl _) hown' hgrow; have hc1 := hv1.cell; have hf1 := hv1.frozen))
    have hgrow2 : (W.alloc (.cells (arL 16 (pt xs x)).toArray 22)).grownBy w9 v.ownBlock := hgrow
    have hP1 : Boxed w9 gB 30 (.slice A n c) := (hP.alloc _).kept hgrow2 (hP.not_row hte8 hrow)
    have hP2 := hP1.other (B' := w.heap.size) (by omega) (.slice (some ⟨g', 0, none⟩) (pre.length + 1) cap')
    exact ⟨hk2.from _, ⟨hb2, Eq.trans hP2 (Eq.symm hP)⟩, ⟨⟨_, hv2, by rw [blV_snoc, List.length_append]; exact hr2⟩, hP2, hB.trans hb2⟩⟩
  case done =>
    rintro D ys W hD rfl ⟨⟨v, hv, hrow, _⟩, hP, hB⟩ hK
    rw [List.length_range, ← HN.out] at hrow
    obtain ⟨A1, c1, rfl⟩ := own_shape hrow
    have HN2 := HN.out
    obtain ⟨o, ho⟩ : ∃ o : Nat, 16 * N = o := ⟨_, rfl⟩
    have o0 : o ≤ n := by omega
    have HNO := Lib.hid (show n - o ≤ 1000000 by omega)
    have o1 : wrap64 (16 * (N : Int)) = (o : Int) := by rw [IntWalk.wrap64_in _ (by omega)]; omega
    have o2 : IntKind.i64.wrap (16 * (N : Int)) = (o : Int) := by rw [wraps_i64' _ (by omega) (by omega)]; omega
    have o3 : 16 * (N : Int) = (o : Int) := by omega
    have o5 : IntKind.i64.wrap (o : Int) = (o : Int) := wraps_i64' _ (by omega) (by omega)
    have HO := Lib.hid ho
    clear ho HN2
    obtain ⟨A9, hsl, hsl3⟩ := slice_from A n c o o0 hnc
    have hsl2 := Lib.hid hsl3
    clear hsl3
    have hS5 : Sl W w.heap.size A n xs := HS0.out.below hB
    go_upto_region 5 with fail
    refine wp_region_noPanic ?_
    refine wp_region_held_drew (S := fun W => Boxed W w.heap.size 31 (.slice A1 N c1) ∧ World.ownsRow W w.heap.size 22 16 (.slice A1 N c1) N (blV xs (List.range N)) ∧ (World.heap W)[D]? = some (.deferred (some [])) ∧ Sl W w.heap.size A n xs ∧ Below w.heap.size w W) (by kernel_rfl) ⟨hv, hrow, hK, hS5.drew, hB.drew⟩ (fun hHeld => ?_)
    clear hv hrow hK hS5 hB 
    generalize World.drew W = ad at *
    refine wpAnyH_take (i := 0) (v := ?va1) rfl (by kernel_rfl) (by kernel_rfl) (by kernel_rfl) (fun _ _ _ h => h) (Or.inl ⟨by rfl, ?hya1⟩) (by assumption) ?resta1
    case hya1 =>
      intro W hSw
      have c0 := hSw.1.cell
      go_simp
      try with_reducible rfl
    simp only [Act.put, List.setIfInBounds_toArray, List.set_cons_zero, List.set_cons_succ, List.getElem_toArray, List.getElem_cons_zero]
    refine wpAnyH_take (i := 1) (v := ?va2) rfl (by kernel_rfl) (by kernel_rfl) (by kernel_rfl) (fun _ _ _ h => h) (Or.inl ⟨by rfl, ?hya2⟩) (by assumption) ?resta2
    case hya2 =>
      intro W hSw
      go_simp
      try with_reducible rfl
    simp only [Act.put, List.setIfInBounds_toArray, List.set_cons_zero, List.set_cons_succ, List.getElem_toArray, List.getElem_cons_zero, List.getElem_cons_succ]
    refine wpAnyH_take (i := 2) (v := ?va3) rfl (by kernel_rfl) (by kernel_rfl) (by kernel_rfl) (fun _ _ _ h => h) (Or.inl ⟨by rfl, ?hya3⟩) (by assumption) ?resta3
    case hya3 =>
      intro W hSw
      have c0 := hSw.1.cell
      go_simp
      try with_reducible rfl
    simp only [Act.put, List.setIfInBounds_toArray, List.set_cons_zero, List.set_cons_succ, List.getElem_toArray, List.getElem_cons_zero, List.getElem_cons_succ]
    refine wpAnyH_take (i := 3) (v := ?va4) rfl (by kernel_rfl) (by kernel_rfl) (by kernel_rfl) (fun _ _ _ h => h) (Or.inl ⟨by rfl, ?hya4⟩) (by assumption) ?resta4
    case hya4 =>
      intro W hSw
      go_simp
      try with_reducible rfl
    simp only [Act.put, List.setIfInBounds_toArray, List.set_cons_zero, List.set_cons_succ, List.getElem_toArray, List.getElem_cons_zero, List.getElem_cons_succ]
    refine wpAnyH_take (i := 4) (v := ?va5) rfl (by kernel_rfl) (by kernel_rfl) (by kernel_rfl) (fun _ _ _ h => h) (Or.inl ⟨by rfl, ?hya5⟩) (by assumption) ?resta5
    case hya5 =>
      intro W hSw
      go_simp
      try with_reducible rfl
    simp only [Act.put, List.setIfInBounds_toArray, List.set_cons_zero, List.set_cons_succ, List.getElem_toArray, List.getElem_cons_zero, List.getElem_cons_succ]
    refine wpAnyH_take (i := 5) (v := ?va6) rfl (by kernel_rfl) (by kernel_rfl) (by kernel_rfl) (fun _ _ _ h => h) (Or.inl ⟨by rfl, ?hya6⟩) (by assumption) ?resta6
    case hya6 =>
      intro W hSw
      go_simp
      try with_reducible rfl
    simp only [Act.put, List.setIfInBounds_toArray, List.set_cons_zero, List.set_cons_succ, List.getElem_toArray, List.getElem_cons_zero, List.getElem_cons_succ]
    refine wpAnyH_ready (rs := [6]) (by kernel_rfl) (by simp) ?_
    refine AllReadyH.cons rfl (fun K hK => ?_) AllReadyH.nil
    go_simp
    clear o1 o2 o3 o5 N1 N2
    obtain ⟨gR, hgR⟩ : ∃ g : Nat, ad.heap.size = g := ⟨_, rfl⟩
    have hlgR : w.heap.size < gR := by rw [← hgR]; exact (hHeld.1).lt
    refine (bclone A9 (n - o) (c - o) (xs.drop o) ad (hsl2.out _ _ _ ((hHeld.2.2.2.1).more (hHeld.2.2.2.2).size)) HNO.out).mono ?_
    rintro e a7 ⟨rfl, hRa7, hla7, hq⟩
    rw [hgR] at hRa7 hla7
    try rw [hgR]
    go_wp2_with fail
    refine hK.out _ _ ⟨boxed_below (hHeld.1) hq, World.ownsRow.kept (hHeld.2.1) (grown_new hq) (Classical.em _), (hq.block D (Array.getElem?_eq_some_iff.1 (hHeld.2.2.1)).1).trans (hHeld.2.2.1), (hHeld.2.2.2.1).below (hq.mono hHeld.2.2.2.2.size), (hHeld.2.2.2.2).trans (hq.mono (hHeld.2.2.2.2).size)⟩ (fun hHeld2 => ?_)
    clear hK K hHeld hq hgR
    have hHeld := hHeld2
    clear hHeld2
    try simp only [Act.put, List.setIfInBounds_toArray, List.set_cons_zero, List.set_cons_succ, List.getElem_toArray, List.getElem_cons_zero, List.getElem_cons_succ]
    refine wpAnyH_ready (rs := [7]) (by kernel_rfl) (by simp) ?_
    refine AllReadyH.cons rfl (fun K hK => ?_) AllReadyH.nil
    have cF := (hHeld.1).cell
    have fF := (hHeld.1).frozen
    go_simp
    have hR9 := hRa7.far (p := ⟨w.heap.size, 0, none⟩) (Nat.ne_of_lt hlgR) (.slice A1 N c1)
    have hS9 := show Boxed (World.setCell a7 ⟨w.heap.size, 0, none⟩ (.slice A1 N c1)) w.heap.size 31 (.slice A1 N c1) ∧ World.ownsRow (World.setCell a7 ⟨w.heap.size, 0, none⟩ (.slice A1 N c1)) w.heap.size 22 16 (.slice A1 N c1) N (blV xs (List.range N)) ∧ (World.heap (World.setCell a7 ⟨w.heap.size, 0, none⟩ (.slice A1 N c1)))[D]? = some (.deferred (some [])) ∧ Sl (World.setCell a7 ⟨w.heap.size, 0, none⟩ (.slice A1 N c1)) w.heap.size A n xs ∧ Below w.heap.size w (World.setCell a7 ⟨w.heap.size, 0, none⟩ (.slice A1 N c1)) from ⟨(hHeld.1).set (.slice A1 N c1), (hHeld.2.1).kept (grownBy_setCell' a7 w.heap.size (.slice A1 N c1)) (.inr ((hHeld.1).not_row hte (hHeld.2.1)).symm), (KeepsOthers.setCell a7 ⟨w.heap.size, 0, none⟩ (.slice A1 N c1)).same D _ (hHeld.2.2.1) rfl, (hHeld.2.2.2.1).setCell (p := ⟨w.heap.size, 0, none⟩) (Nat.le_refl _) _, (hHeld.2.2.2.2).setCell (p := ⟨w.heap.size, 0, none⟩) (Nat.le_refl _) _⟩
    have hl9 : gR < (World.setCell a7 ⟨w.heap.size, 0, none⟩ (.slice A1 N c1)).heap.size := by simpa [World.setCell] using hla7
    generalize World.setCell a7 ⟨w.heap.size, 0, none⟩ (.slice A1 N c1) = z9 at *
    refine hK.out _ _ hS9 (fun hHeld2 => ?_)
    clear hK K hHeld hS9 cF fF hRa7 hla7
    have hHeld := hHeld2
    clear hHeld2
    try simp only [Act.put]
    refine wpAnyH_take (i := 8) (v := ?va8) rfl (by kernel_rfl) (by kernel_rfl) (by kernel_rfl) (fun _ _ _ h => h) (Or.inl ⟨by rfl, ?hya8⟩) (by assumption) ?resta8
    case hya8 =>
      intro W hSw
      go_simp
      try with_reducible rfl
    simp only [Act.put, List.setIfInBounds_toArray, List.set_cons_zero, List.set_cons_succ, List.getElem_toArray, List.getElem_cons_zero, List.getElem_cons_succ]
    refine wpAnyH_done (by kernel_rfl) ?_ _
    refine NoPanic.normal ?_
    obtain ⟨hF9, hO9, hD9, hS9, hB9⟩ := hHeld
    have cF := hF9.cell
    go_wp2_with fail
    refine ⟨by simp, .inl ⟨_, _, rfl, run_takeDeferred hD9, ?_⟩⟩
    have hDw : w.heap.size ≤ D := Nat.le_trans hB4.size hD
    have hg9 := grownBy_putObj' z9 D (.deferred none)
    have hr9 : ∀ r, some D = some r → ∃ o : Obj, z9.heap[r]? = some o ∧ o.isCells = false := fun r e => by cases e; exact ⟨_, hD9, rfl⟩
    have c5 := cell_kept cF hg9 hr9
    have hA5 := ar_own (β := Unit) gR (n - o) (lF (xs.drop o)) () _ _ _ hR9 hg9 hr9
    have ho := HO.out
    refine ⟨.tuple #[.slice A1 N c1, .slice (some ⟨gR, 0, none⟩) (n - o) (n - o)], ?_, A1, c1, gR, ?_, ?_, ?_, Nat.le_of_lt hlgR, ?_, ?_⟩
    · simp [results, Try.f16, go_sem, c5]
    · rw [← HN.out, ho]
    · rw [← HN.out]; exact ownsRow_putObj hO9 _ hD9 rfl
    · rw [← HN.out, ho]
      refine hA5.ext (fun j hj => ?_)
      rw [lF_drop]
    · simpa [World.putObj] using hl9
    · exact hB9.trans (belowK_b (w := w) (Nat.le_refl _) z9 D _ _ hDw hD9 rfl rfl)
  case stop =>
    rintro D c pre W _ _ h _
    exact h.elim
end Go.Proofs.Ytejgeefhnpeejaa
