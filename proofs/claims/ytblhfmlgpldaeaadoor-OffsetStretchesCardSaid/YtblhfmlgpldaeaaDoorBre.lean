/-
  Contract of Double in the reference package of layer 8, by a walk through its text; what was there stays as it was.
-/
import Derived.Test.YtblhfmlgpldaeaaDoorBrc
import Derived.ArgAppend
namespace Go.Proofs.YtblhfmlgpldaeaaDoor
open Go.RowKit
set_option linter.unusedVariables false
set_option maxRecDepth 100000

theorem cell_lt8 {W : World} {g o : Nat} {x : Value} (h : W.cell? ⟨g, o, none⟩ = some x) : g < W.heap.size := by
  rcases Nat.lt_or_ge g W.heap.size with h1 | h1
  · exact h1
  · simp [World.cell?, Array.getElem?_eq_none h1] at h
theorem shB_one_lt (f : Nat → Nat) (hf : ∀ j, j < 16 → f j < 256) (j : Nat) : shB (cut 16 f) 1 j < 256 := by
  rw [shB_one]
  have := cut_lt hf j
  have := cut_lt hf (j + 1)
  omega
/-- The cells of a slice of the call's own, up to its capacity. -/
theorem own_spare {w : World} {base : Nat} {e : TypeId} {g n c : Nat} {xs : List Value} (h : w.ownsRow base e 1 (.slice (some ⟨g, 0, none⟩) n c) n xs) (hn : 0 < n) (j : Nat) (hj : j < c) :
    (w.cell? ⟨g, j, none⟩).isSome = true ∧ w.frozen? ⟨g, j, none⟩ = false := by
  refine ⟨?_, World.ownsRow.frozenAt h j⟩
  rcases h.2 with ⟨h1, _⟩ | ⟨g0, cap, cur, hv, _, hcell, _, _, hsz, _⟩
  · cases h1
  · injection hv with e1 e2 e3
    injection e1 with e1
    injection e1 with e1
    subst e1 e3
    simp [World.cell?, hcell]
    omega

set_option maxHeartbeats 4000000 in
theorem refdouble (f : Nat → Nat) (w : World) (hf : ∀ j, j < 16 → f j < 256) :
    Calls Tryd.prog 65 #[.agg (arL 16 f).toArray] w fun e w' => e = .returned (.agg (arL 16 (dbF f)).toArray) ∧ Below w.heap.size w w' := by
  obtain ⟨i0, hi0, hz0, hz1, hz2⟩ := info_parts infoI
  have hz := zero16x
  obtain ⟨kA, hkA⟩ : ∃ kA : Array Value, (arL 16 f).toArray = kA := ⟨_, rfl⟩
  obtain ⟨w1, hw1⟩ : ∃ w1 : World, w1 = w.alloc (.cells (arL 16 f).toArray 22) := ⟨_, rfl⟩
  have hs1 : w1.heap.size = w.heap.size + 1 := by rw [hw1]; simp
  have hb1 : Below w.heap.size w w1 := by rw [hw1]; exact (Below.refl _ _).alloc (Nat.le_refl _) _
  have hK1 : Ar w1 w.heap.size 16 f := by rw [hw1]; exact Ar.new w 16 f _
  obtain ⟨w2, hw2⟩ : ∃ w2 : World, w2 = w1.alloc (.cells (arL 16 fun _ => 0).toArray 22) := ⟨_, rfl⟩
  have hs2 : w2.heap.size = w.heap.size + 2 := by rw [hw2]; simp [hs1]
  have hb2 : Below w.heap.size w w2 := by rw [hw2]; exact hb1.alloc (by omega) _
  have hR2 : Ar w2 (w.heap.size + 1) 16 (fun _ => 0) := by rw [hw2, ← hs1]; exact Ar.new w1 16 _ _
  have hK2 : Ar w2 w.heap.size 16 f := by rw [hw2]; exact hK1.alloc (by omega) _
  rw [hkA] at hw1
  rw [hkA]
  clear hb1 hK1 hkA
  have HF := Lib.hid hf
  clear hf
  go_enter Tryd.func65, Tryd.ntmps65
  go_upto_region 1 with fail
  rw [← hw1, ← hw2]
  clear hw1 hw2 hs1
  go_wp2_with fail
  refine (refbits f 16 w.heap.size w2 (by omega) HF.out hK2 (hK2.lt (by omega))).mono ?_
  rintro e w3 ⟨A, c, rfl, hO, hq⟩
  have hR3 := hR2.to (by omega) hq
  have hB3 := hb2.trans (hq.mono hb2.size)
  clear hR2 hb2 hq
  obtain ⟨g, rfl, hgb, hgl, d3⟩ := hO.cell 0 (by omega)
  have hcap := (own_cap hO).1
  have HC := Lib.hid (fun k (hk : k < 128) => (show w3.cell? ⟨g, k, none⟩ = some (.int .i64 (bitF f k : Nat)) by
    obtain ⟨g2, e, _, _, hc⟩ := hO.cell k hk
    injection e with e
    injection e with e
    subst e
    exact hc))
  have HS := Lib.hid (fun j (hj : j < c) => own_spare hO (by omega) j hj)
  have i3 : (128 : Int) ≤ (c : Int) := by omega
  have hg2 : w.heap.size + 1 < g := by omega
  clear hO hK2 hgb hs2
  have holds : ∀ j u, (inL 127 (fun k => bitF f (k + 1)))[j]? = some u → w3.cell? ⟨g, 1 + j, none⟩ = some u := fun j u hu => by
    have hj : j < 127 := by
      rcases Nat.lt_or_ge j 127 with h1 | h1
      · exact h1
      · rw [List.getElem?_eq_none (by rw [inL_len]; exact h1)] at hu; cases hu
    rw [inL_get 127 _ j hj] at hu
    injection hu with hu
    subst hu
    rw [Nat.add_comm 1 j]
    exact HC.out (j + 1) (by omega)
  have HO := Lib.hid holds
  have hz128 : bitF (cut 16 f) (127 + 1) = 0 := by unfold bitF cut; rw [if_neg (by omega)]
  clear holds
  go_wp2_with (at_builtin
               refine wpList_append_arg _ rfl _ _ 73 rfl 3 i0 (.int .i64 0) 1 8 Tryd.underlying73 hi0 hz0 hz1 hz2 rfl (by decide) g 1 127 (c - 1) (inL 127 (fun k => bitF f (k + 1))) rfl ?lo ?olds ⟨w3.heap.size, 0, none⟩ 1 1 [.int .i64 0] rfl rfl ?c1 ?c2 ?spare ?maxLen ?bytes ?room ?grow)
  case olds => intro j u hu; rw [World.cell?_alloc_lt w3 _ ⟨g, 1 + j, none⟩ hgl]; exact HO.out j u hu
  case c1 =>
    intro j u hj
    match j, hj with
    | 0, hj => simp at hj; subst hj; simp [Addr.add]
  case c2 => intro u hu; simp at hu; subst hu; rfl
  case spare =>
    intro hr j hj
    simp at hj
    subst hj
    have := HS.out 128 (by omega)
    exact ⟨by rw [World.cell?_alloc_lt w3 _ ⟨g, 128, none⟩ hgl]; exact this.1, (((Below.refl w3.heap.size w3).alloc (Nat.le_refl _) _).frozen (p := ⟨g, 128, none⟩) hgl).trans this.2⟩
  case maxLen => decide
  case bytes => decide
  case lo => rw [inL_len]
  case room =>
    intro hroom
    have hroom2 : 129 ≤ c := by omega
    obtain ⟨w5, hw5⟩ : ∃ V : World, V = (w3.alloc (.cells #[.int .i64 0] 3)).setCells g (1 + 127 * 1) [.int .i64 0] := ⟨_, rfl⟩
    have hw5' : w5 = (w3.alloc (.cells #[.int .i64 0] 3)).setCell ⟨g, 128, none⟩ (.int .i64 0) := hw5
    have hR5 : Ar w5 (w.heap.size + 1) 16 (fun _ => 0) := by rw [hw5']; exact (hR3.alloc (by omega) _).far (by simp; omega) _
    have hB5 : Below w.heap.size w w5 := by rw [hw5']; exact (hB3.alloc hB3.size _).setCell (by simp; omega) _
    have old : ∀ k, k < 128 → w5.cell? ⟨g, k, none⟩ = some (.int .i64 (bitF f k : Nat)) := fun k hk => by
      rw [hw5', World.cell?_setCell_other _ _ _ _ (fun e => by injection e with _ e; omega), World.cell?_alloc_lt w3 _ ⟨g, k, none⟩ hgl]
      exact HC.out k hk
    have d0 := old 0 (by omega)
    obtain ⟨gA, oA, cA, e1, e2, e3⟩ : ∃ gA oA cA : Nat, gA = g ∧ oA = 1 ∧ cA = c - 1 := ⟨_, _, _, rfl, rfl, rfl⟩
    have hcells : ∀ k, k < 128 → w5.cell? ⟨gA, oA + k, none⟩ = some (.int .i64 (bitF (cut 16 f) (k + 1) : Nat)) := fun k hk => by
      rw [e1, e2, Nat.add_comm 1 k]
      by_cases h127 : k = 127
      · subst h127
        rw [hw5', World.cell?_setCell_same _ _ _ (u := (w3.cell? ⟨g, 128, none⟩).get (HS.out 128 (by omega)).1) (by rw [World.cell?_alloc_lt w3 _ ⟨g, 128, none⟩ hgl]; simp), hz128]
        rfl
      · rw [old (k + 1) (by omega)]
        unfold bitF cut
        rw [if_pos (by omega)]
    have hgA : gA < w5.heap.size := cell_lt8 (hcells 0 (by omega))
    have hg5 : g < w5.heap.size := cell_lt8 d0
    rw [← hw5, show (Value.slice (some ⟨g, 1, none⟩) (127 + 1) (c - 1)) = .slice (some ⟨gA, oA, none⟩) 128 cA by rw [e1, e2, e3]]
    clear hw5 hw5' hR3 hB3 old e1 e2 e3 HS HC HO hgl d3
    try dsimp only [Act.put]
    go_wp2_with fail
    refine (refofb (fun k => bitF (cut 16 f) (k + 1)) gA oA 128 cA _ (by omega) (fun k _ => bitF_lt _ _) hcells hgA).mono ?_
    rintro e w6 ⟨rfl, hq⟩
    rw [arL_ext (n := 16) (f := by8 fun k => bitF (cut 16 f) (k + 1)) (g := shB (cut 16 f) 1) (fun j _ => by8_shift (cut 16 f) (cut_lt HF.out) 1 j)]
    have hR6 := hR5.to (by omega) hq
    have hB6 := hB5.trans (hq.mono hB5.size)
    have d6 : w6.cell? ⟨g, 0, none⟩ = some (.int .i64 (bitF f 0 : Nat)) := (hq.cell (p := ⟨g, 0, none⟩) hg5).trans d0
    clear hR5 hB5 hq hcells hgA d0
    obtain ⟨gT, hgT⟩ : ∃ gT : Nat, w6.heap.size = gT := ⟨_, rfl⟩
    have hlT : w.heap.size + 1 < gT := by rw [← hgT]; exact hR6.lt (by omega)
    have hg6 : g < gT := by rw [← hgT]; exact cell_lt8 d6
    obtain ⟨w7, hw7⟩ : ∃ V : World, V = w6.alloc (.cells (arL 16 fun _ => 0).toArray 22) := ⟨_, rfl⟩
    have hR7 : Ar w7 (w.heap.size + 1) 16 (fun _ => 0) := by rw [hw7]; exact hR6.alloc (by omega) _
    have hT7 : Ar w7 gT 16 (fun _ => 0) := by rw [hw7, ← hgT]; exact Ar.new w6 16 _ _
    have hB7 : Below w.heap.size w w7 := by rw [hw7]; exact hB6.alloc hB6.size _
    have d7 : w7.cell? ⟨g, 0, none⟩ = some (.int .i64 (bitF f 0 : Nat)) := by rw [hw7, World.cell?_alloc_lt w6 _ ⟨g, 0, none⟩ (by rw [hgT]; exact hg6)]; exact d6
    clear hR6 hB6 d6
    go_upto_region 3 with (refine wpList_store_ar rfl _ _ _ rfl _ _ _ (shB (cut 16 f) 1) rfl rfl (by rw [← hw7]; exact hT7) (size16x _) ?_; intro w8 hT8 bel siz kee)
    rw [← hw7] at bel siz kee
    have hR8 := kee _ _ _ (by omega) hR7
    have hB8 := hB7.trans (bel.mono (by omega))
    have d8 : w8.cell? ⟨g, 0, none⟩ = some (.int .i64 (bitF f 0 : Nat)) := (bel.cell (p := ⟨g, 0, none⟩) hg6).trans d7
    clear hT7 hR7 hB7 d7 bel siz kee hw7 hgT
    try dsimp only [Act.put]
    have hb0 : bitF f 0 = f 0 / 128 := by have := HF.out 0 (by omega); unfold bitF; simp; omega
    rw [hb0] at d8
    have hf0 := HF.out 0 (by omega)
    by_cases hc : f 0 / 128 = 1
    · rw [hc] at d8
      obtain ⟨c15, f15⟩ := hT8 15 (by omega)
      have y1 : bits BinOp.xor IntKind.u8 ((shB (cut 16 f) 1 15 : Nat) : Int) 135 = ((shB (cut 16 f) 1 15 ^^^ 135 : Nat) : Int) := xor_n8 _ 135 (shB_one_lt f HF.out 15) (by omega)
      have hT9 := (hT8.set (j := 15) (v := shB (cut 16 f) 1 15 ^^^ 135) (by omega) rfl).ext (f' := dbF f) (fun j hj => by
        unfold dbF
        by_cases h15 : j = 15
        · rw [if_pos h15, if_pos h15, hc, h15]
        · rw [if_neg h15, if_neg h15, Nat.xor_zero])
      have hR9 := hR8.far (p := ⟨gT, 15, none⟩) (by simp; omega) (.int .u8 (shB (cut 16 f) 1 15 ^^^ 135 : Nat))
      have hB9 := hB8.setCell (p := ⟨gT, 15, none⟩) (by simp; omega) (.int .u8 (shB (cut 16 f) 1 15 ^^^ 135 : Nat))
      clear hT8 hR8 hB8 hc hb0 hf0
      go_wp2_with (first
        | (refine wpList_load_ar rfl _ _ rfl _ _ _ rfl hT9 Tryd.arr16x (size16x _) ?_)
        | (refine wpList_store_ar rfl _ _ _ rfl _ _ _ (dbF f) rfl rfl hR9 (size16x _) ?_; intro w10 hA hb _ _))
      refine bodyPost_ret_ar rfl rfl hA Tryd.arr16x (size16x _) rfl ⟨rfl, ?_⟩
      exact hB9.trans (hb.mono (by omega))
    · have h0 : f 0 / 128 = 0 := by omega
      rw [h0] at d8
      have hT9 := hT8.ext (f' := dbF f) (fun j hj => by
        unfold dbF
        rw [h0]; split <;> simp)
      clear hT8 hc hb0 hf0
      go_wp2_with (first
        | (refine wpList_load_ar rfl _ _ rfl _ _ _ rfl hT9 Tryd.arr16x (size16x _) ?_)
        | (refine wpList_store_ar rfl _ _ _ rfl _ _ _ (dbF f) rfl rfl hR8 (size16x _) ?_; intro w10 hA hb _ _))
      refine bodyPost_ret_ar rfl rfl hA Tryd.arr16x (size16x _) rfl ⟨rfl, ?_⟩
      exact hB8.trans (hb.mono (by omega))
  case grow =>
    intro _ v5 w5 hown hgrow
    obtain ⟨A5, cA, rfl⟩ := own_shape hown
    have hR4 : Ar (w3.alloc (.cells #[.int .i64 0] 3)) (w.heap.size + 1) 16 (fun _ => 0) := hR3.alloc (by omega) _
    have hb5 : Below (w3.alloc (.cells #[.int .i64 0] 3)).heap.size (w3.alloc (.cells #[.int .i64 0] 3)) w5 := (Below.refl _ _).grown hgrow (by simp) (fun g0 hg0 => by cases hg0)
    have hR5 : Ar w5 (w.heap.size + 1) 16 (fun _ => 0) := hR4.to (by omega) hb5
    have hB4 : Below w.heap.size w (w3.alloc (.cells #[.int .i64 0] 3)) := hB3.alloc hB3.size _
    have hB5 : Below w.heap.size w w5 := hB4.trans (hb5.mono hB4.size)
    have d0 : w5.cell? ⟨g, 0, none⟩ = some (.int .i64 (bitF f 0 : Nat)) := by
      rw [hb5.cell (p := ⟨g, 0, none⟩) (by simp; omega), World.cell?_alloc_lt w3 _ ⟨g, 0, none⟩ hgl]; exact d3
    have hx : inL 127 (fun k => bitF f (k + 1)) ++ [Value.int .i64 0] = inL 128 (fun k => bitF (cut 16 f) (k + 1)) := by
      have ha : inL 127 (fun k => bitF f (k + 1)) = inL 127 (fun k => bitF (cut 16 f) (k + 1)) := by
        unfold inL
        apply List.map_congr_left
        intro j hj
        have hj := List.mem_range.1 hj
        show Value.int .i64 ((bitF f (j + 1) : Nat) : Int) = .int .i64 ((bitF (cut 16 f) (j + 1) : Nat) : Int)
        congr 2
        unfold bitF cut
        rw [if_pos (by omega)]
      rw [ha, inL_snoc 127, hz128]; rfl
    rw [hx] at hown
    have hO5 : OwI w5 (w3.heap.size + 1) (.slice A5 128 cA) 128 (fun k => bitF (cut 16 f) (k + 1)) := hown
    obtain ⟨gA, rfl, _, hgA, _⟩ := hO5.cell 0 (by omega)
    obtain ⟨oA, hoA⟩ : ∃ oA : Nat, oA = 0 := ⟨_, rfl⟩
    have hcells : ∀ k, k < 128 → w5.cell? ⟨gA, oA + k, none⟩ = some (.int .i64 (bitF (cut 16 f) (k + 1) : Nat)) := fun k hk => by
      obtain ⟨g2, e, _, _, hc⟩ := hO5.cell k hk
      injection e with e
      injection e with e
      subst e
      rw [hoA, Nat.zero_add]; exact hc
    have hg5 : g < w5.heap.size := cell_lt8 d0
    rw [show (Value.slice (some ⟨gA, 0, none⟩) (127 + 1) cA) = .slice (some ⟨gA, oA, none⟩) 128 cA by rw [hoA]]
    clear hown hgrow hR4 hb5 hB4 hR3 hB3 hO5 hx hoA HS HC HO hgl d3
    try dsimp only [Act.put]
    go_wp2_with fail
    refine (refofb (fun k => bitF (cut 16 f) (k + 1)) gA oA 128 cA _ (by omega) (fun k _ => bitF_lt _ _) hcells hgA).mono ?_
    rintro e w6 ⟨rfl, hq⟩
    rw [arL_ext (n := 16) (f := by8 fun k => bitF (cut 16 f) (k + 1)) (g := shB (cut 16 f) 1) (fun j _ => by8_shift (cut 16 f) (cut_lt HF.out) 1 j)]
    have hR6 := hR5.to (by omega) hq
    have hB6 := hB5.trans (hq.mono hB5.size)
    have d6 : w6.cell? ⟨g, 0, none⟩ = some (.int .i64 (bitF f 0 : Nat)) := (hq.cell (p := ⟨g, 0, none⟩) hg5).trans d0
    clear hR5 hB5 hq hcells hgA d0
    obtain ⟨gT, hgT⟩ : ∃ gT : Nat, w6.heap.size = gT := ⟨_, rfl⟩
    have hlT : w.heap.size + 1 < gT := by rw [← hgT]; exact hR6.lt (by omega)
    have hg6 : g < gT := by rw [← hgT]; exact cell_lt8 d6
    obtain ⟨w7, hw7⟩ : ∃ V : World, V = w6.alloc (.cells (arL 16 fun _ => 0).toArray 22) := ⟨_, rfl⟩
    have hR7 : Ar w7 (w.heap.size + 1) 16 (fun _ => 0) := by rw [hw7]; exact hR6.alloc (by omega) _
    have hT7 : Ar w7 gT 16 (fun _ => 0) := by rw [hw7, ← hgT]; exact Ar.new w6 16 _ _
    have hB7 : Below w.heap.size w w7 := by rw [hw7]; exact hB6.alloc hB6.size _
    have d7 : w7.cell? ⟨g, 0, none⟩ = some (.int .i64 (bitF f 0 : Nat)) := by rw [hw7, World.cell?_alloc_lt w6 _ ⟨g, 0, none⟩ (by rw [hgT]; exact hg6)]; exact d6
    clear hR6 hB6 d6
    go_upto_region 3 with (refine wpList_store_ar rfl _ _ _ rfl _ _ _ (shB (cut 16 f) 1) rfl rfl (by rw [← hw7]; exact hT7) (size16x _) ?_; intro w8 hT8 bel siz kee)
    rw [← hw7] at bel siz kee
    have hR8 := kee _ _ _ (by omega) hR7
    have hB8 := hB7.trans (bel.mono (by omega))
    have d8 : w8.cell? ⟨g, 0, none⟩ = some (.int .i64 (bitF f 0 : Nat)) := (bel.cell (p := ⟨g, 0, none⟩) hg6).trans d7
    clear hT7 hR7 hB7 d7 bel siz kee hw7 hgT
    try dsimp only [Act.put]
    have hb0 : bitF f 0 = f 0 / 128 := by have := HF.out 0 (by omega); unfold bitF; simp; omega
    rw [hb0] at d8
    have hf0 := HF.out 0 (by omega)
    by_cases hc : f 0 / 128 = 1
    · rw [hc] at d8
      obtain ⟨c15, f15⟩ := hT8 15 (by omega)
      have y1 : bits BinOp.xor IntKind.u8 ((shB (cut 16 f) 1 15 : Nat) : Int) 135 = ((shB (cut 16 f) 1 15 ^^^ 135 : Nat) : Int) := xor_n8 _ 135 (shB_one_lt f HF.out 15) (by omega)
      have hT9 := (hT8.set (j := 15) (v := shB (cut 16 f) 1 15 ^^^ 135) (by omega) rfl).ext (f' := dbF f) (fun j hj => by
        unfold dbF
        by_cases h15 : j = 15
        · rw [if_pos h15, if_pos h15, hc, h15]
        · rw [if_neg h15, if_neg h15, Nat.xor_zero])
      have hR9 := hR8.far (p := ⟨gT, 15, none⟩) (by simp; omega) (.int .u8 (shB (cut 16 f) 1 15 ^^^ 135 : Nat))
      have hB9 := hB8.setCell (p := ⟨gT, 15, none⟩) (by simp; omega) (.int .u8 (shB (cut 16 f) 1 15 ^^^ 135 : Nat))
      clear hT8 hR8 hB8 hc hb0 hf0
      go_wp2_with (first
        | (refine wpList_load_ar rfl _ _ rfl _ _ _ rfl hT9 Tryd.arr16x (size16x _) ?_)
        | (refine wpList_store_ar rfl _ _ _ rfl _ _ _ (dbF f) rfl rfl hR9 (size16x _) ?_; intro w10 hA hb _ _))
      refine bodyPost_ret_ar rfl rfl hA Tryd.arr16x (size16x _) rfl ⟨rfl, ?_⟩
      exact hB9.trans (hb.mono (by omega))
    · have h0 : f 0 / 128 = 0 := by omega
      rw [h0] at d8
      have hT9 := hT8.ext (f' := dbF f) (fun j hj => by
        unfold dbF
        rw [h0]; split <;> simp)
      clear hT8 hc hb0 hf0
      go_wp2_with (first
        | (refine wpList_load_ar rfl _ _ rfl _ _ _ rfl hT9 Tryd.arr16x (size16x _) ?_)
        | (refine wpList_store_ar rfl _ _ _ rfl _ _ _ (dbF f) rfl rfl hR8 (size16x _) ?_; intro w10 hA hb _ _))
      refine bodyPost_ret_ar rfl rfl hA Tryd.arr16x (size16x _) rfl ⟨rfl, ?_⟩
      exact hB8.trans (hb.mono (by omega))
end Go.Proofs.YtblhfmlgpldaeaaDoor
