/-
  The walk of the law BlockSplits of layer 8: for every string of bytes and every byte it returns true, and writes nothing that was there.
-/
import Derived.Test.YtejgeefhnpeejaaBki
import Derived.Test.YtejgeefhnpeejaaBkq
import Derived.Test.YtejgeefhnpeejaaBko
import Derived.Test.YtejgeefhnpeejaaBkh
import Derived.Test.YtejgeefhnpeejaaBitr
import Derived.LoopN
import Derived.Deep.RegionHeld3
namespace Go.Proofs.Ytejgeefhnpeejaa
open Go.RowKit Go.Shelf
set_option linter.unusedVariables false
set_option maxRecDepth 100000

theorem blW_len (xs : List UInt8) : ∀ n, (blV xs (List.range n)).length = n * 16
  | 0 => rfl
  | n + 1 => by rw [List.range_succ, blV_snoc, List.length_append, blW_len xs n, arL_len]; omega
theorem blW_get (xs : List UInt8) (i j : Nat) (hj : j < 16) : ∀ n, i < n → (blV xs (List.range n))[i * 16 + j]? = some (n8 (pt xs i j))
  | 0, h => absurd h (by omega)
  | n + 1, h => by
    rw [List.range_succ, blV_snoc]
    by_cases hi : i < n
    · rw [List.getElem?_append_left (by rw [blW_len]; omega)]; exact blW_get xs i j hj n hi
    · obtain rfl : i = n := by omega
      rw [List.getElem?_append_right (by rw [blW_len]; omega), blW_len, show i * 16 + j - i * 16 = j by omega]
      exact arL_get 16 _ j hj
/-- The parts in the slice that Split returns. -/
theorem own_parts {w : World} {B : Nat} {A : Option Addr} {n c : Nat} {xs : List UInt8} (h : w.ownsRow B 22 16 (.slice A n c) n (blV xs (List.range n))) : S16 w A n (pt xs) := fun hn => by
  obtain ⟨g, cap, hv, hg, hlt⟩ := World.ownsRow.form h hn
  injection hv with e1 e2 e3
  subst e1
  refine ⟨g, 0, rfl, hlt, fun i hi j v hj => ?_⟩
  obtain ⟨hj16, rfl⟩ := arL_get_some hj
  have hc := World.ownsRow.cells h (g := g) rfl (i * 16 + j) _ (blW_get xs i j hj16 n hi)
  rw [Addr.add_mid] at hc
  rw [show 0 + i * 16 + j = 0 + (i * 16 + j) by omega]; exact hc
/-- n bytes, whatever they are. -/
def Us (w : World) (g n : Nat) : Prop := ∀ j, j < n → (∃ v : Int, w.cell? ⟨g, j, none⟩ = some (.int .u8 v)) ∧ w.frozen? ⟨g, j, none⟩ = false
theorem Us.of {w : World} {g n : Nat} {f : Nat → Nat} (h : Ar w g n f) : Us w g n := fun j hj => ⟨⟨_, (h j hj).1⟩, (h j hj).2⟩
theorem Us.to {w w' : World} {g n B : Nat} (h : Us w g n) (hg : g < B) (hb : Below B w w') : Us w' g n := fun j hj =>
  ⟨⟨_, (hb.cell (p := ⟨g, j, none⟩) hg).trans (h j hj).1.choose_spec⟩, (hb.frozen (p := ⟨g, j, none⟩) hg).trans (h j hj).2⟩
theorem Us.set {w : World} {g n k : Nat} (h : Us w g n) (hk : k < n) (z : Int) : Us (w.setCell ⟨g, k, none⟩ (.int .u8 z)) g n := fun j hj => by
  obtain ⟨⟨v, hv⟩, hf⟩ := h j hj
  obtain ⟨⟨v2, hv2⟩, hf2⟩ := h k hk
  refine ⟨?_, ?_⟩
  · by_cases e : j = k
    · subst e; exact ⟨z, World.cell?_setCell_same' _ _ _ (by rw [hv2]; rfl)⟩
    · exact ⟨v, (World.cell?_setCell_other _ _ _ _ (fun h => e (by injection h with _ h2; exact h2.symm))).trans hv⟩
  · rw [World.frozen?_setCell]; exact hf
theorem setc_box {W : World} {g g' k : Nat} {t : TypeId} {u : Value} (h : Boxed W g t u) (hne : g ≠ g') (v : Value) : Boxed (W.setCell ⟨g', k, none⟩ v) g t u := by
  refine Eq.trans ?_ h
  simp [World.setCell, Array.getElem?_modify]
  intro e
  exact absurd e.symm hne
theorem run_ef (c : Array Value) (V : World) : (binOp .eql 37 (.func (.func 27) #[] c) .nilFunc).run Try.prog V = .ok (.bool false) V := by kernel_rfl
theorem boxed_under {W W' : World} {B b : Nat} {t : TypeId} {v : Value} (h : Boxed W B t v) (hb : Below b W W') (hB : B < b) : Boxed W' B t v := (hb.block B hB).trans h
theorem kfact4 {n k N : Nat} (hN : n / 16 = N) (hk : k < N) : 16 * k + 16 ≤ n := by omega
theorem sfacts {n N o : Nat} (hn : n ≤ 1000) (hN : n / 16 = N) (ho : 16 * N = o) : ((n : Int)).tdiv 16 = (N : Int) ∧ (n : Int) / 16 = (N : Int) ∧ wrap64 (16 * (N : Int)) = (o : Int) ∧ IntKind.i64.wrap (16 * (N : Int)) = (o : Int) ∧ 16 * (N : Int) = (o : Int) ∧ IntKind.i64.wrap (o : Int) = (o : Int) ∧ o ≤ n := by
  refine ⟨by rw [Int.tdiv_eq_ediv_of_nonneg (by omega)]; omega, by omega, ?_, ?_, by omega, wraps_i64' _ (by omega) (by omega), by omega⟩
  · rw [IntWalk.wrap64_in _ (by omega)]; omega
  · rw [wraps_i64' _ (by omega) (by omega)]; omega

set_option maxHeartbeats 4000000 in
theorem bsplits (A : Option Addr) (n c : Nat) (l : List UInt8) (s : Nat) (w : World) (hS : Sl w w.heap.size A n l) (hnc : n ≤ c) (hcm : c ≤ maxLen) (hs : s < 256) :
    Calls Try.prog 5 #[.slice A n c, .int .u8 (s : Int)] w fun e w' => e = .returned (.bool true) ∧ Below w.heap.size w w' := by
  have hz := zero16x
  have heq := fun X => eqx_true (f := X) (g := X) (fun _ _ => rfl)
  have hgd := Try.eqgx
  have hlen := hS.len
  have hn63 : n ≤ 9223372036854775807 := by have h := hcm; simp [maxLen] at h; omega
  clear hcm
  obtain ⟨w1, hw1⟩ : ∃ V : World, V = w.alloc (.cells #[.slice A n c] 30) := ⟨_, rfl⟩
  obtain ⟨w2, hw2⟩ : ∃ V : World, V = w1.alloc (.cells #[.int .u8 (s : Int)] 5) := ⟨_, rfl⟩
  obtain ⟨w3, hw3⟩ : ∃ V : World, V = w2.alloc (.cells #[.bool false] 4) := ⟨_, rfl⟩
  have hs1 : w1.heap.size = w.heap.size + 1 := by rw [hw1]; simp
  have hs2 : w2.heap.size = w.heap.size + 2 := by rw [hw2]; simp [hs1]
  have hs3 : w3.heap.size = w.heap.size + 3 := by rw [hw3]; simp [hs2]
  obtain ⟨g2, hg2⟩ : ∃ g : Nat, w.heap.size = g := ⟨_, rfl⟩
  obtain ⟨g3, hg3⟩ : ∃ g : Nat, w.heap.size + 1 = g := ⟨_, rfl⟩
  obtain ⟨g4, hg4⟩ : ∃ g : Nat, w.heap.size + 2 = g := ⟨_, rfl⟩
  have b2w3 : Boxed w3 g2 30 (.slice A n c) := by rw [hw3, hw2, ← hg2]; refine ((?_ : Boxed w1 w.heap.size _ _).alloc _).alloc _; rw [hw1]; exact Boxed.new w _ _
  have b3w3 : Boxed w3 g3 5 (.int .u8 (s : Int)) := by rw [hw3, ← hg3, ← hs1]; refine Boxed.alloc ?_ _; rw [hw2]; exact Boxed.new w1 _ _
  have b4w3 : Boxed w3 g4 4 (.bool false) := by rw [hw3, ← hg4, ← hs2]; exact Boxed.new w2 _ _
  have hBw3 : Below w.heap.size w w3 := by rw [hw3, hw2, hw1]; exact (((Below.refl _ _).alloc (Nat.le_refl _) _).alloc (by simp) _).alloc (by simp; omega) _
  have hSw3 : Sl w3 w.heap.size A n l := hS.below hBw3
  have l23 : g2 < g3 := by omega
  have l34 : g3 < g4 := by omega
  have l43 : g4 < w3.heap.size := by omega
  have hlw2 : w.heap.size ≤ g2 := by omega
  clear hS
  refine (callsIn_wide (n := 5)).1 ?_
  refine callsIn_of_wp_marks Try.func5 rfl trivial ?_ rfl
  simp only [Try.ntmps5, List.size_toArray, List.length_cons, List.length_nil, Nat.reduceAdd, Nat.reduceSub, Array.replicate_succ, Array.replicate_zero, List.push_toArray, List.append_toArray, List.nil_append, List.cons_append]
  refine wpIn_wide.2 ?_
  go_upto_region 1 with fail
  rw [← hw1, ← hw2, ← hw3]
  clear hw1 hw2 hw3
  try simp only [hs1, hs2]
  try simp only [hg2]
  rw [show g2 + 1 + 1 = g4 by omega, show g2 + 1 = g3 by omega]
  clear hs1 hs2 hs3 hg3 hg4
  by_cases h1000 : n ≤ 1000
  · have i1000 : ¬ ((n : Int) > 1000) := by omega
    go_wp2_with fail
    refine (bawake _).mono ?_
    rintro e x1 ⟨rfl, hq⟩
    have b2x1 := boxed_below b2w3 hq
    have b3x1 := boxed_below b3w3 hq
    have b4x1 := boxed_below b4w3 hq
    have hSx1 := hSw3.below (hq.mono hBw3.size)
    have hBx1 := hBw3.trans (hq.mono hBw3.size)
    have l4x1 : g4 < x1.heap.size := b4x1.lt
    clear b2w3 b3w3 b4w3 hSw3 hBw3 hq l43
    have c2 := b2x1.cell
    have c3 := b3x1.cell
    have c4 := b4x1.cell
    go_wp2_with fail
    refine (bsplit A n c l x1 (hSx1.more hBx1.size) h1000 hnc).mono ?_
    rintro e x2 ⟨A1, c1, gR, rfl, hrow, hRx2, hlR, hlR2, hq⟩
    clear c2 c3 c4 
    obtain ⟨N, hN⟩ : ∃ N : Nat, n / 16 = N := ⟨_, rfl⟩
    obtain ⟨o, ho⟩ : ∃ o : Nat, 16 * N = o := ⟨_, rfl⟩
    obtain ⟨r, hr⟩ : ∃ r : Nat, n - o = r := ⟨_, rfl⟩
    simp only [hN, ho, hr] at hrow hRx2 ⊢
    obtain ⟨k1, k2, k3, k4, k5, k6, hon⟩ := sfacts h1000 hN ho
    have hXx2 := own_parts hrow
    have hUx2 := Us.of hRx2
    clear hrow
    have h1x2 := hq
    have b2x2 := boxed_below b2x1 hq
    have b3x2 := boxed_below b3x1 hq
    have b4x2 := boxed_below b4x1 hq
    have hSx2 := hSx1.below (hq.mono hBx1.size)
    have hBx2 := hBx1.trans (hq.mono hBx1.size)
    clear hq
    have hSR : Sl x2 x2.heap.size (some ⟨gR, 0, none⟩) r (l.drop o) := Sl.of_ar (hRx2.ext (fun j _ => (lF_drop l o j).symm)) (by rw [List.length_drop, hlen, hr]) hlR2
    clear hRx2
    have c2 := b2x2.cell
    have c3 := b3x2.cell
    have c4 := b4x2.cell
    go_upto_region 5 with fail
    clear c2 c3 c4 
    obtain ⟨x3, hx3⟩ : ∃ V : World, V = x2.alloc (.cells #[.int .i64 (N : Int)] 3) := ⟨_, rfl⟩
    obtain ⟨g7, hg7⟩ : ∃ g : Nat, x2.heap.size = g := ⟨_, rfl⟩
    have b7x3 : Boxed x3 g7 3 (.int .i64 (N : Int)) := by rw [hx3, ← hg7]; exact Boxed.new x2 _ _
    have hq : Below x2.heap.size x2 x3 := by rw [hx3]; exact (Below.refl _ _).alloc (Nat.le_refl _) _
    rw [← hx3, hg7]
    have l47 : g4 < g7 := by rw [← hg7]; exact b4x2.lt
    have lR7 : gR < g7 := by rw [← hg7]; exact hlR2
    have hXx3 := hXx2.to hq
    have hUx3 := hUx2.to hlR2 hq
    have hSR3 := (hSR.below hq).more hq.size
    have h1x3 := h1x2.trans (hq.mono h1x2.size)
    have b2x3 := boxed_below b2x2 hq
    have b3x3 := boxed_below b3x2 hq
    have b4x3 := boxed_below b4x2 hq
    have hSx3 := hSx2.below (hq.mono hBx2.size)
    have hBx3 := hBx2.trans (hq.mono hBx2.size)
    clear b2x2 b3x2 b4x2 hSx2 hBx2 hq hx3 hg7 hXx2 hUx2 hSR h1x2 hlR2
    obtain ⟨A9, hsl, hsl3⟩ := slice_from A n c o hon hnc
    rw [hr] at hsl
    have hS9 := hsl3 x3 _ _ (hSx3.more hBx3.size)
    rw [hr] at hS9
    have hr1000 : r ≤ 1000 := by rw [← hr]; exact Nat.le_trans (Nat.sub_le _ _) h1000
    clear hsl3
    have c2 := b2x3.cell
    have c3 := b3x3.cell
    have c4 := b4x3.cell
    have c7 := b7x3.cell
    go_wp2_with fail
    refine (same (some ⟨gR, 0, none⟩) A9 r r r (c - o) (l.drop o) (l.drop o) x3 hSR3 hS9 (Nat.le_trans hr1000 (by decide)) (Nat.le_trans hr1000 (by decide))).mono ?_
    rintro e x4 ⟨rfl, hD⟩
    rw [show decide (l.drop o = l.drop o) = true from decide_eq_true rfl]
    have hq : Below x3.heap.size x3 x4 := hD.below _
    clear c2 c3 c4 c7 
    clear hD hSR3 hS9 hsl k1 k2 k3 k4 k5 k6
    have hXx4 := hXx3.to hq
    have hUx4 := hUx3.to (Nat.lt_trans lR7 b7x3.lt) hq
    have h1x4 := h1x3.trans (hq.mono h1x3.size)
    have b2x4 := boxed_below b2x3 hq
    have b3x4 := boxed_below b3x3 hq
    have b4x4 := boxed_below b4x3 hq
    have b7x4 := boxed_below b7x3 hq
    have hSx4 := hSx3.below (hq.mono hBx3.size)
    have hBx4 := hBx3.trans (hq.mono hBx3.size)
    clear b2x3 b3x3 b4x3 b7x3 hSx3 hBx3 hq hXx3 hUx3 h1x3
    go_wp2_with fail
    go_loopw [8] (fun i wr => ∃ k : Nat, k ≤ N ∧ i = .int .i64 k ∧ Below x4.heap.size x4 wr) (fun i _ => N - (intOf i).toNat)
    case atStart => exact ⟨0, Nat.zero_le _, rfl, Below.refl _ _⟩
    case round =>
      obtain ⟨k, hk, rfl, hq⟩ := hrel
      have hXwr := hXx4.to hq
      have hUwr := hUx4.to (Nat.lt_trans lR7 b7x4.lt) hq
      have h1wr := h1x4.trans (hq.mono h1x4.size)
      have b2wr := boxed_below b2x4 hq
      have b3wr := boxed_below b3x4 hq
      have b4wr := boxed_below b4x4 hq
      have b7wr := boxed_below b7x4 hq
      have hSwr := hSx4.below (hq.mono hBx4.size)
      have hBwr := hBx4.trans (hq.mono hBx4.size)
      clear b2x4 b3x4 b4x4 b7x4 hSx4 hBx4 hXx4 hUx4
      by_cases hlt : k < N
      · have i1 : (k : Int) < (N : Int) := by omega
        obtain ⟨b, ob, hA1, hbl, hrng⟩ := hXwr (by omega)
        subst hA1
        have HK6 := Lib.hid (kfact4 hN hlt)
        obtain ⟨bA, oA, hA, hbA⟩ := sl_some hSwr (Nat.lt_of_lt_of_le (Nat.succ_pos _) HK6.out)
        subst hA
        have HN6 := Lib.hid (Nat.le_trans h1000 (show 1000 ≤ 1000000 by decide))
        have HS := Lib.hid (hSwr.more hBwr.size)
        have HbA := Lib.hid (Nat.lt_of_lt_of_le hbA hBwr.size)
        have HL2 := Lib.hid b2wr.lt
        have C2 := Lib.hid b2wr.cell
        have HQ := Lib.hid hq
        have HR := Lib.hid (show ∀ W, Below wr.heap.size wr W → W.rangeAt b (ob + k * 16) (arL 16 (pt l k)) from fun W hb j v hv => (hb.cell (p := ⟨b, ob + k * 16 + j, none⟩) hbl).trans (hrng k hlt j v hv))
        have c7 := b7wr.cell
        clear hrng hXwr hUwr hq h1wr
        go_upto_region 10 with fail
        refine wp_region_noPanic ?_
        refine wp_region_held_drew (S := fun W => Below wr.heap.size wr W) (by kernel_rfl) (Below.refl _ _).drew (fun hHeld => ?_)
        generalize World.drew wr = d at *
        refine wpAnyH_take (i := 0) (v := ?vf1) rfl (by kernel_rfl) (by kernel_rfl) (by kernel_rfl) (fun _ _ _ h => h) (Or.inl ⟨by rfl, ?hyf1⟩) (by assumption) ?restf1
        case hyf1 =>
          intro W hSw
          go_simp
          try with_reducible rfl
        simp only [Act.put, List.setIfInBounds_toArray, List.set_cons_zero, List.set_cons_succ, List.getElem_toArray, List.getElem_cons_zero]
        refine wpAnyH_take (i := 1) (v := ?vf2) rfl (by kernel_rfl) (by kernel_rfl) (by kernel_rfl) (fun _ _ _ h => h) (Or.inl ⟨by rfl, ?hyf2⟩) (by assumption) ?restf2
        case hyf2 =>
          intro W hSw
          go_simp
          try with_reducible rfl
        simp only [Act.put, List.setIfInBounds_toArray, List.set_cons_zero, List.set_cons_succ, List.getElem_toArray, List.getElem_cons_zero, List.getElem_cons_succ]
        refine wpAnyH_take (i := 2) (v := ?vf3) rfl (by kernel_rfl) (by kernel_rfl) (by kernel_rfl) (fun _ _ _ h => h) (Or.inl ⟨by rfl, ?hyf3⟩) (by assumption) ?restf3
        case hyf3 =>
          intro W hSw
          go_simp
          try with_reducible rfl
        simp only [Act.put, List.setIfInBounds_toArray, List.set_cons_zero, List.set_cons_succ, List.getElem_toArray, List.getElem_cons_zero, List.getElem_cons_succ]
        refine wpAnyH_take (i := 3) (v := .agg (arL 16 (pt l k)).toArray) rfl (by kernel_rfl) (by kernel_rfl) (by kernel_rfl) (fun _ _ _ h => h) (yieldsIf_load_mid (by rfl) _ _ rfl b ((ob + k * 16)) rfl (arL 16 (pt l k)) _ (fun W hSw => HR.out _ hSw) Try.arr16x rfl (size16x _)) (by assumption) ?_
        simp only [Act.put, List.setIfInBounds_toArray, List.set_cons_zero, List.set_cons_succ, List.getElem_toArray, List.getElem_cons_zero, List.getElem_cons_succ]
        refine wpAnyH_take (i := 4) (v := ?vf4) rfl (by kernel_rfl) (by kernel_rfl) (by kernel_rfl) (fun _ _ _ h => h) (Or.inl ⟨by rfl, ?hyf4⟩) (by assumption) ?restf4
        case hyf4 =>
          intro W hSw
          have c0 := (hSw.cell (p := ⟨g2, 0, none⟩) HL2.out).trans C2.out
          go_simp
          try with_reducible rfl
        simp only [Act.put, List.setIfInBounds_toArray, List.set_cons_zero, List.set_cons_succ, List.getElem_toArray, List.getElem_cons_zero, List.getElem_cons_succ]
        refine wpAnyH_take (i := 5) (v := ?vf5) rfl (by kernel_rfl) (by kernel_rfl) (by kernel_rfl) (fun _ _ _ h => h) (Or.inl ⟨by rfl, ?hyf5⟩) (by assumption) ?restf5
        case hyf5 =>
          intro W hSw
          go_simp
          try with_reducible rfl
        simp only [Act.put, List.setIfInBounds_toArray, List.set_cons_zero, List.set_cons_succ, List.getElem_toArray, List.getElem_cons_zero, List.getElem_cons_succ]
        refine wpAnyH_ready (rs := [6]) (by kernel_rfl) (by simp) ?_
        refine AllReadyH.cons rfl (fun K hK => ?_) AllReadyH.nil
        go_simp
        refine (refpart2 bA oA n c k (pt l k) d HK6.out hnc HN6.out (pt_cell ((HS.out).below hHeld) k HK6.out) (Nat.lt_of_lt_of_le HbA.out hHeld.size)).mono ?_
        rintro e f6 ⟨rfl, hq⟩
        go_wp2_with fail
        refine hK.out _ _ ((hHeld).trans (hq.mono (hHeld).size)) (fun hHeld2 => ?_)
        clear hK K hHeld hq
        have hHeld := hHeld2
        clear hHeld2
        try simp only [Act.put, List.setIfInBounds_toArray, List.set_cons_zero, List.set_cons_succ, List.getElem_toArray, List.getElem_cons_zero, List.getElem_cons_succ]
        refine wpAnyH_take (i := 7) (v := .bool false) rfl (by kernel_rfl) (by kernel_rfl) (by kernel_rfl) (fun _ _ _ h => h) (Or.inl ⟨by rfl, ?hyf7⟩) (by assumption) ?restf7
        case hyf7 =>
          intro W hSw
          skip
          go_simp
          try with_reducible rfl
        simp only [Act.put, List.setIfInBounds_toArray, List.set_cons_zero, List.set_cons_succ, List.getElem_toArray, List.getElem_cons_zero, List.getElem_cons_succ]
        refine wpAnyH_done (by kernel_rfl) ?_ _
        refine NoPanic.normal ?_
        go_wp2_with fail
        go_roundw
        case rel => exact ⟨k + 1, by omega, by go_num, HQ.out.trans (hHeld.mono HQ.out.size)⟩
        case measure => simp [intOf]; omega
      · have i1 : ¬ ((k : Int) < (N : Int)) := by omega
        have c7 := b7wr.cell
        go_wp2_with fail
        clear c7 hXwr i1 hlt
        obtain ⟨wo, rfl⟩ : ∃ wo, wo = wr := ⟨_, rfl⟩
        go_loopw [9] (fun i wv => ∃ q : Nat, q ≤ r ∧ i = .int .i64 q ∧ Us wv gR r ∧ Boxed wv g7 3 (.int .i64 (N : Int)) ∧ Below x1.heap.size x1 wv) (fun i _ => r - (intOf i).toNat)
        case atStart => exact ⟨0, Nat.zero_le _, rfl, hUwr, b7wr, h1wr⟩
        case round =>
          clear hUwr h1wr hq
          clear b2wr b3wr b4wr b7wr hSwr hBwr 
          obtain ⟨wv, rfl⟩ : ∃ wv, wv = wr := ⟨_, rfl⟩
          obtain ⟨q, hqr, rfl, hUwv, b7wv, h1wv⟩ := hrel
          by_cases hlt : q < r
          · have i1 : (q : Int) < (r : Int) := by omega
            obtain ⟨⟨v, hv⟩, hf⟩ := hUwv q hlt
            go_wp2_with fail
            go_roundw
            case rel => exact ⟨q + 1, by omega, by go_num, hUwv.set hlt _, setc_box b7wv (Nat.ne_of_gt lR7) _, h1wv.setCell (p := ⟨gR, q, none⟩) hlR _⟩
            case measure => simp [intOf]; omega
          · have i1 : ¬ ((q : Int) < (r : Int)) := by omega
            have b2wv := boxed_below b2x1 h1wv
            have b3wv := boxed_below b3x1 h1wv
            have b4wv := boxed_below b4x1 h1wv
            have hSwv := hSx1.below (h1wv.mono hBx1.size)
            have hBwv := hBx1.trans (h1wv.mono hBx1.size)
            clear b2x1 b3x1 b4x1 hSx1 hBx1 h1wv hUwv
            have c2 := b2wv.cell
            have c3 := b3wv.cell
            have c4 := b4wv.cell
            go_wp2_with fail
            refine (ball A n c l wv (hSwv.more hBwv.size) (Nat.le_trans h1000 (show 1000 ≤ 1000000 by decide))).mono ?_
            rintro e y ⟨gA, Bs, rfl, la, lb, lc, hBsy, hAy, hq⟩
            clear c2 c3 c4 
            have b2y := boxed_below b2wv hq
            have b3y := boxed_below b3wv hq
            have b4y := boxed_below b4wv hq
            have b7y := boxed_below b7wv hq
            have hSy := hSwv.below (hq.mono hBwv.size)
            have hBy := hBwv.trans (hq.mono hBwv.size)
            clear b2wv b3wv b4wv b7wv hSwv hBwv hq i1 hlt
            have hne := run_ef
            go_upto_region 20 with fail
            clear hne
            obtain ⟨y1, hy1⟩ : ∃ V : World, V = y.alloc (.cells #[.int .i64 0] 3) := ⟨_, rfl⟩
            obtain ⟨g11, hg11⟩ : ∃ g : Nat, y.heap.size = g := ⟨_, rfl⟩
            have bby1 : Boxed y1 g11 3 (.int .i64 0) := by rw [hy1, ← hg11]; exact Boxed.new y _ _
            have hq : Below y.heap.size y y1 := by rw [hy1]; exact (Below.refl _ _).alloc (Nat.le_refl _) _
            rw [← hy1, hg11]
            clear hy1
            have l711 : g7 < g11 := by rw [← hg11]; exact b7y.lt
            have lB11 : Bs < g11 := by rw [← hg11]; exact lc
            have hBsy1 := (hq.cell (p := ⟨Bs, 0, none⟩) lc).trans hBsy
            have hAy1 := (hAy.below hq).more hq.size
            have b11y1 := bby1
            have b2y1 := boxed_below b2y hq
            have b3y1 := boxed_below b3y hq
            have b4y1 := boxed_below b4y hq
            have b7y1 := boxed_below b7y hq
            have hSy1 := hSy.below (hq.mono hBy.size)
            have hBy1 := hBy.trans (hq.mono hBy.size)
            clear b2y b3y b4y b7y hSy hBy hq bby1 hBsy hAy hg11 la lb lc
            have c2 := b2y1.cell
            have c3 := b3y1.cell
            have c4 := b4y1.cell
            have c7 := b7y1.cell
            have c11 := b11y1.cell
            have l0 : w.heap.size < g11 := by omega
            refine wp_loop_rounds 3 ?_
            rw [rounds_succ]
            go_wp2_with fail
            clear c2 c3 c4 c7 c11 
            obtain ⟨y2, hy2⟩ : ∃ V : World, V = y1.alloc (.cells #[.int .i64 0] 3) := ⟨_, rfl⟩
            obtain ⟨g12, hg12⟩ : ∃ g : Nat, y1.heap.size = g := ⟨_, rfl⟩
            have bby2 : Boxed y2 g12 3 (.int .i64 0) := by rw [hy2, ← hg12]; exact Boxed.new y1 _ _
            have hq : Below y1.heap.size y1 y2 := by rw [hy2]; exact (Below.refl _ _).alloc (Nat.le_refl _) _
            rw [← hy2, hg12]
            clear hy2
            have l1112 : g11 < g12 := by rw [← hg12]; exact b11y1.lt
            have hAy2 : Sl y2 g12 (some ⟨gA, 0, none⟩) n l := by rw [← hg12]; exact hAy1.below hq
            have hBsy2 := (hq.cell (p := ⟨Bs, 0, none⟩) (show Bs < y1.heap.size by omega)).trans hBsy1
            have b2y2 := boxed_below b2y1 hq
            have b3y2 := boxed_below b3y1 hq
            have b4y2 := boxed_below b4y1 hq
            have b7y2 := boxed_below b7y1 hq
            have b11y2 := boxed_below b11y1 hq
            have hSy2 := hSy1.below (hq.mono hBy1.size)
            have hBy2 := hBy1.trans (hq.mono hBy1.size)
            clear b2y1 b3y1 b4y1 b7y1 b11y1 hSy1 hBy1 hq hAy1 hBsy1 hg12
            refine splitsRange A n c l s N 0 g2 g3 g4 g7 g11 g12 gA Bs h1000 hnc hN.symm hs (by decide) (by omega) (by omega) (by omega) (by omega) (by omega) (by omega) b2y2.cell b3y2.cell b4y2 b7y2.cell b11y2.cell bby2 (hSy2.more (by omega)) hAy2 hBsy2 ?_
            rintro D1 k1 z hDz hdz hkz hkNz hρz hq
            have b2z := boxed_under b2y2 hq (by omega)
            have b3z := boxed_under b3y2 hq (by omega)
            have b4z := boxed_under b4y2 hq (by omega)
            have b7z := boxed_under b7y2 hq (by omega)
            have b11z := boxed_under b11y2 hq (by omega)
            have hSz := hSy2.below (hq.mono (by omega))
            have hBz := hBy2.trans (hq.mono (by omega))
            have hAz := hAy2.below hq
            have hBsz := (hq.cell (p := ⟨Bs, 0, none⟩) (show Bs < g12 by omega)).trans hBsy2
            have lgy2 : g12 < y2.heap.size := bby2.lt
            clear b2y2 b3y2 b4y2 b7y2 b11y2 hSy2 hBy2 hAy2 hBsy2 bby2 hkz hkNz hρz hq
            have c2 := b2z.cell
            have c3 := b3z.cell
            have c4 := b4z.cell
            have c7 := b7z.cell
            have c11 := b11z.cell
            have lD1 : D1 < z.heap.size := (Array.getElem?_eq_some_iff.1 hdz).1
            have lyD1 : g12 < D1 := Nat.lt_of_lt_of_le lgy2 hDz
            go_wp2_with fail
            clear c2 c3 c4 c7 c11 
            obtain ⟨z1, hz1⟩ : ∃ V : World, V = z.alloc (.cells #[.int .i64 1] 3) := ⟨_, rfl⟩
            obtain ⟨gi, hgi⟩ : ∃ g : Nat, z.heap.size = g := ⟨_, rfl⟩
            have bbz1 : Boxed z1 gi 3 (.int .i64 1) := by rw [hz1, ← hgi]; exact Boxed.new z _ _
            have hq : Below z.heap.size z z1 := by rw [hz1]; exact (Below.refl _ _).alloc (Nat.le_refl _) _
            rw [← hz1, hgi]
            clear hz1
            have lDi : D1 < gi := by rw [← hgi]; exact lD1
            have lzi : z.heap.size ≤ gi := by rw [← hgi]; exact Nat.le_refl _
            have hdz1 := (hq.block D1 (show D1 < z.heap.size from lD1)).trans hdz
            have hAz1 := (hAz.more (show g12 ≤ z.heap.size by omega)).below hq
            have hBsz1 := (hq.cell (p := ⟨Bs, 0, none⟩) (show Bs < z.heap.size by omega)).trans hBsz
            have b2z1 := boxed_below b2z hq
            have b3z1 := boxed_below b3z hq
            have b4z1 := boxed_below b4z hq
            have b7z1 := boxed_below b7z hq
            have hSz1 := hSz.below (hq.mono hBz.size)
            have hBz1 := hBz.trans (hq.mono hBz.size)
            have b11z1 := bbz1
            clear b2z b3z b4z b7z b11z hSz hBz hq hAz hBsz hdz hDz lD1 bbz1 hgi
            have c2 := b2z1.cell
            have c3 := b3z1.cell
            have c4 := b4z1.cell
            have c7 := b7z1.cell
            have c11 := b11z1.cell
            rw [rounds_succ]
            go_wp2_with fail
            clear c2 c3 c4 c7 c11 
            obtain ⟨z2, hz2⟩ : ∃ V : World, V = z1.alloc (.cells #[.int .i64 0] 3) := ⟨_, rfl⟩
            obtain ⟨gj, hgj⟩ : ∃ g : Nat, z1.heap.size = g := ⟨_, rfl⟩
            have bbz2 : Boxed z2 gj 3 (.int .i64 0) := by rw [hz2, ← hgj]; exact Boxed.new z1 _ _
            have hq : Below z1.heap.size z1 z2 := by rw [hz2]; exact (Below.refl _ _).alloc (Nat.le_refl _) _
            rw [← hz2, hgj]
            clear hz2
            have lij : gi < gj := by rw [← hgj]; exact b11z1.lt
            have hAz2 : Sl z2 gj (some ⟨gA, 0, none⟩) n l := (hAz1.more (show z.heap.size ≤ gj by rw [← hgj]; exact Nat.le_of_lt (Nat.lt_of_le_of_lt lzi (b11z1.lt)))).below (by rw [← hgj]; exact hq)
            have hBsz2 := (hq.cell (p := ⟨Bs, 0, none⟩) (show Bs < z1.heap.size by omega)).trans hBsz1
            have hdz2 := (hq.block D1 (show D1 < z1.heap.size by omega)).trans hdz1
            have b2z2 := boxed_below b2z1 hq
            have b3z2 := boxed_below b3z1 hq
            have b4z2 := boxed_below b4z1 hq
            have b7z2 := boxed_below b7z1 hq
            have b11z2 := boxed_below b11z1 hq
            have hSz2 := hSz1.below (hq.mono hBz1.size)
            have hBz2 := hBz1.trans (hq.mono hBz1.size)
            have lgz2 : gj < z2.heap.size := bbz2.lt
            clear b2z1 b3z1 b4z1 b7z1 b11z1 hSz1 hBz1 hq hAz1 hBsz1 hdz1 hgj
            refine splitsRange A n c l s N 1 g2 g3 g4 g7 gi gj gA Bs h1000 hnc hN.symm hs (by decide) (by omega) (by omega) (by omega) (by omega) (by omega) (by omega) b2z2.cell b3z2.cell b4z2 b7z2.cell b11z2.cell bbz2 (hSz2.more (by omega)) hAz2 hBsz2 ?_
            rintro D2 k2 u hDu hdu hku hkNu hρu hq
            have b2u := boxed_under b2z2 hq (by omega)
            have b3u := boxed_under b3z2 hq (by omega)
            have b4u := boxed_under b4z2 hq (by omega)
            have b7u := boxed_under b7z2 hq (by omega)
            have b11u := boxed_under b11z2 hq (by omega)
            have hSu := hSz2.below (hq.mono (by omega))
            have hBu := hBz2.trans (hq.mono (by omega))
            have hAu := hAz2.below hq
            have hBsu := (hq.cell (p := ⟨Bs, 0, none⟩) (show Bs < gj by omega)).trans hBsz2
            have hdu1 := (hq.block D1 (show D1 < gj by omega)).trans hdz2
            rw [hρu rfl] at hku
            have lD2 : gj < D2 := Nat.lt_of_lt_of_le lgz2 hDu
            clear b2z2 b3z2 b4z2 b7z2 b11z2 hSz2 hBz2 hAz2 hBsz2 bbz2 hρu hkNu hdz2 hDu hq hAu hBsu
            have c2 := b2u.cell
            have c3 := b3u.cell
            have c4 := b4u.cell
            have c7 := b7u.cell
            have c11 := b11u.cell
            have f4 := b4u.frozen
            have c12 := hku.cell
            have lwD : w.heap.size < g12 := by omega
            go_wp2_with fail
            clear c2 c3 c4 c7 c11 f4
            clear c12
            obtain ⟨v, hv⟩ : ∃ V : World, V = u.alloc (.cells #[.int .i64 2] 3) := ⟨_, rfl⟩
            obtain ⟨gk, hgk⟩ : ∃ g : Nat, u.heap.size = g := ⟨_, rfl⟩
            have bbv : Boxed v gk 3 (.int .i64 2) := by rw [hv, ← hgk]; exact Boxed.new u _ _
            have hq : Below u.heap.size u v := by rw [hv]; exact (Below.refl _ _).alloc (Nat.le_refl _) _
            rw [← hv, hgk]
            clear hv
            have lD2u : D2 < u.heap.size := (Array.getElem?_eq_some_iff.1 hdu).1
            have hdv := (hq.block D2 lD2u).trans hdu
            have hdv1 := (hq.block D1 (show D1 < u.heap.size by omega)).trans hdu1
            have b2v := boxed_below b2u hq
            have b3v := boxed_below b3u hq
            have b4v := boxed_below b4u hq
            have b7v := boxed_below b7u hq
            have hSv := hSu.below (hq.mono hBu.size)
            have hBv := hBu.trans (hq.mono hBu.size)
            have b11v := bbv
            clear b2u b3u b4u b7u b11u hSu hBu hq hdu hdu1 hku bbv hgk
            have b5 := b4v.set (.bool true)
            have hB5 : Below w.heap.size w (World.setCell v ⟨g4, 0, none⟩ (.bool true)) := hBv.setCell (p := ⟨g4, 0, none⟩) (show w.heap.size ≤ g4 by omega) _
            have hd1 := (KeepsOthers.setCell v ⟨g4, 0, none⟩ (.bool true)).same D1 _ hdv1 rfl
            have hd2 := (KeepsOthers.setCell v ⟨g4, 0, none⟩ (.bool true)).same D2 _ hdv rfl
            have c2 := b2v.cell
            have c3 := b3v.cell
            have c4 := b4v.cell
            have c7 := b7v.cell
            have c11 := b11v.cell
            have f4 := b4v.frozen
            rw [rounds_succ]
            go_wp2_with fail
            clear c2 c3 c4 c7 c11 f4
            generalize World.setCell v ⟨g4, 0, none⟩ (.bool true) = v2 at *
            refine ⟨by simp, .inl ⟨_, _, rfl, run_takeDeferred hd2, ?_⟩⟩
            have e1 : (v2.putObj D2 (.deferred none)).heap[D1]? = v2.heap[D1]? := World.putObj_heap_other (by omega)
            have e4 : (v2.putObj D2 (.deferred none)).heap[g4]? = v2.heap[g4]? := World.putObj_heap_other (by omega)
            refine ⟨by simp, .inl ⟨_, _, rfl, run_takeDeferred (e1.trans hd1), ?_⟩⟩
            have e5 : ((v2.putObj D2 (.deferred none)).putObj D1 (.deferred none)).heap[g4]? = (v2.putObj D2 (.deferred none)).heap[g4]? := World.putObj_heap_other (by omega)
            have b6 : Boxed ((v2.putObj D2 (.deferred none)).putObj D1 (.deferred none)) g4 4 (.bool true) := (e5.trans e4).trans b5
            have c5 := b6.cell
            have hB6 := hB5.trans (belowK_b (w := w) (Nat.le_refl _) v2 D2 _ (.deferred none) (by omega) hd2 rfl rfl)
            have hB7 := hB6.trans (belowK_b (w := w) (Nat.le_refl _) (v2.putObj D2 (.deferred none)) D1 _ (.deferred none) (by omega) (e1.trans hd1) rfl rfl)
            refine ⟨.bool true, ?_, rfl, hB7⟩
            simp [results, Try.f5, go_sem, c5]
  · have i1000 : (n : Int) > 1000 := by omega
    go_wp2_with fail
    refine (bawake _).mono ?_
    rintro e x1 ⟨rfl, hq⟩
    have b2x1 := boxed_below b2w3 hq
    have b3x1 := boxed_below b3w3 hq
    have b4x1 := boxed_below b4w3 hq
    have hSx1 := hSw3.below (hq.mono hBw3.size)
    have hBx1 := hBw3.trans (hq.mono hBw3.size)
    clear b2w3 b3w3 b4w3 hSw3 hBw3 hq
    have c2 := b2x1.cell
    have c3 := b3x1.cell
    have c4 := b4x1.cell
    go_wp2_with fail
    refine (bawake _).mono ?_
    rintro e x2 ⟨rfl, hq⟩
    clear c2 c3 c4 
    have b2x2 := boxed_below b2x1 hq
    have b3x2 := boxed_below b3x1 hq
    have b4x2 := boxed_below b4x1 hq
    have hSx2 := hSx1.below (hq.mono hBx1.size)
    have hBx2 := hBx1.trans (hq.mono hBx1.size)
    clear b2x1 b3x1 b4x1 hSx1 hBx1 hq
    have b5 := b4x2.set (.bool true)
    have hB5 : Below w.heap.size w (World.setCell x2 ⟨g4, 0, none⟩ (.bool true)) := hBx2.setCell (p := ⟨g4, 0, none⟩) (by simp; omega) _
    have c4 := b4x2.cell
    have f4 := b4x2.frozen
    go_wp2_with fail
    have c5 := b5.cell
    refine ⟨.bool true, ?_, rfl, hB5⟩
    simp [results, Try.f5, go_sem, c5]
end Go.Proofs.Ytejgeefhnpeejaa
