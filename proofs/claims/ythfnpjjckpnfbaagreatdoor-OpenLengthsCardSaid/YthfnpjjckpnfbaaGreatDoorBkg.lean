/-
 The iterator that block.parts returns, by a walk through its text: it yields the indices, from 1 on, and the blocks of the parts, in order, as often as it is used, until a round says that it wants no more; what was there stays as it was.
-/
import Derived.Test.YthfnpjjckpnfbaaGreatDoorGbk
import Derived.Test.YthfnpjjckpnfbaaGreatDoorBwi
import Derived.RangeFuncNested
import Derived.RangeFuncBound
import Derived.RangeFuncCalls
import Derived.RangeFuncLeaves
import Derived.RangeFuncBox
import Derived.Shelf.Abstract
import Derived.OwnWalkIn
import Derived.TacticsInMore
import Derived.LoopNIn
import Derived.LoopIn
import Derived.Maps.AppendAt
namespace Go.Proofs.YthfnpjjckpnfbaaGreatDoor
open Go.RowKit Go.Shelf
set_option linter.unusedVariables false
set_option maxRecDepth 100000
attribute [local go_sem] Oper.semAt_some

/-- The byte j of the part k. -/
def pt (xs : List UInt8) (k j : Nat) : Nat := lF xs (16 * k + j)
theorem pt_lt (xs : List UInt8) (k j : Nat) : pt xs k j < 256 := lF_lt _ _
/-- What yield is handed in the round k. -/
def ptE (xs : List UInt8) (k : Nat) : Array Value := #[.int .i64 ((k + 1 : Nat) : Int), .agg (arL 16 (pt xs k)).toArray]
/-- What a round keeps: what lay below n₀, and the variable that holds the slice. -/
def KpP (n₀ Bs : Nat) (W W' : World) : Prop := Below n₀ W W' ∧ W'.heap[Bs]? = W.heap[Bs]?
theorem KpP.refl (n₀ Bs : Nat) (W : World) : KpP n₀ Bs W W := ⟨Below.refl _ _, rfl⟩
theorem KpP.trans {n₀ Bs : Nat} {A B C : World} (h : KpP n₀ Bs A B) (k : KpP n₀ Bs B C) : KpP n₀ Bs A C := ⟨h.1.trans k.1, k.2.trans h.2⟩
theorem KpP.new {n₀ Bs : Nat} {A B : World} (h : Below A.heap.size A B) (hn : n₀ ≤ A.heap.size) (hb : Bs < A.heap.size) : KpP n₀ Bs A B := ⟨h.mono hn, h.block Bs hb⟩
theorem KpP.cell {n₀ Bs : Nat} {A B : World} (h : KpP n₀ Bs A B) : B.cell? ⟨Bs, 0, none⟩ = A.cell? ⟨Bs, 0, none⟩ := by simp [World.cell?, h.2]
theorem KpP.putObj {n₀ Bs : Nat} {w : World} (hn : n₀ ≤ w.heap.size) (hb : Bs < w.heap.size) (W : World) (l : Nat) (o o' : Obj) (hl : w.heap.size ≤ l) (h : W.heap[l]? = some o) (h1 : o.isCells = false) (h2 : o.isWalk = false) : KpP n₀ Bs W (W.putObj l o') :=
 ⟨belowK_b hn W l o o' hl h h1 h2, World.putObj_heap_other (by omega)⟩
theorem grown_new {A B : World} (h : Below A.heap.size A B) : A.grownBy B none := ⟨h.os, h.tape, h.output, h.size, fun k hk _ => h.block k hk⟩
theorem abides_new {β : Type} {B0 : Nat} {J : β → World → Prop} (hJ : AbidesFrom B0 J) {s : β} {A B : World} (h : J s A) (hb : Below A.heap.size A B) : J s B := hJ s A B none h (grown_new hb) (fun r e => by cases e)
theorem sl_some {w : World} {B n : Nat} {A : Option Addr} {l : List UInt8} (h : Sl w B A n l) (hn : 0 < n) : ∃ b o, A = some ⟨b, o, none⟩ ∧ b < B := by
 obtain ⟨b, o, e, hb, _⟩ := h.2 hn
 exact ⟨b, o, e, hb⟩
/-- The cells of a part. -/
theorem pt_cells {w : World} {B n b o : Nat} {xs : List UInt8} (h : Sl w B (some ⟨b, o, none⟩) n xs) (k : Nat) (hk : 16 * k + 16 ≤ n) : ∀ j v, (arL 16 (pt xs k))[j]? = some v → w.cell? ((⟨b, o + 16 * k, none⟩ : Addr).add j) = some v := fun j v hv => by
 obtain ⟨hj, rfl⟩ := arL_get_some hv
 obtain ⟨b2, o2, e, hb, hc⟩ := h.2 (by omega)
 injection e with e
 injection e with e1 e2
 subst e1 e2
 have hl := h.len
 rw [Addr.add_mid, Nat.add_assoc, hc (16 * k + j) xs[16 * k + j] (List.getElem?_eq_getElem (by omega))]
 simp [b8, n8, pt, lF, List.getD, List.getElem?_eq_getElem (show 16 * k + j < xs.length by omega)]

set_option maxHeartbeats 2000000 in
theorem parts1 (n : Nat) (hn : 1 ≤ n) (l Bs n₀ : Nat) (A : Option Addr) (m c : Nat) (xs : List UInt8) (hm : m ≤ 1000000) (hmc : m ≤ c) (J Jx : List Nat → World → Prop) (W : World) (hJ : AbidesFrom W.heap.size J)
  (hY : ∀ pre x W1, J pre W1 → pre.length < m / 16 → YieldAt Fence.wide (n - 1) Tryz.prog l (ptE xs x) W1 fun e W' =>
   (e = .returned (.bool true) ∧ J (pre ++ [x]) W' ∧ KpP n₀ Bs W1 W') ∨ (e = .returned (.bool false) ∧ Jx (pre ++ [x]) W'))
  (hn0 : n₀ ≤ W.heap.size) (hBl : Bs < W.heap.size) (hBs : W.cell? ⟨Bs, 0, none⟩ = some (.slice A m c)) (hS : Sl W n₀ A m xs) (h0 : J [] W) :
  CallsIn Fence.wide n Tryz.prog 115 #[.func (.yield l) #[] #[], .pointer (some ⟨Bs, 0, none⟩)] W fun e W' => (∃ v, e = .returned v) ∧
   ((∃ ys, ys = List.range (m / 16) ∧ J ys W') ∨ (∃ pre, (∃ k, k ≤ m / 16 ∧ pre = List.range k) ∧ Jx pre W')) := by
 have hz := zero16x
 refine callsIn_of_wp Tryz.func115 rfl trivial ?_ rfl
 simp only [Tryz.ntmps115, List.size_toArray, List.length_cons, List.length_nil, Nat.reduceAdd, Nat.reduceSub, Array.replicate_succ, Array.replicate_zero, List.push_toArray, List.append_toArray, List.nil_append, List.cons_append]
 refine wpIn_wide.2 ?_
 obtain ⟨N, hN⟩ : ∃ N : Nat, N = m / 16 := ⟨_, rfl⟩
 have N1 : ((m : Int)).tdiv 16 = (N : Int) := by rw [Int.tdiv_eq_ediv_of_nonneg (by omega)]; omega
 have N2 : (m : Int) / 16 = (N : Int) := by omega
 rw [← hN] at hY ⊢
 have HY := Lib.hid hY
 have HJ := Lib.hid hJ
 have HN := Lib.hid hN
 clear hY hJ hN
 go_wp2_with fail
 go_loopw [8] (fun i wr => ∃ k : Nat, k ≤ N ∧ i = .int .i64 k ∧ J (List.range k) wr ∧ KpP n₀ Bs W wr ∧ n₀ ≤ wr.heap.size ∧ Bs < wr.heap.size) (fun i _ => N - (intOf i).toNat)
 case atStart => exact ⟨0, Nat.zero_le _, rfl, h0, KpP.refl _ _ _, hn0, hBl⟩
 case round =>
  obtain ⟨k, hk, rfl, hJs, hKp, hw0, hwB⟩ := hrel
  by_cases hlt : k < N
  ·have i1 : (k : Int) < (N : Int) := by omega
   have hNm := HN.out
   obtain ⟨b, off, rfl, hbn⟩ := sl_some hS (by omega)
   obtain ⟨o, ho⟩ : ∃ o : Nat, 16 * k = o := ⟨_, rfl⟩
   have o1 : wrap64 (16 * (k : Int)) = (o : Int) := by rw [IntWalk.wrap64_in _ (by omega)]; omega
   have o2 : IntKind.i64.wrap (16 * (k : Int)) = (o : Int) := by rw [wraps_i64' _ (by omega) (by omega)]; omega
   have o3 : 16 * (k : Int) = (o : Int) := by omega
   have o4 : (o : Int) ≤ (m : Int) := by omega
   have o6 : ¬ c = o := by omega
   have o5 : IntKind.i64.wrap (o : Int) = (o : Int) := wraps_i64' _ (by omega) (by omega)
   obtain ⟨gP, hgP⟩ : ∃ g : Nat, wr.heap.size = g := ⟨_, rfl⟩
   obtain ⟨w1, hw1⟩ : ∃ V : World, V = wr.alloc (.cells (arL 16 fun _ => 0).toArray 22) := ⟨_, rfl⟩
   have hW1 : Wb w1 gP 16 (fun _ => 0) 22 := by rw [hw1, ← hgP]; exact Wb.new wr 16 _ _
   have hb1 : Below wr.heap.size wr w1 := by rw [hw1]; exact (Below.refl _ _).alloc (Nat.le_refl _) _
   have c1 : w1.drew.cell? ⟨Bs, 0, none⟩ = some (.slice (some ⟨b, off, none⟩) m c) := (hb1.cell (p := ⟨Bs, 0, none⟩) hwB).trans (hKp.cell.trans hBs)
   have hsrc := Lib.hid (pt_cells ((hS.below hKp.1).below (hb1.mono hw0)) k (by omega))
   rw [ho] at hsrc
   have HW := Lib.hid (show w1.drew.heap[gP]? = some (.cells (arL 16 fun _ => 0).toArray 22 (0, 0)) from hW1)
   have HMi := Lib.hid (show (arL 16 (pt xs k)).length = Nat.min (m - o) 16 by rw [arL_len]; exact (Nat.min_eq_right (by omega)).symm)
   have HFi := Lib.hid (show 0 + (arL 16 (pt xs k)).length ≤ (arL 16 fun _ => 0).length by rw [arL_len, arL_len]; omega)
   have HSP := Lib.hid (show splice (arL 16 fun _ => 0) 0 (arL 16 (pt xs k)) = arL 16 (pt xs k) by
    rw [splice_ar 16 16 _ _ 0 (by omega)]
    exact arL_ext (fun j hj => by rw [if_pos (by omega), Nat.sub_zero]))
   have HLT := Lib.hid hlt
   have HNm := Lib.hid hNm
   have HO := Lib.hid ho
   clear hNm ho
   go_upto_region 4 with fail
   try rw [hgP]
   rw [← hw1]
   clear hw1
   go_region_law (refine step_copy_splice rfl (.tmp 11) (.tmp 15) 24 24 rfl 5 Tryz.sl8 Tryz.sz8 _ _ _ _ _ _ rfl rfl gP 0 (arL 16 fun _ => 0) 22 HW.out (arL 16 (pt xs k)) HMi.out (fun _ => ⟨rfl, ⟨b, off + o, none⟩, rfl, hsrc.out⟩) HFi.out (arL_one 16 _) gP w1.drew (Below.refl _ _) (Nat.le_refl _) ?_; intro w2 hW2 hb2)
   have hT2 : Ar w2 gP 16 (pt xs k) := by
    have h := hW2.out
    rw [HSP.out] at h
    exact Wb.ar (show Wb w2 gP 16 _ _ from h)
   have hb3 : Below wr.heap.size wr w2 := hb1.trans ((show Below wr.heap.size w1 w1.drew from (Below.refl _ _).drew).trans (hb2.mono (B' := wr.heap.size) (by omega)))
   have hJ2 := abides_new HJ.out hJs hb3
   have hKp2 := hKp.trans (KpP.new hb3 hw0 hwB)
   have hz2 := hb3.size
   clear hW2 HW hsrc HMi HFi HSP hb2 hb1 c1 hJs hKp o1 o2 o3 o4 o5 o6 hW1
   have hYk := HY.out (List.range k) k w2 hJ2 (by simpa using HLT.out)
   obtain ⟨fn, tmps, assign, body, hy, hR⟩ := hYk
   dsimp only [ptE] at hy
   have y1 : ((k + 1 : Nat) : Int) = (k : Int) + 1 := by omega
   rw [y1] at hy
   try dsimp only [Act.put]
   go_upto_region 5 with fail
   refine (wpIn_wide (n := n)).1 ?_
   gi_wp2_with (refine wpListIn_load_ar rfl _ _ rfl _ _ _ rfl hT2 Tryz.arr16x (size16x _) ?_)
   clear hy y1 hT2
   refine hR.mono ?_
   rintro e W3 (⟨rfl, hJ3, hk3⟩ | ⟨rfl, hJx3⟩)
   ·gi_wp2
    go_wp2_with fail
    go_roundw
    case rel =>
     have hs3 := hk3.1.size
     exact ⟨k + 1, by omega, by go_num, by rw [List.range_succ]; exact hJ3, hKp2.trans hk3, by omega, by omega⟩
    case measure => simp [intOf]; omega
   ·gi_wp2
    go_wp2_with fail
    refine bodyPost_ret (results_none rfl _ _ _) rfl ?_
    exact ⟨⟨_, rfl⟩, .inr ⟨_, ⟨k + 1, by omega, (List.range_succ).symm⟩, hJx3⟩⟩
  ·obtain rfl : k = N := by omega
   go_wp2_with fail
   go_end0
   exact ⟨⟨_, rfl⟩, .inl ⟨_, rfl, hJs⟩⟩

/-- The iterator of the parts has its contract: all parts, in order; or the first ones, where a round has wanted no more. -/
theorem parts_stops (n : Nat) (hn : 1 ≤ n) (Bs n₀ : Nat) (A : Option Addr) (m c : Nat) (xs : List UInt8) (hm : m ≤ 1000000) (hmc : m ≤ c) (w : World) (hn0 : n₀ ≤ w.heap.size) (hBl : Bs < w.heap.size) (hBs : w.cell? ⟨Bs, 0, none⟩ = some (.slice A m c)) (hS : Sl w n₀ A m xs) :
  SeqStopsK Fence.wide n Tryz.prog 115 #[.pointer (some ⟨Bs, 0, none⟩)] (ptE xs) (KpP n₀ Bs) (fun ys => ys = List.range (m / 16)) (fun pre => ∃ k, k ≤ m / 16 ∧ pre = List.range k) (m / 16) w := fun l J Jx W hW hJ _ hY h0 =>
 parts1 n hn l Bs n₀ A m c xs hm hmc J Jx W hJ hY (Nat.le_trans hn0 hW.size) (Nat.lt_of_lt_of_le hBl hW.size) ((hW.cell (p := ⟨Bs, 0, none⟩) hBl).trans hBs) (hS.below (hW.mono hn0)) h0

set_option maxHeartbeats 800000 in
/-- parts boxes the slice; the function that it returns captures the box. -/
theorem bparts (A : Option Addr) (n c : Nat) (w : World) :
  Calls Tryz.prog 102 #[.slice A n c] w fun e w' => e = .returned (.func (.func 115) #[] #[.pointer (some ⟨w.heap.size, 0, none⟩)]) ∧ w' = w.alloc (.cells #[.slice A n c] 24) := by
 have hmf : ∀ (fn : Fn) (first cap : Array Value) (w : World), (Instr.makeFunc fn first cap).run Tryz.prog w = .ok (.func fn first cap) w := fun _ _ _ _ => rfl
 go_enter Tryz.func102, Tryz.ntmps102
 go_wp2_with fail
 go_ret
 exact ⟨rfl, rfl⟩

set_option maxHeartbeats 800000 in
/-- All makes a copy of the slice, and its iterator. -/
theorem ball (A : Option Addr) (n c : Nat) (l : List UInt8) (w : World) (h : Sl w w.heap.size A n l) (hn : n ≤ 1000000) :
  Calls Tryz.prog 64 #[.slice A n c] w fun e w' => ∃ g Bs, e = .returned (.func (.func 115) #[] #[.pointer (some ⟨Bs, 0, none⟩)]) ∧ w.heap.size ≤ g ∧ g < Bs ∧ Bs < w'.heap.size ∧ w'.cell? ⟨Bs, 0, none⟩ = some (.slice (some ⟨g, 0, none⟩) n n) ∧ Sl w' w'.heap.size (some ⟨g, 0, none⟩) n l ∧ Below w.heap.size w w' := by
 have hlen := h.len
 go_enter Tryz.func64, Tryz.ntmps64
 go_wp2_with fail
 refine (bclone A n c l w h hn).mono ?_
 rintro e w2 ⟨rfl, hA2, hl2, hb2⟩
 go_wp2_with fail
 refine (bparts (some ⟨w.heap.size, 0, none⟩) n n w2).mono ?_
 rintro e w3 ⟨rfl, hw3⟩
 have c3 : w3.cell? ⟨w2.heap.size, 0, none⟩ = some (.slice (some ⟨w.heap.size, 0, none⟩) n n) := by rw [hw3, World.cell?_alloc_at _ _ _ _ rfl]; rfl
 have hb3 : Below w2.heap.size w2 w3 := by rw [hw3]; exact (Below.refl _ _).alloc (Nat.le_refl _) _
 have hs3 : w3.heap.size = w2.heap.size + 1 := by rw [hw3]; simp
 have hS3 : Sl w3 w3.heap.size (some ⟨w.heap.size, 0, none⟩) n l := ((Sl.of_ar hA2 hlen hl2).below hb3).more hb3.size
 have hB3 := hb2.trans (hb3.mono hb2.size)
 clear hw3 hA2 hb2 hb3
 go_wp2_with fail
 go_ret
 exact ⟨w.heap.size, w2.heap.size, rfl, Nat.le_refl _, hl2, by omega, c3, hS3, hB3⟩
end Go.Proofs.YthfnpjjckpnfbaaGreatDoor
