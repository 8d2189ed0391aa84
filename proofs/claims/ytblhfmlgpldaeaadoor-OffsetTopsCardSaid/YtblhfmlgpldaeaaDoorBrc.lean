/-
  Contract of Of in the reference package of layer 8, by a walk through its text: the block of 128 bits; what was there stays as it was.
-/
import Derived.Test.YtblhfmlgpldaeaaDoorBrb
import Derived.BigRegion
import Derived.Deep.Cut
import Derived.Deep.RegionHeld3
namespace Go.Proofs.YtblhfmlgpldaeaaDoor
open Go.RowKit
set_option linter.unusedVariables false
set_option maxRecDepth 100000

theorem Tryd.arr16x : Tryd.prog.underlying 22 = some (.array 16 5) := by kernel_rfl
theorem Tryd.zero16x : (Tryd.prog.info? 22).map (fun i => (i.zero, i.size)) = some (some (.agg (Array.replicate 16 (.int .u8 0))), 16) := by kernel_rfl
theorem size16x (f : Nat → Nat) : (Tryd.prog.info? 22).map (·.size) = some (arL 16 f).length := by rw [arL_len]; exact (zero_of_info Tryd.zero16x).2
theorem zero16x (w : World) : (zeroValue 22).run Tryd.prog w = .ok (.agg (arL 16 fun _ => 0).toArray) w := by
  rw [arL_zero]; exact (zero_of_info Tryd.zero16x).1 w
/-- The first m bits of the byte j. -/
def pre8 (l : Nat → Nat) (j : Nat) : Nat → Nat
  | 0 => 0
  | m + 1 => pre8 l j m * 2 + l (8 * j + m)
theorem pre8_all (l : Nat → Nat) (j : Nat) : pre8 l j 8 = by8 l j := by simp [pre8, by8]
theorem pre8_lt (l : Nat → Nat) (hl : ∀ k, k < 128 → l k < 2) (j : Nat) (hj : j < 16) : ∀ m, m ≤ 8 → pre8 l j m < 2 ^ m
  | 0, _ => by simp [pre8]
  | m + 1, h => by
    have h1 := pre8_lt l hl j hj m (by omega)
    have h2 := hl (8 * j + m) (by omega)
    rw [pre8, Nat.pow_succ]; omega
/-- The bytes after i bits. -/
def pbF (l : Nat → Nat) (i j : Nat) : Nat := pre8 l j (min 8 (i - 8 * j))
theorem pbF_zero (l : Nat → Nat) (j : Nat) : pbF l 0 j = 0 := by simp [pbF, pre8]
theorem pbF_all (l : Nat → Nat) (j : Nat) (hj : j < 16) : pbF l 128 j = by8 l j := by rw [pbF, show min 8 (128 - 8 * j) = 8 by omega, pre8_all]
theorem pbF_at (l : Nat → Nat) (i q : Nat) (hq : q = i / 8) : pbF l i q = pre8 l q (i % 8) := by rw [pbF, show min 8 (i - 8 * q) = i % 8 by omega]
theorem pbF_step (l : Nat → Nat) (i q j : Nat) (hq : q = i / 8) : (if j = q then pbF l i q * 2 + l i else pbF l i j) = pbF l (i + 1) j := by
  by_cases h : j = q
  · subst h
    rw [if_pos rfl, pbF_at l i j hq, pbF, show min 8 (i + 1 - 8 * j) = i % 8 + 1 by omega, pre8, show 8 * j + i % 8 = i by omega]
  · rw [if_neg h, pbF, pbF, show min 8 (i + 1 - 8 * j) = min 8 (i - 8 * j) by omega]

set_option maxHeartbeats 1600000 in
theorem refofb (l : Nat → Nat) (g o n c : Nat) (w : World) (hn : 128 ≤ n) (hl : ∀ k, k < 128 → l k < 2) (hA : ∀ k, k < 128 → w.cell? ⟨g, o + k, none⟩ = some (.int .i64 (l k : Nat))) (hg : g < w.heap.size) :
    Calls Tryd.prog 42 #[.slice (some ⟨g, o, none⟩) n c] w fun e w' => e = .returned (.agg (arL 16 (by8 l)).toArray) ∧ Below w.heap.size w w' := by
  have hz := zero16x
  obtain ⟨w2, hw2⟩ : ∃ w2 : World, w2 = w.alloc (.cells (arL 16 fun _ => 0).toArray 22) := ⟨_, rfl⟩
  have hs2 : w2.heap.size = w.heap.size + 1 := by rw [hw2]; simp
  have hb2 : Below w.heap.size w w2 := by rw [hw2]; exact (Below.refl _ _).alloc (by omega) _
  have hR2 : Ar w2 w.heap.size 16 (fun _ => 0) := by rw [hw2]; exact Ar.new w 16 _ _
  obtain ⟨w3, hw3⟩ : ∃ w3 : World, w3 = w2.alloc (.cells (arL 16 fun _ => 0).toArray 22) := ⟨_, rfl⟩
  have hb3 : Below w.heap.size w w3 := by rw [hw3]; exact hb2.alloc (by omega) _
  have hT3 : Ar w3 (w.heap.size + 1) 16 (fun _ => 0) := by rw [hw3, ← hs2]; exact Ar.new w2 16 _ _
  have hR3 : Ar w3 w.heap.size 16 (fun _ => 0) := by rw [hw3]; exact hR2.alloc (by omega) _
  clear hb2 hR2
  have HA := Lib.hid hA
  have HL := Lib.hid hl
  clear hA hl
  go_enter Tryd.func42, Tryd.ntmps42
  go_upto_region 2 with fail
  rw [← hw2, ← hw3]
  clear hw2 hw3 hs2
  obtain ⟨gT, hgT⟩ : ∃ gT : Nat, w.heap.size + 1 = gT := ⟨_, rfl⟩
  have hge : w.heap.size < gT := by omega
  rw [hgT] at hT3
  rw [hgT]
  clear hgT
  go_wp2_with fail
  go_loopw [4] (fun i wr => ∃ k : Nat, k ≤ 128 ∧ i = .int .i64 k ∧ Ar wr w.heap.size 16 (fun _ => 0) ∧ Ar wr gT 16 (pbF l k) ∧ Below w.heap.size w wr) (fun i _ => 128 - (intOf i).toNat)
  case atStart => exact ⟨0, Nat.zero_le _, rfl, hR3, hT3.ext (fun j _ => (pbF_zero l j).symm), hb3⟩
  case round =>
    clear hR3 hT3 hb3
    obtain ⟨k, hk, rfl, hR, hT, hB⟩ := hrel
    by_cases hlt : k < 128
    · have i1 : (k : Int) < 128 := by omega
      obtain ⟨q, hq⟩ : ∃ q : Nat, q = k / 8 := ⟨_, rfl⟩
      have q2 : (k : Int) / 8 = (q : Int) := by omega
      have q3 : (q : Int) < 16 := by omega
      have i4 : (k : Int) < (n : Int) := by omega
      have c0 : wr.cell? ⟨g, o + k, none⟩ = some (.int .i64 (l k : Nat)) := (hB.cell (p := ⟨g, o + k, none⟩) hg).trans (HA.out k hlt)
      obtain ⟨c1, f1⟩ := hT q (by omega)
      have y2 := HL.out k hlt
      have x2 : pbF l k q < 128 := by
        rw [pbF_at l k q hq]
        have h1 := pre8_lt l HL.out q (by omega) (k % 8) (by omega)
        have h2 : 2 ^ (k % 8) ≤ 2 ^ 7 := Nat.pow_le_pow_right (by omega) (by omega)
        omega
      have hT2 := Lib.hid ((hT.set (j := q) (v := pbF l k q * 2 + l k) (by omega) rfl).ext (f' := pbF l (k + 1)) (fun j _ => pbF_step l k q j hq))
      have hR2 := Lib.hid (hR.far (p := ⟨gT, q, none⟩) (by simp; omega) (.int .u8 (pbF l k q * 2 + l k : Nat)))
      have hB2 := Lib.hid (hB.setCell (p := ⟨gT, q, none⟩) (by simp; omega) (.int .u8 (pbF l k q * 2 + l k : Nat)))
      generalize pbF l k q = x at *
      generalize l k = y at *
      have e1 : ((x * 2 + y : Nat) : Int) = (x : Int) * 2 + (y : Int) := by omega
      rw [e1] at hT2 hR2 hB2
      clear hT hR hB hq hn e1
      go_wp2_with fail
      refine wp_region_noPanic ?_
      go_big_region
      refine NoPanic.normal ?_
      clear q2 q3
      go_wp2_with fail
      go_roundw
      case rel => exact ⟨k + 1, by omega, by go_num, hR2.out.drew, hT2.out.drew, hB2.out.drew⟩
      case measure => simp [intOf]; omega
    · obtain rfl : k = 128 := by omega
      have hT2 := hT.ext (f' := by8 l) (fun j hj => pbF_all l j hj)
      clear hT
      go_wp2_with (first
        | (refine wpList_load_ar rfl _ _ rfl _ _ _ rfl hT2 Tryd.arr16x (size16x _) ?_)
        | (refine wpList_store_ar rfl _ _ _ rfl _ _ _ (by8 l) rfl rfl hR (size16x _) ?_; intro w8 hA8 hb8 _ _))
      refine bodyPost_ret_ar rfl rfl hA8 Tryd.arr16x (size16x _) rfl ⟨rfl, ?_⟩
      exact hB.trans (hb8.mono (by omega))
end Go.Proofs.YtblhfmlgpldaeaaDoor
