/-
  Contract of Shift in the reference package of layer 6, by a walk through its text; what was there stays as it was.
-/
import Derived.Test.YtghcpfcomhfppaaDoorCrc
namespace Go.Proofs.YtghcpfcomhfppaaDoor
open Go.RowKit
set_option linter.unusedVariables false
set_option maxRecDepth 100000

/-- Rows ahead of r are moved, row r by n. -/
def shP (f : Nat → Nat) (r n m : Nat) : Nat := if m / 4 < r then f (m / 4 * 4 + (m % 4 + m / 4) % 4) else if m / 4 = r then f (r * 4 + (m % 4 + n) % 4) else f m
theorem shP_next (f : Nat → Nat) (r m : Nat) : shP f r r m = shP f (r + 1) 0 m := by
  unfold shP
  by_cases h1 : m / 4 < r
  · rw [if_pos h1, if_pos (by omega)]
  · rw [if_neg h1]
    by_cases h2 : m / 4 = r
    · rw [if_pos h2, if_pos (by omega), h2]
    · rw [if_neg h2, if_neg (by omega)]
      by_cases h3 : m / 4 = r + 1
      · rw [if_pos h3]; congr 1; omega
      · rw [if_neg h3]
theorem shP_start (f : Nat → Nat) (m : Nat) (hm : m < 16) : f m = shP f 1 0 m := by
  unfold shP
  by_cases h1 : m / 4 < 1
  · rw [if_pos h1]; congr 1; omega
  · rw [if_neg h1]
    by_cases h2 : m / 4 = 1
    · rw [if_pos h2]; congr 1; omega
    · rw [if_neg h2]
theorem shP_end (f : Nat → Nat) (m : Nat) (hm : m < 16) : shP f 4 0 m = tr (shF (tr f)) m := by
  have H : ∀ m, m < 16 → m / 4 * 4 + (m % 4 + m / 4) % 4 = 4 * ((4 * (m % 4) + m / 4 + 4 * ((4 * (m % 4) + m / 4) % 4)) % 16 % 4) + (4 * (m % 4) + m / 4 + 4 * ((4 * (m % 4) + m / 4) % 4)) % 16 / 4 := by decide
  unfold shP tr shF
  rw [if_pos (by omega), H m hm]
theorem shP_row (f : Nat → Nat) (r n k : Nat) (hk : k < 4) : shP f r n (r * 4 + k) = f (r * 4 + (k + n) % 4) := by
  unfold shP
  rw [if_neg (by omega), if_pos (by omega)]
  congr 1; omega
theorem shP_step (f : Nat → Nat) (r n m : Nat) :
    (if m = r * 4 + 3 then f (r * 4 + n % 4) else if m = r * 4 + 2 then f (r * 4 + (3 + n) % 4) else if m = r * 4 + 1 then f (r * 4 + (2 + n) % 4) else if m = r * 4 then f (r * 4 + (1 + n) % 4) else shP f r n m) = shP f r (n + 1) m := by
  have h : ∀ k, k < 4 → m = r * 4 + k → shP f r (n + 1) m = f (r * 4 + (k + (n + 1)) % 4) := fun k hk e => by rw [e]; exact shP_row f r (n + 1) k hk
  by_cases h3 : m = r * 4 + 3
  · rw [if_pos h3, h 3 (by omega) h3]; congr 1; omega
  rw [if_neg h3]
  by_cases h2 : m = r * 4 + 2
  · rw [if_pos h2, h 2 (by omega) h2]; congr 1; omega
  rw [if_neg h2]
  by_cases h1 : m = r * 4 + 1
  · rw [if_pos h1, h 1 (by omega) h1]; congr 1; omega
  rw [if_neg h1]
  by_cases h0 : m = r * 4
  · rw [if_pos h0, h 0 (by omega) h0]; congr 1; omega
  rw [if_neg h0]
  unfold shP
  by_cases h4 : m / 4 < r
  · rw [if_pos h4, if_pos h4]
  · rw [if_neg h4, if_neg h4, if_neg (by omega), if_neg (by omega)]
theorem Ar.set4c {w : World} {g n o v0 v1 v2 v3 : Nat} {f : Nat → Nat} (h : Ar w g n f) (ho : o + 3 < n) :
    Ar ((((w.setCell ⟨g, o, none⟩ (.int .u8 (v0 : Int))).setCell ⟨g, o + 1, none⟩ (.int .u8 (v1 : Int))).setCell ⟨g, o + 2, none⟩ (.int .u8 (v2 : Int))).setCell ⟨g, o + 3, none⟩ (.int .u8 (v3 : Int))) g n
      (fun i => if i = o + 3 then v3 else if i = o + 2 then v2 else if i = o + 1 then v1 else if i = o then v0 else f i) :=
  (((h.set (v := v0) (by omega) rfl).set (v := v1) (by omega) rfl).set (v := v2) (by omega) rfl).set (v := v3) (by omega) rfl
theorem Ar.far4c {w : World} {g g' n o o1 o2 o3 : Nat} {v0 v1 v2 v3 : Value} {f : Nat → Nat} (h : Ar w g n f) (hg : g' ≠ g) :
    Ar ((((w.setCell ⟨g', o, none⟩ v0).setCell ⟨g', o1, none⟩ v1).setCell ⟨g', o2, none⟩ v2).setCell ⟨g', o3, none⟩ v3) g n f :=
  (((h.far (p := ⟨g', o, none⟩) hg _).far (p := ⟨g', o1, none⟩) hg _).far (p := ⟨g', o2, none⟩) hg _).far (p := ⟨g', o3, none⟩) hg _
theorem below_set4c {B : Nat} {a w : World} {g' o o1 o2 o3 : Nat} {v0 v1 v2 v3 : Value} (h : Below B a w) (hg : B ≤ g') :
    Below B a ((((w.setCell ⟨g', o, none⟩ v0).setCell ⟨g', o1, none⟩ v1).setCell ⟨g', o2, none⟩ v2).setCell ⟨g', o3, none⟩ v3) :=
  (((h.setCell (p := ⟨g', o, none⟩) hg _).setCell (p := ⟨g', o1, none⟩) hg _).setCell (p := ⟨g', o2, none⟩) hg _).setCell (p := ⟨g', o3, none⟩) hg _

set_option maxHeartbeats 1600000 in
theorem refShift6 (f : Nat → Nat) (w : World) (hf : B16 f) :
    Calls Tryd.prog 20 #[.agg (arL 16 f).toArray] w fun e w' => e = .returned (.agg (arL 16 (tr (shF (tr f)))).toArray) ∧ Below w.heap.size w w' := by
  have hz := zeroG
  obtain ⟨kA, hkA⟩ : ∃ kA : Array Value, (arL 16 f).toArray = kA := ⟨_, rfl⟩
  obtain ⟨w1, hw1⟩ : ∃ w1 : World, w1 = w.alloc (.cells (arL 16 f).toArray 34) := ⟨_, rfl⟩
  have hs1 : w1.heap.size = w.heap.size + 1 := by rw [hw1]; simp
  have hb1 : Below w.heap.size w w1 := by rw [hw1]; exact (Below.refl _ _).alloc (Nat.le_refl _) _
  have hG1 : Ar w1 w.heap.size 16 f := by rw [hw1]; exact Ar.new w 16 f _
  obtain ⟨w3, hw3⟩ : ∃ w3 : World, w3 = w1.alloc (.cells (arL 16 fun _ => 0).toArray 34) := ⟨_, rfl⟩
  have hb3 : Below w.heap.size w w3 := by rw [hw3]; exact hb1.alloc (by omega) _
  have hR3 : Ar w3 (w.heap.size + 1) 16 (fun _ => 0) := by rw [hw3, ← hs1]; exact Ar.new w1 16 _ _
  have hG3 : Ar w3 w.heap.size 16 f := by rw [hw3]; exact hG1.alloc (by omega) _
  rw [hkA] at hw1
  rw [hkA]
  clear hb1 hG1 hkA
  go_enter Tryd.func20, Tryd.ntmps20
  go_upto_region 1 with fail
  rw [← hw1, ← hw3]
  clear hw1 hw3 hs1
  go_wp2_with fail
  go_loopw [3] (fun i wr => ∃ r : Nat, 1 ≤ r ∧ r ≤ 4 ∧ i = .int .i64 r ∧ Ar wr w.heap.size 16 (shP f r 0) ∧ Ar wr (w.heap.size + 1) 16 (fun _ => 0) ∧ Below w.heap.size w wr) (fun i _ => 4 - (intOf i).toNat)
  case atStart => exact ⟨1, by omega, by omega, rfl, hG3.ext (shP_start f), hR3, hb3⟩
  case round =>
    clear hG3 hR3 hb3
    obtain ⟨r, hr1, hr, rfl, hG, hR, hB⟩ := hrel
    by_cases hlt : r < 4
    · have i1 : (r : Int) < 4 := by omega
      go_wp2_with fail
      obtain ⟨wo, rfl⟩ : ∃ wo : World, wo = wr := ⟨_, rfl⟩
      go_loopw [4] (fun i wr => ∃ n : Nat, n ≤ r ∧ i = .int .i64 n ∧ Ar wr w.heap.size 16 (shP f r n) ∧ Ar wr (w.heap.size + 1) 16 (fun _ => 0) ∧ Below w.heap.size w wr) (fun i _ => r - (intOf i).toNat)
      case atStart => exact ⟨0, Nat.zero_le _, rfl, hG, hR, hB⟩
      case round =>
        clear hG hR hB
        obtain ⟨n, hn, rfl, hG, hR, hB⟩ := hrel
        by_cases hlc : n < r
        · have row : ∀ k, k < 4 → ∀ j, j = r * 4 + k → wr.cell? ⟨w.heap.size, j, none⟩ = some (.int .u8 (f (r * 4 + (k + n) % 4) : Nat)) ∧ wr.frozen? ⟨w.heap.size, j, none⟩ = false := fun k hk j hj => by
            rw [hj, ← shP_row f r n k hk]; exact hG (r * 4 + k) (by omega)
          obtain ⟨c0, f0⟩ := row 0 (by omega) (r * 4) (by omega)
          obtain ⟨c1, f1⟩ := row 1 (by omega) (r * 4 + 1) (by omega)
          obtain ⟨c2, f2⟩ := row 2 (by omega) (r * 4 + 2) (by omega)
          obtain ⟨c3, f3⟩ := row 3 (by omega) (r * 4 + 3) (by omega)
          rw [Nat.zero_add] at c0
          have hG2 := (hG.set4c (o := r * 4) (v0 := f (r * 4 + (1 + n) % 4)) (v1 := f (r * 4 + (2 + n) % 4)) (v2 := f (r * 4 + (3 + n) % 4)) (v3 := f (r * 4 + n % 4)) (by omega)).ext (fun m _ => shP_step f r n m)
          have hR2 := hR.far4c (g' := w.heap.size) (o := r * 4) (o1 := r * 4 + 1) (o2 := r * 4 + 2) (o3 := r * 4 + 3) (v0 := .int .u8 (f (r * 4 + (1 + n) % 4) : Nat)) (v1 := .int .u8 (f (r * 4 + (2 + n) % 4) : Nat)) (v2 := .int .u8 (f (r * 4 + (3 + n) % 4) : Nat)) (v3 := .int .u8 (f (r * 4 + n % 4) : Nat)) (by omega)
          have hB2 := below_set4c (B := w.heap.size) hB (g' := w.heap.size) (o := r * 4) (o1 := r * 4 + 1) (o2 := r * 4 + 2) (o3 := r * 4 + 3) (v0 := .int .u8 (f (r * 4 + (1 + n) % 4) : Nat)) (v1 := .int .u8 (f (r * 4 + (2 + n) % 4) : Nat)) (v2 := .int .u8 (f (r * 4 + (3 + n) % 4) : Nat)) (v3 := .int .u8 (f (r * 4 + n % 4) : Nat)) (by omega)
          clear hG hR hB row
          generalize f (r * 4 + (1 + n) % 4) = x1 at *
          generalize f (r * 4 + (2 + n) % 4) = x2 at *
          generalize f (r * 4 + (3 + n) % 4) = x3 at *
          generalize f (r * 4 + n % 4) = x0 at *
          go_wp2_with fail
          refine wp_region_noPanic ?_
          go_big_region
          refine NoPanic.normal ?_
          go_wp2_with fail
          go_roundw
          case rel => exact ⟨n + 1, by omega, by go_num, hG2.drew, hR2.drew, hB2.drew⟩
          case measure => simp [intOf]; omega
        · obtain rfl : n = r := by omega
          have hG2 := hG.ext (fun m _ => shP_next f n m)
          clear hG
          go_wp2_with fail
          go_roundw
          case rel => exact ⟨n + 1, by omega, by omega, by go_num, hG2, hR, hB⟩
          case measure => simp [intOf]; omega
    · obtain rfl : r = 4 := by omega
      have hG2 := hG.ext (fun j hj => shP_end f j hj)
      clear hG
      go_wp2_with (first
        | (refine wpList_load_ar rfl _ _ rfl _ _ _ rfl hG2 Tryd.arrG (sizeG _) ?_)
        | (refine wpList_store_ar rfl _ _ _ rfl _ _ _ (tr (shF (tr f))) rfl rfl hR (sizeG _) ?_; intro w8 hA8 hb8 _ _))
      refine bodyPost_ret_ar rfl rfl hA8 Tryd.arrG (sizeG _) rfl ⟨rfl, ?_⟩
      exact hB.trans (hb8.mono (by omega))
end Go.Proofs.YtghcpfcomhfppaaDoor
