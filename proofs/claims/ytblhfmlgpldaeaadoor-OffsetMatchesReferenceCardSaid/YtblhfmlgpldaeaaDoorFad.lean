/-
  Contract of fast.add, by a walk through its text; what was there stays as it was.
-/
import Derived.Test.YtblhfmlgpldaeaaDoorFac
import Derived.Test.YtblhfmlgpldaeaaDoorGke
import Derived.BigRegion
namespace Go.Proofs.YtblhfmlgpldaeaaDoor
open Go.RowKit
set_option linter.unusedVariables false
set_option maxRecDepth 100000

theorem low_up (F G : Nat → Nat) (n m : Nat) : (if m = n then G n else (if m < n then G m else F m)) = if m < n + 1 then G m else F m := by
  by_cases h : m = n
  · rw [if_pos h, if_pos (by omega), h]
  · rw [if_neg h]
    by_cases h2 : m < n
    · rw [if_pos h2, if_pos (by omega)]
    · rw [if_neg h2, if_neg (by omega)]

set_option maxHeartbeats 800000 in
theorem fadd (f k : Nat → Nat) (w : World) (hf : B16 f) (hk : B16 k) :
    Calls Tryd.prog 47 #[.agg #[.int .u32 (wd f 0 : Nat), .int .u32 (wd f 1 : Nat), .int .u32 (wd f 2 : Nat), .int .u32 (wd f 3 : Nat)], .agg #[.int .u32 (wd k 0 : Nat), .int .u32 (wd k 1 : Nat), .int .u32 (wd k 2 : Nat), .int .u32 (wd k 3 : Nat)]] w fun e w' => e = .returned (.agg #[.int .u32 (wd (adF f k) 0 : Nat), .int .u32 (wd (adF f k) 1 : Nat), .int .u32 (wd (adF f k) 2 : Nat), .int .u32 (wd (adF f k) 3 : Nat)]) ∧ Below w.heap.size w w' := by
  obtain ⟨w1, hw1⟩ : ∃ w1 : World, w1 = w.alloc (.cells #[.int .u32 (wd f 0 : Nat), .int .u32 (wd f 1 : Nat), .int .u32 (wd f 2 : Nat), .int .u32 (wd f 3 : Nat)] 59) := ⟨_, rfl⟩
  have hs1 : w1.heap.size = w.heap.size + 1 := by rw [hw1]; simp
  have hb1 : Below w.heap.size w w1 := by rw [hw1]; exact (Below.refl _ _).alloc (Nat.le_refl _) _
  have hK1 : Aw w1 w.heap.size 4 (wd f) := by rw [hw1]; exact Aw.new w 4 (wd f) _
  obtain ⟨w2, hw2⟩ : ∃ w2 : World, w2 = w1.alloc (.cells #[.int .u32 (wd k 0 : Nat), .int .u32 (wd k 1 : Nat), .int .u32 (wd k 2 : Nat), .int .u32 (wd k 3 : Nat)] 59) := ⟨_, rfl⟩
  have hs2 : w2.heap.size = w.heap.size + 2 := by rw [hw2]; simp [hs1]
  have hb2 : Below w.heap.size w w2 := by rw [hw2]; exact hb1.alloc (by omega) _
  have hL2 : Aw w2 (w.heap.size + 1) 4 (wd k) := by rw [hw2, ← hs1]; exact Aw.new w1 4 (wd k) _
  have hK2 : Aw w2 w.heap.size 4 (wd f) := by rw [hw2]; exact hK1.alloc (by omega) _
  obtain ⟨w3, hw3⟩ : ∃ w3 : World, w3 = w2.alloc (.cells #[.int .u32 0, .int .u32 0, .int .u32 0, .int .u32 0] 59) := ⟨_, rfl⟩
  have hb3 : Below w.heap.size w w3 := by rw [hw3]; exact hb2.alloc (by omega) _
  have hR3 : Aw w3 (w.heap.size + 2) 4 (fun _ => 0) := by rw [hw3, ← hs2]; exact Aw.new w2 4 (fun _ => 0) _
  have hL3 : Aw w3 (w.heap.size + 1) 4 (wd k) := by rw [hw3]; exact hL2.alloc (by omega) _
  have hK3 : Aw w3 w.heap.size 4 (wd f) := by rw [hw3]; exact hK2.alloc (by omega) _
  clear hb1 hK1 hb2 hL2 hK2
  go_enter Tryd.func47, Tryd.ntmps47
  go_upto_region 1 with fail
  rw [← hw1, ← hw2, ← hw3]
  clear hw1 hw2 hw3 hs1 hs2
  have hl := Lib.hid (fun i hi => wd_lt f i hf hi)
  have hm := Lib.hid (fun i hi => wd_lt k i hk hi)
  have hx := Lib.hid (fun i hi => wd_ad f k i hf hk hi)
  clear hf hk
  go_wp2_with fail
  go_loopw [6] (fun i wr => ∃ n : Nat, n ≤ 4 ∧ i = .int .i64 n ∧ Aw wr w.heap.size 4 (fun m => if m < n then wd (adF f k) m else wd f m) ∧ Aw wr (w.heap.size + 1) 4 (wd k) ∧ Aw wr (w.heap.size + 2) 4 (fun _ => 0) ∧ Below w.heap.size w wr) (fun i _ => 4 - (intOf i).toNat)
  case atStart => exact ⟨0, Nat.zero_le _, rfl, hK3.ext (fun _ _ => rfl), hL3, hR3, hb3⟩
  case round =>
    clear hK3 hL3 hR3 hb3
    obtain ⟨n, hn, rfl, hK, hL, hR, hB⟩ := hrel
    by_cases hlt : n < 4
    · obtain ⟨c0, d0⟩ := hK n hlt
      obtain ⟨c1, _⟩ := hL n hlt
      replace c0 : wr.cell? ⟨w.heap.size, n, none⟩ = some (.int .u32 (wd f n : Nat)) := c0.trans (by simp)
      have l0 := hl.out n hlt
      have l1 := hm.out n hlt
      have hxu := xor_u32 (wd f n) (wd k n) l0 l1
      rw [hx.out n hlt] at hxu
      have i1 : (n : Int) < 4 := by omega
      have hK9 := ((hK.set (j := n) (v := wd (adF f k) n) (by omega) rfl).ext (fun m _ => low_up (wd f) (wd (adF f k)) n m))
      have hL9 := hL.far (p := ⟨w.heap.size, n, none⟩) (by simp) (.int .u32 (wd (adF f k) n : Nat))
      have hR9 := hR.far (p := ⟨w.heap.size, n, none⟩) (by simp) (.int .u32 (wd (adF f k) n : Nat))
      have hB9 := hB.setCell (p := ⟨w.heap.size, n, none⟩) (by simp) (.int .u32 (wd (adF f k) n : Nat))
      go_upto_region 4 with fail
      refine wp_region_noPanic ?_
      go_big_region
      refine NoPanic.normal ?_
      go_wp2_with fail
      go_roundw
      case rel => exact ⟨n + 1, by omega, by go_num, hK9, hL9, hR9, hB9.drew⟩
      case measure => simp [intOf]; omega
    · obtain rfl : n = 4 := by omega
      have hK8 := hK.ext (f' := wd (adF f k)) (fun j hj => by rw [if_pos hj])
      clear hK
      go_wp2_with (first
        | (refine wpList_load_aw rfl _ _ rfl _ _ _ rfl hK8 Tryd.arrCw (sizeCw _) ?_)
        | (refine wpList_store_aw rfl _ _ _ rfl _ _ _ (wd (adF f k)) rfl rfl hR (sizeCw _) ?_; intro w8 hA8 hb8 _ _))
      refine bodyPost_ret_aw rfl rfl hA8 Tryd.arrCw (sizeCw _) rfl ⟨rfl, ?_⟩
      exact hB.trans (hb8.mono (by omega))
end Go.Proofs.YtblhfmlgpldaeaaDoor
