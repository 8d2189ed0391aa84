/-
  Contract of block.Xor, by a walk through its text: the exclusive or of two blocks; what was there stays as it was.
-/
import Derived.Test.YtblhfmlgpldaeaaDoorBrf
namespace Go.Proofs.YtblhfmlgpldaeaaDoor
open Go.RowKit
set_option linter.unusedVariables false
set_option maxRecDepth 100000

set_option maxHeartbeats 1600000 in
theorem bxor (f k : Nat → Nat) (w : World) (hf : B16 f) (hk : B16 k) :
    Calls Tryd.prog 39 #[.agg (arL 16 f).toArray, .agg (arL 16 k).toArray] w fun e w' => e = .returned (.agg (arL 16 (adF f k)).toArray) ∧ Below w.heap.size w w' := by
  have hz := zero16x
  obtain ⟨kA, hkA⟩ : ∃ kA : Array Value, (arL 16 f).toArray = kA := ⟨_, rfl⟩
  obtain ⟨kB, hkB⟩ : ∃ kB : Array Value, (arL 16 k).toArray = kB := ⟨_, rfl⟩
  obtain ⟨w1, hw1⟩ : ∃ w1 : World, w1 = w.alloc (.cells (arL 16 f).toArray 22) := ⟨_, rfl⟩
  have hs1 : w1.heap.size = w.heap.size + 1 := by rw [hw1]; simp
  have hb1 : Below w.heap.size w w1 := by rw [hw1]; exact (Below.refl _ _).alloc (Nat.le_refl _) _
  have hK1 : Ar w1 w.heap.size 16 f := by rw [hw1]; exact Ar.new w 16 f _
  obtain ⟨w2, hw2⟩ : ∃ w2 : World, w2 = w1.alloc (.cells (arL 16 k).toArray 22) := ⟨_, rfl⟩
  have hs2 : w2.heap.size = w.heap.size + 2 := by rw [hw2]; simp [hs1]
  have hb2 : Below w.heap.size w w2 := by rw [hw2]; exact hb1.alloc (by omega) _
  have hC2 : Ar w2 (w.heap.size + 1) 16 k := by rw [hw2, ← hs1]; exact Ar.new w1 16 k _
  have hK2 : Ar w2 w.heap.size 16 f := by rw [hw2]; exact hK1.alloc (by omega) _
  obtain ⟨w3, hw3⟩ : ∃ w3 : World, w3 = w2.alloc (.cells (arL 16 fun _ => 0).toArray 22) := ⟨_, rfl⟩
  have hB3 : Below w.heap.size w w3 := by rw [hw3]; exact hb2.alloc (by omega) _
  have hR3 : Ar w3 (w.heap.size + 2) 16 (fun _ => 0) := by rw [hw3, ← hs2]; exact Ar.new w2 16 _ _
  have hC3 : Ar w3 (w.heap.size + 1) 16 k := by rw [hw3]; exact hC2.alloc (by omega) _
  have hK3 : Ar w3 w.heap.size 16 f := by rw [hw3]; exact hK2.alloc (by omega) _
  have HKA := Lib.hid hkA
  have HKB := Lib.hid hkB
  rw [hkA] at hw1
  rw [hkB] at hw2
  rw [hkA, hkB]
  clear hb1 hK1 hkA hkB hb2 hK2 hC2
  have HF := Lib.hid hf
  have HK := Lib.hid hk
  clear hf hk
  go_enter Tryd.func39, Tryd.ntmps39
  go_upto_region 1 with fail
  rw [← hw1, ← hw2, ← hw3]
  clear hw1 hw2 hw3 hs1 hs2
  obtain ⟨gC, hgC⟩ : ∃ gC : Nat, w.heap.size + 1 = gC := ⟨_, rfl⟩
  obtain ⟨gR, hgR⟩ : ∃ gR : Nat, w.heap.size + 2 = gR := ⟨_, rfl⟩
  have hgR2 : w.heap.size + 1 + 1 = gR := hgR
  have hlC : w.heap.size < gC := by omega
  have hlR : gC < gR := by omega
  rw [hgC] at hC3
  rw [hgR] at hR3
  try rw [hgR2]
  try rw [hgR]
  try rw [hgC]
  clear hgC hgR hgR2
  go_wp2_with fail
  go_loopw [6] (fun i wr => ∃ n : Nat, n ≤ 16 ∧ i = .int .i64 n ∧ Ar wr w.heap.size 16 (fun m => if m < n then adF f k m else f m) ∧ Ar wr gC 16 k ∧ Ar wr gR 16 (fun _ => 0) ∧ Below w.heap.size w wr) (fun i _ => 16 - (intOf i).toNat)
  case atStart => exact ⟨0, Nat.zero_le _, rfl, hK3.ext (fun _ _ => rfl), hC3, hR3, hB3⟩
  case round =>
    clear hK3 hC3 hR3 hB3
    obtain ⟨n, hn, rfl, hK, hC, hR, hB⟩ := hrel
    by_cases hlt : n < 16
    · have i1 : (n : Int) < 16 := by omega
      obtain ⟨c0, f0⟩ := hK n hlt
      dsimp only at c0
      rw [show (if n < n then adF f k n else f n) = f n from if_neg (by omega)] at c0
      obtain ⟨c1, _⟩ := hC n hlt
      have hxx : bits BinOp.xor IntKind.u8 ((f n : Nat) : Int) ((k n : Nat) : Int) = ((f n ^^^ k n : Nat) : Int) := xor_n8 _ _ (HF.out n hlt) (HK.out n hlt)
      have hK2 := Lib.hid ((hK.set (j := n) (v := f n ^^^ k n) (by omega) rfl).ext (fun m _ => xor_part f k n m))
      have hC2 := Lib.hid (hC.far (p := ⟨w.heap.size, n, none⟩) (by simp; omega) (.int .u8 (f n ^^^ k n : Nat)))
      have hR2 := Lib.hid (hR.far (p := ⟨w.heap.size, n, none⟩) (by simp; omega) (.int .u8 (f n ^^^ k n : Nat)))
      have hB2 := Lib.hid (hB.setCell (p := ⟨w.heap.size, n, none⟩) (by simp) (.int .u8 (f n ^^^ k n : Nat)))
      clear hK hC hR hB
      generalize f n ^^^ k n = z at *
      generalize f n = x at *
      generalize k n = y at *
      go_wp2_with fail
      refine wp_region_noPanic ?_
      go_big_region
      refine NoPanic.normal ?_
      go_wp2_with fail
      go_roundw
      case rel => exact ⟨n + 1, by omega, by go_num, hK2.out.drew, hC2.out.drew, hR2.out.drew, hB2.out.drew⟩
      case measure => simp [intOf]; omega
    · obtain rfl : n = 16 := by omega
      have hK2 := hK.ext (f' := adF f k) (fun j hj => by rw [if_pos (by omega)])
      clear hK
      go_wp2_with (first
        | (refine wpList_load_ar rfl _ _ rfl _ _ _ rfl hK2 Tryd.arr16x (size16x _) ?_)
        | (refine wpList_store_ar rfl _ _ _ rfl _ _ _ (adF f k) rfl rfl hR (size16x _) ?_; intro w8 hA8 hb8 _ _))
      refine bodyPost_ret_ar rfl rfl hA8 Tryd.arr16x (size16x _) rfl ⟨rfl, ?_⟩
      exact hB.trans (hb8.mono (by omega))

end Go.Proofs.YtblhfmlgpldaeaaDoor
