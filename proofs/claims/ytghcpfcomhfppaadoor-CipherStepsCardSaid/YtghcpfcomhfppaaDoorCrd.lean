/-
  Contract of Add in the reference package of layer 6, by a walk through its text; what was there stays as it was.
-/
import Derived.Test.YtghcpfcomhfppaaDoorCrc
namespace Go.Proofs.YtghcpfcomhfppaaDoor
open Go.RowKit
set_option linter.unusedVariables false
set_option maxRecDepth 100000

set_option maxHeartbeats 1600000 in
theorem refAdd6 (f k : Nat → Nat) (w : World) (hf : B16 f) (hk : B16 k) :
    Calls Tryd.prog 23 #[.agg (arL 16 f).toArray, .agg (arL 16 k).toArray] w fun e w' => e = .returned (.agg (arL 16 (adF f (tr k))).toArray) ∧ Below w.heap.size w w' := by
  have hz := zeroG
  obtain ⟨kA, hkA⟩ : ∃ kA : Array Value, (arL 16 f).toArray = kA := ⟨_, rfl⟩
  obtain ⟨kB, hkB⟩ : ∃ kB : Array Value, (arL 16 k).toArray = kB := ⟨_, rfl⟩
  obtain ⟨w1, hw1⟩ : ∃ w1 : World, w1 = w.alloc (.cells (arL 16 f).toArray 34) := ⟨_, rfl⟩
  have hs1 : w1.heap.size = w.heap.size + 1 := by rw [hw1]; simp
  have hb1 : Below w.heap.size w w1 := by rw [hw1]; exact (Below.refl _ _).alloc (Nat.le_refl _) _
  have hG1 : Ar w1 w.heap.size 16 f := by rw [hw1]; exact Ar.new w 16 f _
  obtain ⟨w2, hw2⟩ : ∃ w2 : World, w2 = w1.alloc (.cells (arL 16 k).toArray 22) := ⟨_, rfl⟩
  have hs2 : w2.heap.size = w.heap.size + 2 := by rw [hw2]; simp [hs1]
  have hb2 : Below w.heap.size w w2 := by rw [hw2]; exact hb1.alloc (by omega) _
  have hX2 : Ar w2 (w.heap.size + 1) 16 k := by rw [hw2, ← hs1]; exact Ar.new w1 16 k _
  have hG2 : Ar w2 w.heap.size 16 f := by rw [hw2]; exact hG1.alloc (by omega) _
  obtain ⟨w3, hw3⟩ : ∃ w3 : World, w3 = w2.alloc (.cells (arL 16 fun _ => 0).toArray 34) := ⟨_, rfl⟩
  have hb3 : Below w.heap.size w w3 := by rw [hw3]; exact hb2.alloc (by omega) _
  have hR3 : Ar w3 (w.heap.size + 2) 16 (fun _ => 0) := by rw [hw3, ← hs2]; exact Ar.new w2 16 _ _
  have hX3 : Ar w3 (w.heap.size + 1) 16 k := by rw [hw3]; exact hX2.alloc (by omega) _
  have hG3 : Ar w3 w.heap.size 16 f := by rw [hw3]; exact hG2.alloc (by omega) _
  rw [hkA] at hw1
  rw [hkB] at hw2
  rw [hkA, hkB]
  clear hb1 hG1 hb2 hX2 hG2 hkA hkB
  go_enter Tryd.func23, Tryd.ntmps23
  go_upto_region 1 with fail
  rw [← hw1, ← hw2, ← hw3]
  clear hw1 hw2 hw3 hs1 hs2
  obtain ⟨gR, hgR⟩ : ∃ gR : Nat, w.heap.size + 2 = gR := ⟨_, rfl⟩
  have hge : w.heap.size + 2 ≤ gR := by omega
  have hgR2 : w.heap.size + 1 + 1 = gR := hgR
  rw [hgR] at hR3
  rw [hgR2]
  clear hgR hgR2
  go_wp2_with (refine wpList_load_ar rfl _ _ rfl _ _ _ rfl hX3 Tryd.arr16b (size16b _) ?_)
  refine (refOf k _).mono ?_
  rintro e w4 ⟨rfl, k4⟩
  have hG4 := hG3.to (by omega) k4
  have hR4 := hR3.to (by omega) k4
  have hb4 := hb3.trans (k4.mono hb3.size)
  clear hG3 hR3 hX3 hb3 k4
  obtain ⟨gT, hgT⟩ : ∃ gT : Nat, w4.heap.size = gT := ⟨_, rfl⟩
  have hlT : gR < gT := by rw [← hgT]; exact hR4.lt (by omega)
  have hT5 : Ar (w4.alloc (.cells (arL 16 fun _ => 0).toArray 34)) gT 16 (fun _ => 0) := by rw [← hgT]; exact Ar.new w4 16 _ _
  have hG5 : Ar (w4.alloc (.cells (arL 16 fun _ => 0).toArray 34)) w.heap.size 16 f := hG4.alloc (by omega) _
  have hR5 : Ar (w4.alloc (.cells (arL 16 fun _ => 0).toArray 34)) gR 16 (fun _ => 0) := hR4.alloc (by omega) _
  have hb5 : Below w.heap.size w (w4.alloc (.cells (arL 16 fun _ => 0).toArray 34)) := hb4.alloc hb4.size _
  clear hG4 hR4 hb4
  go_upto_region 2 with (refine wpList_store_ar rfl _ _ _ rfl _ _ _ (tr k) rfl rfl hT5 (sizeG _) ?_; intro w6 hX6 hb6 hs6 hk6)
  have hG6 := hk6 _ _ _ (by omega) hG5
  have hR6 := hk6 _ _ _ (by omega) hR5
  have hb7 := hb5.trans (hb6.mono (by omega))
  clear hT5 hG5 hR5 hb5 hb6 hs6 hk6 hgT
  try dsimp only [Act.put]
  have hkt : B16 (tr k) := fun j hj => hk _ (by omega)
  obtain ⟨K, hK⟩ : ∃ K : Nat → Nat, K = tr k := ⟨_, rfl⟩
  rw [← hK] at hX6 hkt
  rw [← hK]
  have HK := Lib.hid hK
  clear hk hK
  go_wp2_with fail
  go_loopw [6] (fun i wr => ∃ r : Nat, r ≤ 4 ∧ i = .int .i64 r ∧ Ar wr w.heap.size 16 (fun m => if m < 4 * r then adF f K m else f m) ∧ Ar wr gT 16 K ∧ Ar wr gR 16 (fun _ => 0) ∧ Below w.heap.size w wr) (fun i _ => 4 - (intOf i).toNat)
  case atStart => exact ⟨0, Nat.zero_le _, rfl, hG6.ext (fun _ _ => rfl), hX6, hR6, hb7⟩
  case round =>
    clear hG6 hX6 hR6 hb7
    obtain ⟨r, hr, rfl, hG, hX, hR, hB⟩ := hrel
    by_cases hlt : r < 4
    · have i1 : (r : Int) < 4 := by omega
      have hG0 : Ar wr w.heap.size 16 (fun m => if m < 4 * r + 0 then adF f K m else f m) := hG
      clear hG
      go_wp2_with fail
      obtain ⟨wo, rfl⟩ : ∃ wo : World, wo = wr := ⟨_, rfl⟩
      go_loopw [7] (fun i wr => ∃ c : Nat, c ≤ 4 ∧ i = .int .i64 c ∧ Ar wr w.heap.size 16 (fun m => if m < 4 * r + c then adF f K m else f m) ∧ Ar wr gT 16 K ∧ Ar wr gR 16 (fun _ => 0) ∧ Below w.heap.size w wr) (fun i _ => 4 - (intOf i).toNat)
      case atStart => exact ⟨0, Nat.zero_le _, rfl, hG0, hX, hR, hB⟩
      case round =>
        clear hG0 hX hR hB
        obtain ⟨c, hc, rfl, hG, hX, hR, hB⟩ := hrel
        by_cases hlc : c < 4
        · obtain ⟨o, ho⟩ : ∃ o : Nat, o = r * 4 + c := ⟨_, rfl⟩
          have i2 : (c : Int) < 4 := by omega
          have hfo := hf o (by omega)
          have hko := hkt o (by omega)
          obtain ⟨c0, f0⟩ := hG o (by omega)
          dsimp only at c0
          rw [if_neg (by omega), ho] at c0
          rw [ho] at f0
          obtain ⟨c1, _⟩ := hX o (by omega)
          rw [ho] at c1
          have e1 : 4 * r + c = o := by omega
          have hxx : bits BinOp.xor IntKind.u8 ((f (r * 4 + c) : Nat) : Int) ((K (r * 4 + c) : Nat) : Int) = ((adF f K (r * 4 + c) : Nat) : Int) := by rw [← ho]; exact xor_n8 _ _ hfo hko
          have hG2 := (hG.set (j := r * 4 + c) (v := adF f K (r * 4 + c)) (by omega) rfl).ext (f' := fun m => if m < 4 * r + (c + 1) then adF f K m else f m) (fun m _ => by
            rw [show 4 * r + (c + 1) = o + 1 by omega, e1, ← ho]; exact mid_step (adF f K) f o m)
          have hX2 := hX.far (p := ⟨w.heap.size, r * 4 + c, none⟩) (by simp; omega) (.int .u8 (adF f K (r * 4 + c) : Nat))
          have hR2 := hR.far (p := ⟨w.heap.size, r * 4 + c, none⟩) (by simp; omega) (.int .u8 (adF f K (r * 4 + c) : Nat))
          have hB2 := hB.setCell (p := ⟨w.heap.size, r * 4 + c, none⟩) (by simp) (.int .u8 (adF f K (r * 4 + c) : Nat))
          clear hG hX hR hB ho hfo hko e1
          generalize adF f K (r * 4 + c) = z at *
          generalize f (r * 4 + c) = x at *
          generalize K (r * 4 + c) = y at *
          go_wp2_with fail
          refine wp_region_noPanic ?_
          go_big_region
          refine NoPanic.normal ?_
          go_wp2_with fail
          go_roundw
          case rel => exact ⟨c + 1, by omega, by go_num, hG2.drew, hX2.drew, hR2.drew, hB2.drew⟩
          case measure => simp [intOf]; omega
        · obtain rfl : c = 4 := by omega
          go_wp2_with fail
          go_roundw
          case rel => exact ⟨r + 1, by omega, by go_num, hG, hX, hR, hB⟩
          case measure => simp [intOf]; omega
    · obtain rfl : r = 4 := by omega
      have hG2 := hG.ext (f' := adF f K) (fun j hj => by rw [if_pos (by omega)])
      clear hG
      go_wp2_with (first
        | (refine wpList_load_ar rfl _ _ rfl _ _ _ rfl hG2 Tryd.arrG (sizeG _) ?_)
        | (refine wpList_store_ar rfl _ _ _ rfl _ _ _ (adF f K) rfl rfl hR (sizeG _) ?_; intro w8 hA8 hb8 _ _))
      refine bodyPost_ret_ar rfl rfl hA8 Tryd.arrG (sizeG _) rfl ⟨by rw [HK.out], ?_⟩
      exact hB.trans (hb8.mono (by omega))
end Go.Proofs.YtghcpfcomhfppaaDoor
