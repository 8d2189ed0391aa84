/-
  Contract of Sub in the reference package of layer 6, by a walk through its text; what was there stays as it was.
-/
import Derived.Test.YtghcpfcomhfppaaDoorCra
namespace Go.Proofs.YtghcpfcomhfppaaDoor
open Go.RowKit
set_option linter.unusedVariables false
set_option maxRecDepth 100000

/-- Places ahead of o are F, the others f: one more. -/
theorem mid_step (F f : Nat → Nat) (o m : Nat) : (if m = o then F o else (if m < o then F m else f m)) = if m < o + 1 then F m else f m := by
  by_cases h : m = o
  · rw [if_pos h, if_pos (by omega), h]
  · rw [if_neg h]
    by_cases h2 : m < o
    · rw [if_pos h2, if_pos (by omega)]
    · rw [if_neg h2, if_neg (by omega)]

set_option maxHeartbeats 1600000 in
theorem refSub6 (f : Nat → Nat) (w : World) (hf : B16 f) :
    Calls Tryd.prog 19 #[.agg (arL 16 f).toArray, .agg boxA] w fun e w' => e = .returned (.agg (arL 16 (suF f)).toArray) ∧ Below w.heap.size w w' := by
  have hz := zeroG
  obtain ⟨kA, hkA⟩ : ∃ kA : Array Value, (arL 16 f).toArray = kA := ⟨_, rfl⟩
  obtain ⟨w1, hw1⟩ : ∃ w1 : World, w1 = w.alloc (.cells (arL 16 f).toArray 34) := ⟨_, rfl⟩
  have hs1 : w1.heap.size = w.heap.size + 1 := by rw [hw1]; simp
  have hb1 : Below w.heap.size w w1 := by rw [hw1]; exact (Below.refl _ _).alloc (Nat.le_refl _) _
  have hG1 : Ar w1 w.heap.size 16 f := by rw [hw1]; exact Ar.new w 16 f _
  obtain ⟨w2, hw2⟩ : ∃ w2 : World, w2 = w1.alloc (.cells boxA 27) := ⟨_, rfl⟩
  have hs2 : w2.heap.size = w.heap.size + 2 := by rw [hw2]; simp [hs1]
  have hb2 : Below w.heap.size w w2 := by rw [hw2]; exact hb1.alloc (by omega) _
  have hX2 : Ar w2 (w.heap.size + 1) 256 sb := by rw [hw2, ← hs1]; exact Ar.new w1 256 sb _
  have hG2 : Ar w2 w.heap.size 16 f := by rw [hw2]; exact hG1.alloc (by omega) _
  obtain ⟨w3, hw3⟩ : ∃ w3 : World, w3 = w2.alloc (.cells (arL 16 fun _ => 0).toArray 34) := ⟨_, rfl⟩
  have hb3 : Below w.heap.size w w3 := by rw [hw3]; exact hb2.alloc (by omega) _
  have hR3 : Ar w3 (w.heap.size + 2) 16 (fun _ => 0) := by rw [hw3, ← hs2]; exact Ar.new w2 16 _ _
  have hX3 : Ar w3 (w.heap.size + 1) 256 sb := by rw [hw3]; exact hX2.alloc (by omega) _
  have hG3 : Ar w3 w.heap.size 16 f := by rw [hw3]; exact hG2.alloc (by omega) _
  rw [hkA] at hw1
  rw [hkA]
  clear hb1 hG1 hb2 hX2 hG2 hkA
  go_enter Tryd.func19, Tryd.ntmps19
  go_upto_region 1 with fail
  rw [← hw1, ← hw2, ← hw3]
  clear hw1 hw2 hw3 hs1 hs2
  obtain ⟨gR, hgR⟩ : ∃ gR : Nat, w.heap.size + 2 = gR := ⟨_, rfl⟩
  have hge : w.heap.size + 2 ≤ gR := by omega
  have hgR2 : w.heap.size + 1 + 1 = gR := hgR
  rw [hgR] at hR3
  rw [hgR2]
  clear hgR hgR2
  obtain ⟨bA, hbA⟩ : ∃ bA : Array Value, boxA = bA := ⟨_, rfl⟩
  rw [hbA]
  clear hbA
  go_wp2_with fail
  go_loopw [5] (fun i wr => ∃ r : Nat, r ≤ 4 ∧ i = .int .i64 r ∧ Ar wr w.heap.size 16 (fun m => if m < 4 * r then suF f m else f m) ∧ Ar wr (w.heap.size + 1) 256 sb ∧ Ar wr gR 16 (fun _ => 0) ∧ Below w.heap.size w wr) (fun i _ => 4 - (intOf i).toNat)
  case atStart => exact ⟨0, Nat.zero_le _, rfl, hG3.ext (fun _ _ => rfl), hX3, hR3, hb3⟩
  case round =>
    clear hG3 hX3 hR3 hb3
    obtain ⟨r, hr, rfl, hG, hX, hR, hB⟩ := hrel
    by_cases hlt : r < 4
    · have i1 : (r : Int) < 4 := by omega
      have hG0 : Ar wr w.heap.size 16 (fun m => if m < 4 * r + 0 then suF f m else f m) := hG
      clear hG
      go_wp2_with fail
      obtain ⟨wo, rfl⟩ : ∃ wo : World, wo = wr := ⟨_, rfl⟩
      go_loopw [6] (fun i wr => ∃ c : Nat, c ≤ 4 ∧ i = .int .i64 c ∧ Ar wr w.heap.size 16 (fun m => if m < 4 * r + c then suF f m else f m) ∧ Ar wr (w.heap.size + 1) 256 sb ∧ Ar wr gR 16 (fun _ => 0) ∧ Below w.heap.size w wr) (fun i _ => 4 - (intOf i).toNat)
      case atStart => exact ⟨0, Nat.zero_le _, rfl, hG0, hX, hR, hB⟩
      case round =>
        clear hG0 hX hR hB
        obtain ⟨c, hc, rfl, hG, hX, hR, hB⟩ := hrel
        by_cases hlc : c < 4
        · obtain ⟨o, ho⟩ : ∃ o : Nat, o = r * 4 + c := ⟨_, rfl⟩
          have i2 : (c : Int) < 4 := by omega
          have hfo := hf o (by omega)
          obtain ⟨c0, f0⟩ := hG o (by omega)
          dsimp only at c0
          rw [if_neg (by omega), ho] at c0
          rw [ho] at f0
          obtain ⟨c1, _⟩ := hX (f (r * 4 + c)) (by rw [← ho]; exact hfo)
          have i3 : ((f (r * 4 + c) : Nat) : Int) < 256 := by rw [← ho]; omega
          have e1 : 4 * r + c = o := by omega
          have hG2 := (hG.set (j := r * 4 + c) (v := sb (f (r * 4 + c))) (by omega) rfl).ext (f' := fun m => if m < 4 * r + (c + 1) then suF f m else f m) (fun m _ => by
            rw [show 4 * r + (c + 1) = o + 1 by omega, e1, ← ho]; exact mid_step (suF f) f o m)
          have hX2 := hX.far (p := ⟨w.heap.size, r * 4 + c, none⟩) (by simp) (.int .u8 (sb (f (r * 4 + c)) : Nat))
          have hR2 := hR.far (p := ⟨w.heap.size, r * 4 + c, none⟩) (by simp; omega) (.int .u8 (sb (f (r * 4 + c)) : Nat))
          have hB2 := hB.setCell (p := ⟨w.heap.size, r * 4 + c, none⟩) (by simp) (.int .u8 (sb (f (r * 4 + c)) : Nat))
          clear hG hX hR hB ho hfo e1
          generalize f (r * 4 + c) = x at *
          go_wp2_with fail
          refine wp_region_noPanic ?_
          go_big_region
          refine NoPanic.normal ?_
          go_wp2_with fail
          go_roundw
          case rel => exact ⟨c + 1, by omega, by go_num, hG2.drew, hX2.drew, hR2.drew, hB2.drew⟩
          case measure => simp [intOf]; omega
        · obtain rfl : c = 4 := by omega
          go_wp2_with fail
          go_roundw
          case rel => exact ⟨r + 1, by omega, by go_num, hG, hX, hR, hB⟩
          case measure => simp [intOf]; omega
    · obtain rfl : r = 4 := by omega
      have hG2 := hG.ext (f' := suF f) (fun j hj => by rw [if_pos (by omega)])
      clear hG
      go_wp2_with (first
        | (refine wpList_load_ar rfl _ _ rfl _ _ _ rfl hG2 Tryd.arrG (sizeG _) ?_)
        | (refine wpList_store_ar rfl _ _ _ rfl _ _ _ (suF f) rfl rfl hR (sizeG _) ?_; intro w8 hA8 hb8 _ _))
      refine bodyPost_ret_ar rfl rfl hA8 Tryd.arrG (sizeG _) rfl ⟨rfl, ?_⟩
      exact hB.trans (hb8.mono (by omega))
end Go.Proofs.YtghcpfcomhfppaaDoor
