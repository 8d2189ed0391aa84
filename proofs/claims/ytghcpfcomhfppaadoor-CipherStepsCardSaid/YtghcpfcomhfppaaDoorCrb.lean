/-
  Contract of the block of a grid in the reference package of layer 6, by a walk through its text; what was there stays as it was.
-/
import Derived.Test.YtghcpfcomhfppaaDoorCra
namespace Go.Proofs.YtghcpfcomhfppaaDoor
open Go.RowKit
set_option linter.unusedVariables false
set_option maxRecDepth 100000

set_option maxHeartbeats 800000 in
theorem refBlock (f : Nat → Nat) (w : World) :
    Calls Tryd.prog 18 #[.agg (arL 16 f).toArray] w fun e w' => e = .returned (.agg (arL 16 (tr f)).toArray) ∧ Below w.heap.size w w' := by
  have hz := zero16b
  obtain ⟨kA, hkA⟩ : ∃ kA : Array Value, (arL 16 f).toArray = kA := ⟨_, rfl⟩
  obtain ⟨w1, hw1⟩ : ∃ w1 : World, w1 = w.alloc (.cells (arL 16 f).toArray 34) := ⟨_, rfl⟩
  have hs1 : w1.heap.size = w.heap.size + 1 := by rw [hw1]; simp
  have hb1 : Below w.heap.size w w1 := by rw [hw1]; exact (Below.refl _ _).alloc (Nat.le_refl _) _
  have hK1 : Ar w1 w.heap.size 16 f := by rw [hw1]; exact Ar.new w 16 f _
  obtain ⟨w2, hw2⟩ : ∃ w2 : World, w2 = w1.alloc (.cells (arL 16 fun _ => 0).toArray 22) := ⟨_, rfl⟩
  have hs2 : w2.heap.size = w.heap.size + 2 := by rw [hw2]; simp [hs1]
  have hb2 : Below w.heap.size w w2 := by rw [hw2]; exact hb1.alloc (by omega) _
  have hR2 : Ar w2 (w.heap.size + 1) 16 (fun _ => 0) := by rw [hw2, ← hs1]; exact Ar.new w1 16 _ _
  have hK2 : Ar w2 w.heap.size 16 f := by rw [hw2]; exact hK1.alloc (by omega) _
  obtain ⟨w3, hw3⟩ : ∃ w3 : World, w3 = w2.alloc (.cells (arL 16 fun _ => 0).toArray 22) := ⟨_, rfl⟩
  have hb3 : Below w.heap.size w w3 := by rw [hw3]; exact hb2.alloc (by omega) _
  have hT3 : Ar w3 (w.heap.size + 2) 16 (fun _ => 0) := by rw [hw3, ← hs2]; exact Ar.new w2 16 _ _
  have hR3 : Ar w3 (w.heap.size + 1) 16 (fun _ => 0) := by rw [hw3]; exact hR2.alloc (by omega) _
  have hK3 : Ar w3 w.heap.size 16 f := by rw [hw3]; exact hK2.alloc (by omega) _
  rw [hkA] at hw1
  rw [hkA]
  clear hb1 hK1 hb2 hR2 hK2 hkA
  go_enter Tryd.func18, Tryd.ntmps18
  go_upto_region 2 with fail
  rw [← hw1, ← hw2, ← hw3]
  clear hw1 hw2 hw3 hs1 hs2
  obtain ⟨gT, hgT⟩ : ∃ gT : Nat, w.heap.size + 2 = gT := ⟨_, rfl⟩
  have hge : w.heap.size + 2 ≤ gT := by omega
  have hgT2 : w.heap.size + 1 + 1 = gT := hgT
  rw [hgT] at hT3
  rw [hgT2]
  clear hgT hgT2
  go_wp2_with fail
  go_loopw [4] (fun i wr => ∃ n : Nat, n ≤ 16 ∧ i = .int .i64 n ∧ Ar wr w.heap.size 16 f ∧ Ar wr (w.heap.size + 1) 16 (fun _ => 0) ∧ Ar wr gT 16 (fun m => if m < n then tr f m else 0) ∧ Below w.heap.size w wr) (fun i _ => 16 - (intOf i).toNat)
  case atStart => exact ⟨0, Nat.zero_le _, rfl, hK3, hR3, hT3.ext (fun _ _ => rfl), hb3⟩
  case round =>
    clear hK3 hR3 hT3 hb3
    obtain ⟨n, hn, rfl, hK, hR, hT, hB⟩ := hrel
    by_cases hlt : n < 16
    · obtain ⟨a, ha⟩ : ∃ a : Nat, a = n % 4 := ⟨_, rfl⟩
      obtain ⟨b, hb⟩ : ∃ b : Nat, b = n / 4 := ⟨_, rfl⟩
      have a1 : ((n : Int)).tmod 4 = (a : Int) := by rw [Int.tmod_eq_emod_of_nonneg (by omega)]; omega
      have a2 : (n : Int) % 4 = (a : Int) := by omega
      have a3 : IntKind.i64.wrap (a : Int) = (a : Int) := wraps_i64' _ (by omega) (by omega)
      have b1 : ((n : Int)).tdiv 4 = (b : Int) := by rw [Int.tdiv_eq_ediv_of_nonneg (by omega)]; omega
      have b2 : (n : Int) / 4 = (b : Int) := by omega
      have b3 : IntKind.i64.wrap (b : Int) = (b : Int) := wraps_i64' _ (by omega) (by omega)
      have i1 : (a : Int) < 4 := by omega
      have i2 : (b : Int) < 4 := by omega
      have i3 : (n : Int) < 16 := by omega
      obtain ⟨c0, _⟩ := hK (a * 4 + b) (by omega)
      have htr : f (a * 4 + b) = tr f n := by rw [tr, ha, hb, Nat.mul_comm]
      rw [htr] at c0
      obtain ⟨c1, f1⟩ := hT n hlt
      generalize hX : tr f n = X at *
      have hT2 := (hT.set (j := n) (v := X) (by omega) rfl).ext (f' := fun m => if m < n + 1 then tr f m else 0) (fun m hm => by rw [← hX]; exact low_step (tr f) n m)
      have hK2 := hK.far (p := ⟨gT, n, none⟩) (by simp; omega) (.int .u8 (X : Nat))
      have hR2 := hR.far (p := ⟨gT, n, none⟩) (by simp; omega) (.int .u8 (X : Nat))
      have hB2 := hB.setCell (p := ⟨gT, n, none⟩) (by simp; omega) (.int .u8 (X : Nat))
      clear hT hK hR hB ha hb htr hX
      go_wp2_with fail
      go_roundw
      case rel => exact ⟨n + 1, by omega, by go_num, hK2, hR2, hT2, hB2⟩
      case measure => simp [intOf]; omega
    · obtain rfl : n = 16 := by omega
      have hT2 := hT.ext (f' := tr f) (fun j hj => by rw [if_pos (by omega)])
      clear hT
      go_wp2_with (first
        | (refine wpList_load_ar rfl _ _ rfl _ _ _ rfl hT2 Tryd.arr16b (size16b _) ?_)
        | (refine wpList_store_ar rfl _ _ _ rfl _ _ _ (tr f) rfl rfl hR (size16b _) ?_; intro w8 hA8 hb8 _ _))
      refine bodyPost_ret_ar rfl rfl hA8 Tryd.arr16b (size16b _) rfl ⟨rfl, ?_⟩
      exact hB.trans (hb8.mono (by omega))
end Go.Proofs.YtghcpfcomhfppaaDoor
