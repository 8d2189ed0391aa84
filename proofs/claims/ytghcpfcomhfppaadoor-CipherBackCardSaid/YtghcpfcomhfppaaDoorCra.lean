/-
  Contracts of the grid of a block and of the block of a grid in the reference package of layer 6, by walks through their texts; what was there stays as it was.
-/
import Derived.Test.YtghcpfcomhfppaaDoorFre
import Derived.Test.YtghcpfcomhfppaaDoorSbs
import Derived.BigRegion
import Derived.Deep.RegionHeld3
namespace Go.Proofs.YtghcpfcomhfppaaDoor
open Go.RowKit
set_option linter.unusedVariables false
set_option maxRecDepth 100000

theorem Tryd.arr16b : Tryd.prog.underlying 22 = some (.array 16 5) := by kernel_rfl
theorem Tryd.zero16b : (Tryd.prog.info? 22).map (fun i => (i.zero, i.size)) = some (some (.agg (Array.replicate 16 (.int .u8 0))), 16) := by kernel_rfl
theorem size16b (f : Nat → Nat) : (Tryd.prog.info? 22).map (·.size) = some (arL 16 f).length := by rw [arL_len]; exact (zero_of_info Tryd.zero16b).2
theorem zero16b (w : World) : (zeroValue 22).run Tryd.prog w = .ok (.agg (arL 16 fun _ => 0).toArray) w := by
  rw [arL_zero]; exact (zero_of_info Tryd.zero16b).1 w
theorem Tryd.arrG : Tryd.prog.underlying 34 = some (.array 4 32) := by kernel_rfl
theorem Tryd.zeroG : (Tryd.prog.info? 34).map (fun i => (i.zero, i.size)) = some (some (.agg (Array.replicate 16 (.int .u8 0))), 16) := by kernel_rfl
theorem sizeG (f : Nat → Nat) : (Tryd.prog.info? 34).map (·.size) = some (arL 16 f).length := by rw [arL_len]; exact (zero_of_info Tryd.zeroG).2
theorem zeroG (w : World) : (zeroValue 34).run Tryd.prog w = .ok (.agg (arL 16 fun _ => 0).toArray) w := by
  rw [arL_zero]; exact (zero_of_info Tryd.zeroG).1 w
theorem tr_step (f : Nat → Nat) (n m a b : Nat) (ha : a = n % 4) (hb : b = n / 4) (hn : n < 16) (hm : m < 16) :
    (if m = a * 4 + b then f n else (if 4 * (m % 4) + m / 4 < n then tr f m else 0)) = if 4 * (m % 4) + m / 4 < n + 1 then tr f m else 0 := by
  by_cases h : m = a * 4 + b
  · have e : 4 * (m % 4) + m / 4 = n := by omega
    rw [if_pos h, if_pos (by omega), tr, e]
  · rw [if_neg h]
    have e : 4 * (m % 4) + m / 4 ≠ n := by omega
    by_cases h2 : 4 * (m % 4) + m / 4 < n
    · rw [if_pos h2, if_pos (by omega)]
    · rw [if_neg h2, if_neg (by omega)]

set_option maxHeartbeats 800000 in
theorem refOf (f : Nat → Nat) (w : World) :
    Calls Tryd.prog 13 #[.agg (arL 16 f).toArray] w fun e w' => e = .returned (.agg (arL 16 (tr f)).toArray) ∧ Below w.heap.size w w' := by
  have hz := zeroG
  obtain ⟨kA, hkA⟩ : ∃ kA : Array Value, (arL 16 f).toArray = kA := ⟨_, rfl⟩
  obtain ⟨w1, hw1⟩ : ∃ w1 : World, w1 = w.alloc (.cells (arL 16 f).toArray 22) := ⟨_, rfl⟩
  have hs1 : w1.heap.size = w.heap.size + 1 := by rw [hw1]; simp
  have hb1 : Below w.heap.size w w1 := by rw [hw1]; exact (Below.refl _ _).alloc (Nat.le_refl _) _
  have hK1 : Ar w1 w.heap.size 16 f := by rw [hw1]; exact Ar.new w 16 f _
  obtain ⟨w2, hw2⟩ : ∃ w2 : World, w2 = w1.alloc (.cells (arL 16 fun _ => 0).toArray 34) := ⟨_, rfl⟩
  have hs2 : w2.heap.size = w.heap.size + 2 := by rw [hw2]; simp [hs1]
  have hb2 : Below w.heap.size w w2 := by rw [hw2]; exact hb1.alloc (by omega) _
  have hR2 : Ar w2 (w.heap.size + 1) 16 (fun _ => 0) := by rw [hw2, ← hs1]; exact Ar.new w1 16 _ _
  have hK2 : Ar w2 w.heap.size 16 f := by rw [hw2]; exact hK1.alloc (by omega) _
  obtain ⟨w3, hw3⟩ : ∃ w3 : World, w3 = w2.alloc (.cells (arL 16 fun _ => 0).toArray 34) := ⟨_, rfl⟩
  have hb3 : Below w.heap.size w w3 := by rw [hw3]; exact hb2.alloc (by omega) _
  have hT3 : Ar w3 (w.heap.size + 2) 16 (fun _ => 0) := by rw [hw3, ← hs2]; exact Ar.new w2 16 _ _
  have hR3 : Ar w3 (w.heap.size + 1) 16 (fun _ => 0) := by rw [hw3]; exact hR2.alloc (by omega) _
  have hK3 : Ar w3 w.heap.size 16 f := by rw [hw3]; exact hK2.alloc (by omega) _
  rw [hkA] at hw1
  rw [hkA]
  clear hb1 hK1 hb2 hR2 hK2 hkA
  go_enter Tryd.func13, Tryd.ntmps13
  go_upto_region 2 with fail
  rw [← hw1, ← hw2, ← hw3]
  clear hw1 hw2 hw3 hs1 hs2
  obtain ⟨gT, hgT⟩ : ∃ gT : Nat, w.heap.size + 2 = gT := ⟨_, rfl⟩
  have hge : w.heap.size + 2 ≤ gT := by omega
  have hgT2 : w.heap.size + 1 + 1 = gT := hgT
  rw [hgT] at hT3
  rw [hgT2]
  clear hgT hgT2
  go_wp2_with fail
  go_loopw [4] (fun i wr => ∃ n : Nat, n ≤ 16 ∧ i = .int .i64 n ∧ Ar wr w.heap.size 16 f ∧ Ar wr (w.heap.size + 1) 16 (fun _ => 0) ∧ Ar wr gT 16 (fun m => if 4 * (m % 4) + m / 4 < n then tr f m else 0) ∧ Below w.heap.size w wr) (fun i _ => 16 - (intOf i).toNat)
  case atStart => exact ⟨0, Nat.zero_le _, rfl, hK3, hR3, hT3.ext (fun _ _ => by simp), hb3⟩
  case round =>
    clear hK3 hR3 hT3 hb3
    obtain ⟨n, hn, rfl, hK, hR, hT, hB⟩ := hrel
    by_cases hlt : n < 16
    · obtain ⟨a, ha⟩ : ∃ a : Nat, a = n % 4 := ⟨_, rfl⟩
      obtain ⟨b, hb⟩ : ∃ b : Nat, b = n / 4 := ⟨_, rfl⟩
      have a1 : ((n : Int)).tmod 4 = (a : Int) := by rw [Int.tmod_eq_emod_of_nonneg (by omega)]; omega
      have a2 : (n : Int) % 4 = (a : Int) := by omega
      have a3 : IntKind.i64.wrap (a : Int) = (a : Int) := wraps_i64' _ (by omega) (by omega)
      have b1 : ((n : Int)).tdiv 4 = (b : Int) := by rw [Int.tdiv_eq_ediv_of_nonneg (by omega)]; omega
      have b2 : (n : Int) / 4 = (b : Int) := by omega
      have b3 : IntKind.i64.wrap (b : Int) = (b : Int) := wraps_i64' _ (by omega) (by omega)
      have i1 : (a : Int) < 4 := by omega
      have i2 : (b : Int) < 4 := by omega
      have i3 : (n : Int) < 16 := by omega
      obtain ⟨c0, _⟩ := hK n hlt
      obtain ⟨c1, f1⟩ := hT (a * 4 + b) (by omega)
      have hT2 := (hT.set (j := a * 4 + b) (v := f n) (by omega) rfl).ext (fun m hm => tr_step f n m a b ha hb hlt hm)
      have hK2 := hK.far (p := ⟨gT, a * 4 + b, none⟩) (by simp; omega) (.int .u8 (f n : Nat))
      have hR2 := hR.far (p := ⟨gT, a * 4 + b, none⟩) (by simp; omega) (.int .u8 (f n : Nat))
      have hB2 := hB.setCell (p := ⟨gT, a * 4 + b, none⟩) (by simp; omega) (.int .u8 (f n : Nat))
      clear hT hK hR hB ha hb
      go_wp2_with fail
      refine wp_region_noPanic ?_
      go_big_region
      refine NoPanic.normal ?_
      go_wp2_with fail
      go_roundw
      case rel => exact ⟨n + 1, by omega, by go_num, hK2.drew, hR2.drew, hT2.drew, hB2.drew⟩
      case measure => simp [intOf]; omega
    · obtain rfl : n = 16 := by omega
      have hT2 := hT.ext (f' := tr f) (fun j hj => by rw [if_pos (by omega)])
      clear hT
      go_wp2_with (first
        | (refine wpList_load_ar rfl _ _ rfl _ _ _ rfl hT2 Tryd.arrG (sizeG _) ?_)
        | (refine wpList_store_ar rfl _ _ _ rfl _ _ _ (tr f) rfl rfl hR (sizeG _) ?_; intro w8 hA8 hb8 _ _))
      refine bodyPost_ret_ar rfl rfl hA8 Tryd.arrG (sizeG _) rfl ⟨rfl, ?_⟩
      exact hB.trans (hb8.mono (by omega))
end Go.Proofs.YtghcpfcomhfppaaDoor
