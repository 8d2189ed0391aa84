/-
  Contract of keys.Expand, by a walk through its text; what was there stays as it was.
-/
import Derived.Test.YtghcpfcomhfppaaDoorKec
namespace Go.Proofs.YtghcpfcomhfppaaDoor
open Go.RowKit
set_option linter.unusedVariables false
set_option maxRecDepth 100000

theorem Tryd.zero176e : (Tryd.prog.info? 26).map (fun i => (i.zero, i.size)) = some (some (.agg (Array.replicate 176 (.int .u8 0))), 176) := by kernel_rfl
theorem Tryd.arr11 : Tryd.prog.underlying 26 = some (.array 11 22) := by kernel_rfl
theorem size176e (f : Nat → Nat) : (Tryd.prog.info? 26).map (·.size) = some (arL 176 f).length := by rw [arL_len]; exact (zero_of_info Tryd.zero176e).2
theorem zero176e (w : World) : (zeroValue 26).run Tryd.prog w = .ok (.agg (arL 176 fun _ => 0).toArray) w := by
  rw [arL_zero]; exact (zero_of_info Tryd.zero176e).1 w

theorem built_first (f : Nat → Nat) : Tryd.prog.built 26 [(0, .agg (arL 16 f).toArray)] = some (arL 176 fun i => if i < 16 then f i else 0).toArray := by kernel_rfl
theorem run_first (f : Nat → Nat) (w : World) : (Instr.build 26 #[(0, .agg (arL 16 f).toArray)]).run Tryd.prog w = .ok (.agg (arL 176 fun i => if i < 16 then f i else 0).toArray) w :=
  run_build w _ _ _ (built_first f)

set_option maxHeartbeats 1600000 in
theorem kexpand (f : Nat → Nat) (hf : ∀ j, j < 16 → f j < 256) (w : World) (h : Boxes w) :
    Calls Tryd.prog 27 #[.agg (arL 16 f).toArray] w fun e w' => e = .returned (.agg (arL 176 (ek f)).toArray) ∧ Below w.heap.size w w' := by
  have hz0 := zero176e
  obtain ⟨kA, hkA⟩ : ∃ kA : Array Value, (arL 16 f).toArray = kA := ⟨_, rfl⟩
  obtain ⟨w1, hw1⟩ : ∃ w1 : World, w1 = w.alloc (.cells (arL 16 f).toArray 22) := ⟨_, rfl⟩
  have hs1 : w1.heap.size = w.heap.size + 1 := by rw [hw1]; simp
  have hb1 : Below w.heap.size w w1 := by rw [hw1]; exact (Below.refl _ _).alloc (Nat.le_refl _) _
  have hK1 : Ar w1 w.heap.size 16 f := by rw [hw1]; exact Ar.new w 16 _ _
  obtain ⟨w2, hw2⟩ : ∃ w2 : World, w2 = w1.alloc (.cells (arL 176 fun _ => 0).toArray 26) := ⟨_, rfl⟩
  have hs2 : w2.heap.size = w.heap.size + 2 := by rw [hw2]; simp [hs1]
  have hb2 : Below w.heap.size w w2 := by rw [hw2]; exact hb1.alloc (by omega) _
  have hR2 : Ar w2 (w.heap.size + 1) 176 (fun _ => 0) := by rw [hw2, ← hs1]; exact Ar.new w1 176 _ _
  have hK2 : Ar w2 w.heap.size 16 f := by rw [hw2]; exact hK1.alloc (by omega) _
  have hbd := run_first f
  rw [hkA] at hw1 hbd
  rw [hkA]
  clear hb1 hK1
  go_enter Tryd.func27, Tryd.ntmps27
  go_upto_region 1 with fail
  rw [← hw1, ← hw2]
  clear hw1 hw2
  have hT3 : Ar (w2.alloc (.cells (arL 176 fun _ => 0).toArray 26)) (w.heap.size + 2) 176 (fun _ => 0) := by rw [← hs2]; exact Ar.new w2 176 _ _
  have hR3 : Ar (w2.alloc (.cells (arL 176 fun _ => 0).toArray 26)) (w.heap.size + 1) 176 (fun _ => 0) := hR2.alloc (by omega) _
  have hb3 : Below w.heap.size w (w2.alloc (.cells (arL 176 fun _ => 0).toArray 26)) := hb2.alloc (by omega) _
  have hs3 : (w2.alloc (.cells (arL 176 fun _ => 0).toArray 26)).heap.size = w.heap.size + 3 := by simp [hs2]
  go_upto_region 2 with (first
    | (refine wpList_load_ar rfl _ _ rfl _ _ _ rfl hK2 Tryd.arr16 (size16 _) ?_; rw [hkA])
    | (refine wpList_build_by rfl _ _ rfl [(0, .agg kA)] rfl _ (hbd _) ?_)
    | (refine wpList_store_ar rfl _ _ _ rfl _ _ _ (fun i => if i < 16 then f i else 0) rfl rfl hT3 (size176e _) ?_; intro w4 hT4 hb4 hs4 hk4))
  have hR4 := hk4 _ _ _ (by omega) hR3
  have hB4 := hb3.trans (hb4.mono (by omega))
  clear hT3 hR3 hb3 hs3 hb4 hk4 hs4 hK2 hR2 hb2 hs1 hs2 hbd
  dsimp only [Act.put]
  have HF := Lib.hid hf
  have HB := Lib.hid h
  have hT4' := hT4.ext (f' := fun m => if m < 16 * (0 + 1) then ek f m else 0) (fun j hj => by
    by_cases hc : j < 16
    · rw [if_pos hc, if_pos (by omega), ek_key f j hc]
    · rw [if_neg hc, if_neg (by omega)])
  clear hf h hT4
  go_upto_region 3 with fail
  go_loopw [7] (fun i wr => ∃ n : Nat, n ≤ 10 ∧ i = .int .i64 n ∧ Ar wr (w.heap.size + 2) 176 (fun m => if m < 16 * (n + 1) then ek f m else 0) ∧ Ar wr (w.heap.size + 1) 176 (fun _ => 0) ∧ Below w.heap.size w wr) (fun i _ => 10 - (intOf i).toNat)
  case atStart => exact ⟨0, by omega, rfl, hT4', hR4, hB4⟩
  case round =>
    clear hT4' hR4 hB4
    obtain ⟨n, hn, rfl, hT, hR, hB⟩ := hrel
    by_cases hlt : n < 10
    · have hi : (n : Int) < 11 := by omega
      have hi2 : (n : Int) + 1 < 11 := by omega
      have hrk := Lib.hid (arL_ext (n := 16) (f := fun j => (fun m => if m < 16 * (n + 1) then ek f m else 0) (n * 16 + j)) (g := rk f n) (fun j hj => by
        dsimp only
        rw [if_pos (by omega), Nat.mul_comm n 16, ek_rk f n j hj]))
      go_wp2_with (refine wpList_load_arO rfl _ _ rfl _ 176 (n * 16) 16 _ rfl hT (by omega) Tryd.arr16 (size16 _) ?_; rw [hrk.out])
      refine (knext n (rk f n) (rk_lt f HF.out n) _ hlt (HB.out.keep hB)).mono ?_
      rintro e w5 ⟨rfl, k5⟩
      have hT5 := hT.to (by omega) k5
      have hR5 := hR.to (by omega) k5
      have hB5 := hB.trans (k5.mono hB.size)
      clear hT hR hB k5 hrk
      rw [show nx (pwr 2 n) (rk f n) = rk f (n + 1) from rfl]
      go_wp2_with (refine wpList_store_arO rfl _ _ _ rfl _ 176 ((n + 1) * 16) 16 _ (rk f (n + 1)) rfl rfl hT5 (by omega) (size16 _) ?_; intro w6 hT6 hb6 hs6 hk6)
      have hR6 := hk6 _ _ _ (by omega) hR5
      have hB6 := hB5.trans (hb6.mono (by omega))
      have hT7 := hT6.ext (f' := fun m => if m < 16 * (n + 1 + 1) then ek f m else 0) (fun j hj => by
        unfold putO
        by_cases hc : (n + 1) * 16 ≤ j ∧ j < (n + 1) * 16 + 16
        · rw [if_pos hc, if_pos (by omega)]
          have := ek_rk f (n + 1) (j - (n + 1) * 16) (by omega)
          rw [← this]; congr 1; omega
        · rw [if_neg hc]
          dsimp only
          by_cases h2 : j < 16 * (n + 1)
          · rw [if_pos h2, if_pos (by omega)]
          · rw [if_neg h2, if_neg (by omega)])
      clear hT5 hR5 hB5 hT6 hb6 hs6 hk6
      go_roundw
      case rel => exact ⟨n + 1, by omega, by go_num, hT7, hR6, hB6⟩
      case measure => simp [intOf]; omega
    · obtain rfl : n = 10 := by omega
      have hT2 := hT.ext (f' := ek f) (fun j hj => by rw [if_pos (by omega)])
      clear hT
      go_wp2_with (first
        | (refine wpList_load_ar rfl _ _ rfl _ _ _ rfl hT2 Tryd.arr11 (size176e _) ?_)
        | (refine wpList_store_ar rfl _ _ _ rfl _ _ _ (ek f) rfl rfl hR (size176e _) ?_; intro w8 hA8 hb8 _ _))
      refine bodyPost_ret_ar rfl rfl hA8 Tryd.arr11 (size176e _) rfl ⟨rfl, ?_⟩
      exact hB.trans (hb8.mono (by omega))
end Go.Proofs.YtghcpfcomhfppaaDoor
