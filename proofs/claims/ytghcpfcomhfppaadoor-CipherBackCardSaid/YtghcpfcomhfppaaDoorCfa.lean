/-
  Contract of cipher.fill, whatever the function handed to it: its results, one after the other, by a walk through its text; what was there stays as it was.
-/
import Derived.Test.YtghcpfcomhfppaaDoorCra
namespace Go.Proofs.YtghcpfcomhfppaaDoor
open Go.RowKit
set_option linter.unusedVariables false
set_option maxRecDepth 100000

set_option maxHeartbeats 800000 in
theorem cfill (F : Nat) (cap : Array Value) (G : Nat → Nat) (w : World) (hF : ∀ args V, (callFunc F args).run Tryd.prog V = .ok (.enter F args) V)
    (hc : ∀ n, n < 16 → ∀ V, Below w.heap.size w V → Calls Tryd.prog F (#[.int .i64 (n : Int)] ++ cap) V fun e V' => e = .returned (.int .u8 (G n : Nat)) ∧ Below V.heap.size V V') :
    Calls Tryd.prog 31 #[.func (.func F) #[] cap] w fun e w' => e = .returned (.agg (arL 16 G).toArray) ∧ Below w.heap.size w w' := by
  have hz := zero16b
  obtain ⟨w2, hw2⟩ : ∃ w2 : World, w2 = w.alloc (.cells (arL 16 fun _ => 0).toArray 22) := ⟨_, rfl⟩
  have hs2 : w2.heap.size = w.heap.size + 1 := by rw [hw2]; simp
  have hb2 : Below w.heap.size w w2 := by rw [hw2]; exact (Below.refl _ _).alloc (by omega) _
  have hR2 : Ar w2 w.heap.size 16 (fun _ => 0) := by rw [hw2]; exact Ar.new w 16 _ _
  obtain ⟨w3, hw3⟩ : ∃ w3 : World, w3 = w2.alloc (.cells (arL 16 fun _ => 0).toArray 22) := ⟨_, rfl⟩
  have hb3 : Below w.heap.size w w3 := by rw [hw3]; exact hb2.alloc (by omega) _
  have hT3 : Ar w3 (w.heap.size + 1) 16 (fun _ => 0) := by rw [hw3, ← hs2]; exact Ar.new w2 16 _ _
  have hR3 : Ar w3 w.heap.size 16 (fun _ => 0) := by rw [hw3]; exact hR2.alloc (by omega) _
  clear hb2 hR2
  go_enter Tryd.func31, Tryd.ntmps31
  go_upto_region 2 with fail
  rw [← hw2, ← hw3]
  clear hw2 hw3 hs2
  have HC := Lib.hid hc
  clear hc
  go_wp2_with fail
  go_loopw [5] (fun i wr => ∃ n : Nat, n ≤ 16 ∧ i = .int .i64 n ∧ Ar wr w.heap.size 16 (fun _ => 0) ∧ Ar wr (w.heap.size + 1) 16 (fun m => if m < n then G m else 0) ∧ Below w.heap.size w wr) (fun i _ => 16 - (intOf i).toNat)
  case atStart => exact ⟨0, Nat.zero_le _, rfl, hR3, hT3.ext (fun _ _ => rfl), hb3⟩
  case round =>
    clear hR3 hT3 hb3
    obtain ⟨n, hn, rfl, hR, hT, hB⟩ := hrel
    by_cases hlt : n < 16
    · have i1 : (n : Int) < 16 := by omega
      have hcall : ∀ V, (callFunc F (#[.int .i64 (n : Int)] ++ cap)).run Tryd.prog V = .ok (.enter F (#[.int .i64 (n : Int)] ++ cap)) V := fun V => hF _ V
      go_wp2_with fail
      refine (HC.out n hlt _ hB).mono ?_
      rintro e w6 ⟨rfl, hb6⟩
      have hB6 := hB.trans (hb6.mono hB.size)
      have hR6 := hR.to (by omega) hb6
      have hT6 := hT.to (by omega) hb6
      obtain ⟨c1, f1⟩ := hT6 n hlt
      have hT9 := (hT6.set (j := n) (v := G n) (by omega) rfl).ext (f' := fun m => if m < n + 1 then G m else 0) (fun m hm => low_step G n m)
      have hR9 := hR6.far (p := ⟨w.heap.size + 1, n, none⟩) (by simp) (.int .u8 (G n : Nat))
      have hB9 := hB6.setCell (p := ⟨w.heap.size + 1, n, none⟩) (by simp) (.int .u8 (G n : Nat))
      clear hT hR hB hb6 hR6 hT6 hB6
      go_wp2_with fail
      go_roundw
      case rel => exact ⟨n + 1, by omega, by go_num, hR9, hT9, hB9⟩
      case measure => simp [intOf]; omega
    · obtain rfl : n = 16 := by omega
      have hT2 := hT.ext (f' := G) (fun j hj => by rw [if_pos (by omega)])
      clear hT
      go_wp2_with (first
        | (refine wpList_load_ar rfl _ _ rfl _ _ _ rfl hT2 Tryd.arr16b (size16b _) ?_)
        | (refine wpList_store_ar rfl _ _ _ rfl _ _ _ G rfl rfl hR (size16b _) ?_; intro w8 hA8 hb8 _ _))
      refine bodyPost_ret_ar rfl rfl hA8 Tryd.arr16b (size16b _) rfl ⟨rfl, ?_⟩
      exact hB.trans (hb8.mono (by omega))
end Go.Proofs.YtghcpfcomhfppaaDoor
