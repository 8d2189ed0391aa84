/-
  Contract of sbox.Table and of the reference's table, by walks through their texts; what was there stays as it was.
-/
import Derived.Test.YtcnhindhoncpbaaDoorSbr
import Derived.Deep.RegionHeld3
namespace Go.Proofs.YtcnhindhoncpbaaDoor
open Go.RowKit
set_option linter.unusedVariables false
set_option maxRecDepth 10000

set_option maxHeartbeats 800000 in
theorem stable (w : World) (h : Boxes w) :
    Calls Tryd.prog 9 #[] w fun e w' => e = .returned (.agg boxA) ∧ Below w.heap.size w w' := by
  have hz := zero256
  have hA : Ar (w.alloc (.cells (arL 256 fun _ => 0).toArray 23)) w.heap.size 256 (fun _ => 0) := Ar.new w 256 _ _
  have hbel : Below w.heap.size w (w.alloc (.cells (arL 256 fun _ => 0).toArray 23)) := (Below.refl _ _).alloc (Nat.le_refl _) _
  have hB := h.keep hbel
  go_enter Tryd.func9, Tryd.ntmps9
  go_upto_region 1 with fail
  obtain ⟨w2, hw2⟩ : ∃ w2 : World, w2 = w.alloc (.cells (arL 256 fun _ => 0).toArray 23) := ⟨_, rfl⟩
  rw [← hw2] at hA hbel hB
  rw [← hw2]
  clear hw2
  go_wp2_with (first
    | (refine wpList_load_mid rfl _ _ rfl _ _ rfl boxV _ hB Tryd.arr256 rfl Tryd.size256 ?_; rw [boxA_def])
    | (refine wpList_store_ar rfl _ _ _ rfl _ _ _ sb rfl rfl hA (size_arL _) ?_; intro w3 hA3 hb3 _ _))
  refine bodyPost_ret_ar rfl rfl hA3 Tryd.arr256 (size_arL _) rfl ⟨rfl, ?_⟩
  exact hbel.trans hb3
end Go.Proofs.YtcnhindhoncpbaaDoor
