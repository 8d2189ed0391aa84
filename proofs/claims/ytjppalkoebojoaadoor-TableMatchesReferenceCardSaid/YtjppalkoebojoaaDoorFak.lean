/-
  Contracts of the methods expanded and Key of fast.Cipher, by walks through their texts: for a Cipher that New has made, for nil, for a zero one.
-/
import Derived.Test.YtjppalkoebojoaaDoorFaj
import Derived.Test.YtjppalkoebojoaaDoorCaw
namespace Go.Proofs.YtjppalkoebojoaaDoor
open Go.RowKit
set_option linter.unusedVariables false
set_option maxRecDepth 100000

/-- A value that stands for a Cipher of the key f in whatever later world. -/
def CipV (w : World) (v : Value) (f : Nat → Nat) : Prop := ∀ V, Below w.heap.size w V → Calls Tryd.prog 33 #[v] V fun e V' => ∃ g, e = .returned (.pointer (some ⟨g, 0, none⟩)) ∧ Ci V' g f ∧ (g < w.heap.size ∨ V.heap.size ≤ g) ∧ Below V.heap.size V V'
theorem CipV.to {w w' : World} {v : Value} {f : Nat → Nat} (h : CipV w v f) (hb : Below w.heap.size w w') : CipV w' v f := fun V hV => (h V (hb.trans (hV.mono hb.size))).mono fun e V' ⟨g, h1, h2, h3, h4⟩ => ⟨g, h1, h2, h3.imp (fun h => Nat.lt_of_lt_of_le h hb.size) id, h4⟩

theorem exp_made (g : Nat) (f : Nat → Nat) (w : World) (h : Ci w g f) : CipV w (.pointer (some ⟨g, 0, none⟩)) f := by
  intro V hV
  have hc := h.to hV
  have c0 := hc.ready
  have hl := h.lt
  clear h hV
  go_enter Tryd.func33, Tryd.ntmps33
  go_wp2_with fail
  go_ret
  exact ⟨g, rfl, hc, Or.inl hl, Below.refl _ _⟩
theorem exp_nil (w : World) (h : Boxes w) : CipV w (.pointer none) zF := by
  intro V hV
  have z0 := Lib.hid run_zero16
  have hn := Lib.hid (fnew zF V zF_lt (h.keep hV))
  clear h hV
  go_enter Tryd.func33, Tryd.ntmps33
  go_wp2_with (refine wpList_build_by rfl _ _ rfl [] rfl _ (z0.out _) ?_)
  refine hn.out.mono ?_
  rintro e w1 ⟨g, rfl, hg, hC, hb⟩
  go_wp2_with fail
  go_ret
  exact ⟨g, rfl, hC, Or.inr hg, hb⟩
theorem exp_zero (g : Nat) (T : Nat → Nat) (w : World) (hz : Cx w g 61 (ciF zF T false)) (h : Boxes w) : CipV w (.pointer (some ⟨g, 0, none⟩)) zF := by
  intro V hV
  have z0 := Lib.hid run_zero16
  have hn := Lib.hid (fnew zF V zF_lt (h.keep hV))
  have c0 : V.cell? ⟨g, 60, none⟩ = some (.bool false) := ((hz.to (by decide) hV) 60 (by decide)).1
  clear h hV hz
  go_enter Tryd.func33, Tryd.ntmps33
  go_wp2_with (refine wpList_build_by rfl _ _ rfl [] rfl _ (z0.out _) ?_)
  refine hn.out.mono ?_
  rintro e w1 ⟨g, rfl, hg, hC, hb⟩
  go_wp2_with fail
  go_ret
  exact ⟨g, rfl, hC, Or.inr hg, hb⟩

set_option maxHeartbeats 800000 in
theorem fkey (g : Nat) (f T : Nat → Nat) (b : Bool) (w : World) (h : Cx w g 61 (ciF f T b)) :
    Calls Tryd.prog 17 #[.pointer (some ⟨g, 0, none⟩)] w fun e w' => e = .returned (.agg (arL 16 f).toArray) ∧ Below w.heap.size w w' := by
  have hz := zero16b
  obtain ⟨w1, hw1⟩ : ∃ w1 : World, w1 = w.alloc (.cells (arL 16 fun _ => 0).toArray 22) := ⟨_, rfl⟩
  have hb1 : Below w.heap.size w w1 := by rw [hw1]; exact (Below.refl _ _).alloc (Nat.le_refl _) _
  have hR1 : Ar w1 w.heap.size 16 (fun _ => 0) := by rw [hw1]; exact Ar.new w 16 _ _
  have hc := (Cx.to h (by decide) hb1).range 0 (arL 16 f) (by rw [arL_len]; omega) (ciF_key _ _ _)
  clear h
  go_enter Tryd.func17, Tryd.ntmps17
  go_upto_region 1 with fail
  rw [← hw1]
  clear hw1
  go_wp2_with (first
    | (refine wpList_load_mid rfl _ _ rfl g 0 rfl (arL 16 f) _ hc Tryd.arr16b rfl (size16b _) ?_)
    | (refine wpList_store_ar rfl _ _ _ rfl _ _ _ f rfl rfl hR1 (size16b _) ?_; intro w8 hA8 hb8 _ _))
  refine bodyPost_ret_ar rfl rfl hA8 Tryd.arr16b (size16b _) rfl ⟨rfl, ?_⟩
  exact hb1.trans hb8
set_option maxHeartbeats 800000 in
theorem fkey_nil (w : World) :
    Calls Tryd.prog 17 #[.pointer none] w fun e w' => e = .returned (.agg (arL 16 zF).toArray) ∧ Below w.heap.size w w' := by
  have hz := zero16b
  have z0 := Lib.hid run_zero16
  obtain ⟨w1, hw1⟩ : ∃ w1 : World, w1 = w.alloc (.cells (arL 16 fun _ => 0).toArray 22) := ⟨_, rfl⟩
  have hb1 : Below w.heap.size w w1 := by rw [hw1]; exact (Below.refl _ _).alloc (Nat.le_refl _) _
  have hR1 : Ar w1 w.heap.size 16 (fun _ => 0) := by rw [hw1]; exact Ar.new w 16 _ _
  go_enter Tryd.func17, Tryd.ntmps17
  go_upto_region 1 with fail
  rw [← hw1]
  clear hw1
  go_wp2_with (first
    | (refine wpList_build_by rfl _ _ rfl [] rfl _ (z0.out _) ?_)
    | (refine wpList_store_ar rfl _ _ _ rfl _ _ _ (fun _ => 0) rfl rfl hR1 (size16b _) ?_; intro w8 hA8 hb8 _ _))
  refine bodyPost_ret_ar rfl rfl hA8 Tryd.arr16b (size16b _) rfl ⟨rfl, ?_⟩
  exact hb1.trans hb8
end Go.Proofs.YtjppalkoebojoaaDoor
