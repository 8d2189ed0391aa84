/-
  Contracts of the methods expanded and Key of fast.Cipher, by walks through their texts: for a Cipher that New has made, for nil, for a zero one.
-/
import Derived.Test.YtblhfmlgpldaeaaDoorFaj
import Derived.Test.YtblhfmlgpldaeaaDoorCaw
namespace Go.Proofs.YtblhfmlgpldaeaaDoor
open Go.RowKit
set_option linter.unusedVariables false
set_option maxRecDepth 100000

/-- A value that stands for a Cipher of the key f in whatever later world. -/
def CipV (w : World) (v : Value) (f : Nat → Nat) : Prop := ∀ V, Below w.heap.size w V → Calls Tryd.prog 46 #[v] V fun e V' => ∃ g, e = .returned (.pointer (some ⟨g, 0, none⟩)) ∧ Ci V' g f ∧ (g < w.heap.size ∨ V.heap.size ≤ g) ∧ Below V.heap.size V V'
theorem CipV.to {w w' : World} {v : Value} {f : Nat → Nat} (h : CipV w v f) (hb : Below w.heap.size w w') : CipV w' v f := fun V hV => (h V (hb.trans (hV.mono hb.size))).mono fun e V' ⟨g, h1, h2, h3, h4⟩ => ⟨g, h1, h2, h3.imp (fun h => Nat.lt_of_lt_of_le h hb.size) id, h4⟩

theorem exp_made (g : Nat) (f : Nat → Nat) (w : World) (h : Ci w g f) : CipV w (.pointer (some ⟨g, 0, none⟩)) f := by
  intro V hV
  have hc := h.to hV
  have c0 := hc.ready
  have hl := h.lt
  clear h hV
  go_enter Tryd.func46, Tryd.ntmps46
  go_wp2_with fail
  go_ret
  exact ⟨g, rfl, hc, Or.inl hl, Below.refl _ _⟩
theorem exp_nil (w : World) (h : Boxes w) : CipV w (.pointer none) zF := by
  intro V hV
  have z0 := Lib.hid run_zero16
  have hn := Lib.hid (fnew zF V zF_lt (h.keep hV))
  clear h hV
  go_enter Tryd.func46, Tryd.ntmps46
  go_wp2_with (refine wpList_build_by rfl _ _ rfl [] rfl _ (z0.out _) ?_)
  refine hn.out.mono ?_
  rintro e w1 ⟨g, rfl, hg, hC, hb⟩
  go_wp2_with fail
  go_ret
  exact ⟨g, rfl, hC, Or.inr hg, hb⟩
theorem exp_zero (g : Nat) (T : Nat → Nat) (w : World) (hz : Cx w g 61 (ciF zF T false)) (h : Boxes w) : CipV w (.pointer (some ⟨g, 0, none⟩)) zF := by
  intro V hV
  have z0 := Lib.hid run_zero16
  have hn := Lib.hid (fnew zF V zF_lt (h.keep hV))
  have c0 : V.cell? ⟨g, 60, none⟩ = some (.bool false) := ((hz.to (by decide) hV) 60 (by decide)).1
  clear h hV hz
  go_enter Tryd.func46, Tryd.ntmps46
  go_wp2_with (refine wpList_build_by rfl _ _ rfl [] rfl _ (z0.out _) ?_)
  refine hn.out.mono ?_
  rintro e w1 ⟨g, rfl, hg, hC, hb⟩
  go_wp2_with fail
  go_ret
  exact ⟨g, rfl, hC, Or.inr hg, hb⟩

end Go.Proofs.YtblhfmlgpldaeaaDoor
