/-
  The walk of the law SboxMatchesReference of layer 4: for every byte it returns true, and writes nothing that was there.
-/
import Derived.Test.YtcnhindhoncpbaaDoorSbk
import Derived.Test.YtcnhindhoncpbaaDoorSbt
import Derived.Test.YtcnhindhoncpbaaDoorSbu
import Derived.Test.YtcnhindhoncpbaaDoorFiv
import Derived.Deep.RegionHeld3
namespace Go.Proofs.YtcnhindhoncpbaaDoor
open Go.RowKit
set_option linter.unusedVariables false
set_option maxRecDepth 100000

theorem heldM {g b : Nat} {W1 W W' : World} (k : W.rangeAt g 0 boxV ∧ W.cell? ⟨g, b, none⟩ = some (.int .u8 (sb b : Nat)) ∧ Boxes W ∧ Base W1 W) (hb : Below W.heap.size W W') :
    W'.rangeAt g 0 boxV ∧ W'.cell? ⟨g, b, none⟩ = some (.int .u8 (sb b : Nat)) ∧ Boxes W' ∧ Base W1 W' := by
  obtain ⟨k1, k2, k3, k4⟩ := k
  have hg : g < W.heap.size := by
    rcases Nat.lt_or_ge g W.heap.size with h1 | h1
    · exact h1
    · simp [World.cell?, Array.getElem?_eq_none h1] at k2
  exact ⟨fun j v hv => (hb.cell (p := ⟨g, 0 + j, none⟩) hg).trans (k1 j v hv), (hb.cell (p := ⟨g, b, none⟩) hg).trans k2, k3.keep hb, Base.step k4 hb⟩
theorem heldMb {g b : Nat} {W1 W : World} (k : W.rangeAt g 0 boxV ∧ W.cell? ⟨g, b, none⟩ = some (.int .u8 (sb b : Nat)) ∧ Boxes W ∧ Base W1 W) : Boxes W := k.2.2.1
theorem box_eq (w : World) : (Op.equalIn 10000 23 (.agg boxA) (.agg boxV.toArray)).run Tryd.prog w = .ok true w := by
  have h := run_equal_arr (P := Tryd.prog) Tryd.arr256 Tryd.underlying5 (by kernel_rfl) sb sb w
  rw [decide_eq_true (fun _ _ => rfl)] at h
  exact h
theorem Tryd.eqg256 : Tryd.prog.eqGuardType Tryd.prog.depth 23 = false := by kernel_rfl

set_option maxHeartbeats 4000000 in
theorem smatches (b : Nat) (w : World) (hb : b < 256) (h : Boxes w) :
    Calls Tryd.prog 3 #[.int .u8 b] w fun e w' => e = .returned (.bool true) ∧ Below w.heap.size w w' := by
  have hz := zero256
  have hbx := h.lt
  go_enter Tryd.func3, Tryd.ntmps3
  go_wp2_with fail
  refine (sawake _ h).mono ?_
  rintro e w1 ⟨rfl, rfl⟩
  go_wp2_with fail
  refine (reftable _).mono ?_
  rintro e w2 ⟨rfl, k2⟩
  have h2 := h.keep k2
  have hs2 := k2.size
  obtain ⟨g, hg⟩ : ∃ g : Nat, w2.heap.size = g := ⟨_, rfl⟩
  have hA : Ar (w2.alloc (.cells (arL 256 fun _ => 0).toArray 23)) g 256 (fun _ => 0) := by rw [← hg]; exact Ar.new w2 256 _ _
  have k3 : Below w1.heap.size w1 (w2.alloc (.cells (arL 256 fun _ => 0).toArray 23)) := k2.alloc (by omega) _
  have hgl : w1.heap.size ≤ g := by omega
  go_upto_region 4 with (refine wpList_store_ar rfl _ _ _ rfl _ _ _ sb rfl rfl hA (size_arL _) ?_; intro w4 hA4 hb4 hs4 _)
  have k4 := k3.trans (hb4.mono hgl)
  have h4 := h.keep k4
  have hr4 : w4.rangeAt g 0 boxV := hA4.range
  have hc4 := (hA4 b hb).1
  clear hA hb4 hs4 k3 k2 hs2 h2 hg
  have hgb : g < w4.heap.size := hA4.lt (by omega)
  have hi1 : (b : Int) < 256 := by omega
  have heq := box_eq
  have hgd := Tryd.eqg256
  have hu := Tryd.arr256
  have hsz := Tryd.size256
  obtain ⟨ib, hib⟩ : ∃ ib : Nat, inv b = ib := ⟨_, rfl⟩
  have hx : Hid (sb b = aff ib) := by unfold Hid; rw [← hib]; exact sb_aff b hb
  have hil : ib < 256 := by rw [← hib]; exact inv_lt b
  dsimp only [Act.put]
  go_region_held3 (fun W => W.rangeAt g 0 boxV ∧ W.cell? ⟨g, b, none⟩ = some (.int .u8 (sb b : Nat)) ∧ Boxes W ∧ Base w4 W)
    (first | assumption | (exact ⟨hr4, hc4, h4, (Base.refl _).drew⟩))
    (first
    | (go_at_call 9
       refine (stable _ (heldMb (by assumption))).mono ?_
       rintro e w6 ⟨rfl, hb6⟩
       have hN := heldM (by assumption) hb6)
    | (go_at_call 10
       refine (sboxS b _ hb (heldMb (by assumption))).mono ?_
       rintro e w6 ⟨rfl, rfl⟩)
    | (go_at_call 12
       refine (refinv b _ hb).mono ?_
       rintro e w6 ⟨rfl, hb6⟩
       rw [hib]
       have hN := heldM (by assumption) hb6)
    | (go_at_call 11
       refine (refaff _ _ (by assumption)).mono ?_
       rintro e w6 ⟨rfl, rfl⟩
       try rw [← hx.out])
    | (go_at_call 13
       refine (saff b _ hb).mono ?_
       rintro e w6 ⟨rfl, rfl⟩))
  have hH : Base w4 _ := (And.right (And.right (And.right (by assumption))))
  go_wp2_with fail
  go_ret
  exact ⟨rfl, k4.trans (Below.mono hH k4.size)⟩
end Go.Proofs.YtcnhindhoncpbaaDoor
