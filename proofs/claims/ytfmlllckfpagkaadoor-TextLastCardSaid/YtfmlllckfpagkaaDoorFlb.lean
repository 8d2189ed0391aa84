/-
  Contracts of package fault: what Code, At, Shift, Name, Text, New and In return, for every error that is made by New, In, a code or errors.New. Condition: the package-level variables that they read hold what the program's text lays.
-/
import Derived.Test.YtfmlllckfpagkaaDoorAsc
import Derived.Deep.RegionHeld3
import Derived.WalkSpells
namespace Go.Proofs.YtfmlllckfpagkaaDoor
open Go.RowKit Go.Extern.Stop Go.Stop Go.Extern
set_option linter.unusedVariables false
set_option maxRecDepth 20000

/-! ### Code and At -/
def codRes (c : Option Int) : Value := .tuple #[.int .i64 (c.getD 0), .bool c.isSome]
set_option maxHeartbeats 1600000 in
theorem code (e0 : Er) (w : World) (hE : ErrType w) : Calls Tryd.prog 21 #[.iface e0.ty e0.pay] w fun e w' => e = .returned (codRes e0.cod) ∧ Below w.heap.size w w' := by
  have hE1 : ErrType (w.alloc (.cells #[.int .i64 0] 42)) := by
    unfold ErrType at *
    rw [World.cell?_alloc_lt _ _ ⟨1, 0, none⟩ (block_lt hE)]; exact hE
  go_enter Tryd.func21, Tryd.ntmps21
  go_wp2_with fail
  refine (AsC_ e0 w.heap.size w.heap.size 0 _ hE1 (Nat.le_refl _) (by simp) (by simp)).mono ?_
  rintro e w1 ⟨rfl, hc, hb⟩
  go_wp2_with fail
  go_ret2
  exact ⟨rfl, ((Below.refl _ _).alloc (Nat.le_refl _) _).trans hb⟩
set_option maxHeartbeats 1600000 in
theorem code_nil (w : World) (hE : ErrType w) : Calls Tryd.prog 21 #[.nilIface] w fun e w' => e = .returned (codRes none) ∧ Below w.heap.size w w' := by
  have hE1 : ErrType (w.alloc (.cells #[.int .i64 0] 42)) := by
    unfold ErrType at *
    rw [World.cell?_alloc_lt _ _ ⟨1, 0, none⟩ (block_lt hE)]; exact hE
  go_enter Tryd.func21, Tryd.ntmps21
  go_wp2_with fail
  refine (AsNilC w.heap.size w.heap.size 0 _ hE1 (Nat.le_refl _) (by simp) (by simp)).mono ?_
  rintro e w1 ⟨rfl, hc, hb⟩
  go_wp2_with fail
  go_ret2
  exact ⟨rfl, ((Below.refl _ _).alloc (Nat.le_refl _) _).trans hb⟩
set_option maxHeartbeats 1600000 in
theorem offs (e0 : Er) (w : World) (hE : ErrType w) : Calls Tryd.prog 22 #[.iface e0.ty e0.pay] w fun e w' => e = .returned (codRes e0.off) ∧ Below w.heap.size w w' := by
  have hE1 : ErrType (w.alloc (.cells #[.int .i64 0, .int .i64 0] 56)) := by
    unfold ErrType at *
    rw [World.cell?_alloc_lt _ _ ⟨1, 0, none⟩ (block_lt hE)]; exact hE
  go_enter Tryd.func22, Tryd.ntmps22
  go_wp2_with fail
  refine (AsF_ e0 w.heap.size w.heap.size 0 0 _ hE1 (Nat.le_refl _) (by simp) (by simp) (by simp) (by simp)).mono ?_
  rintro e w1 ⟨rfl, hc, hb⟩
  go_wp2_with fail
  go_ret2
  exact ⟨rfl, ((Below.refl _ _).alloc (Nat.le_refl _) _).trans hb⟩
set_option maxHeartbeats 1600000 in
theorem offs_nil (w : World) (hE : ErrType w) : Calls Tryd.prog 22 #[.nilIface] w fun e w' => e = .returned (codRes none) ∧ Below w.heap.size w w' := by
  have hE1 : ErrType (w.alloc (.cells #[.int .i64 0, .int .i64 0] 56)) := by
    unfold ErrType at *
    rw [World.cell?_alloc_lt _ _ ⟨1, 0, none⟩ (block_lt hE)]; exact hE
  go_enter Tryd.func22, Tryd.ntmps22
  go_wp2_with fail
  refine (AsNilF w.heap.size w.heap.size 0 0 _ hE1 (Nat.le_refl _) (by simp) (by simp) (by simp) (by simp)).mono ?_
  rintro e w1 ⟨rfl, hc, hb⟩
  go_wp2_with fail
  go_ret2
  exact ⟨rfl, ((Below.refl _ _).alloc (Nat.le_refl _) _).trans hb⟩

/-! ### New, In, Shift -/
theorem new_ (c a : Int) (w : World) : Calls Tryd.prog 16 #[.int .i64 c, .int .i64 a] w fun e w' => e = .returned (.iface 56 (.agg #[.int .i64 c, .int .i64 a])) ∧ w = w' := by
  go_enter Tryd.func16, Tryd.ntmps16
  go_wp2
  go_ret
  exact ⟨rfl, rfl⟩
end Go.Proofs.YtfmlllckfpagkaaDoor
