/-
  Contracts of package fault: what Code, At, Shift, Name, Text, New and In return, for every error that is made by New, In, a code or errors.New. Condition: the package-level variables that they read hold what the program's text lays.
-/
import Derived.Test.YtiddiahlodlmlaaDoorAs3
import Derived.Test.YtiddiahlodlmlaaDoorShelf
import Derived.Deep.RegionHeld3
import Derived.WalkSpells
namespace Go.Proofs.YtiddiahlodlmlaaDoor
open Go.RowKit Go.Extern.Stop Go.Stop Go.Extern
set_option linter.unusedVariables false
set_option maxRecDepth 20000

/-! ### The variables that are read -/
def nameL : List String := ["", "short", "oversize", "auth", "key", "nonce", "exhausted", "closed", "direction", "replay", "range", "syntax", "empty"]
def nameB (i : Nat) : ByteArray := (nameL.getD i "").toUTF8
def NamesIs (w : World) : Prop := ∀ i, i < 13 → w.cell? ⟨0, i, none⟩ = some (.string (nameB i))
def Pow10 (w : World) : Prop := Lib.TabIs Tryd.prog w "internal/strconv.uint64pow10" .u64 Lib.pow10Tab
/-- The variables of packages errors, strconv and fault hold what the text lays. -/
structure Gl (w : World) : Prop where
  err : ErrType w
  pow : Pow10 w
  names : NamesIs w
  size : 5 ≤ w.heap.size
theorem Pow10.keep {w w' : World} (h : Pow10 w) (hk : w'.heap[2]? = w.heap[2]?) : Pow10 w' := by
  have e : Tryd.prog.globalNamed "internal/strconv.uint64pow10" = some 2 := by kernel_rfl
  unfold Pow10 Lib.TabIs World.var? at *
  rw [e] at h ⊢
  simp only [Option.bind_some] at h ⊢
  rw [hk]; exact h
theorem Gl.below {w w' : World} {B : Nat} (h : Gl w) (hB : 5 ≤ B) (hb : Below B w w') : Gl w' :=
  ⟨(hb.cell (p := ⟨1, 0, none⟩) (by simp; omega)).trans h.err, h.pow.keep (hb.block _ (by omega)), fun i hi => (hb.cell (p := ⟨0, i, none⟩) (by simp; omega)).trans (h.names i hi), Nat.le_trans h.size hb.size⟩
theorem Gl.to {w w' : World} (h : Gl w) (hb : Below w.heap.size w w') : Gl w' := h.below h.size hb

/-! ### Code and At -/
def codRes (c : Option Int) : Value := .tuple #[.int .i64 (c.getD 0), .bool c.isSome]
set_option maxHeartbeats 1600000 in
theorem code (e0 : Er) (w : World) (hE : ErrType w) : Calls Tryd.prog 10 #[.iface e0.ty e0.pay] w fun e w' => e = .returned (codRes e0.cod) ∧ Below w.heap.size w w' := by
  have hE1 : ErrType (w.alloc (.cells #[.int .i64 0] 30)) := by
    unfold ErrType at *
    rw [World.cell?_alloc_lt _ _ ⟨1, 0, none⟩ (block_lt hE)]; exact hE
  go_enter Tryd.func10, Tryd.ntmps10
  go_wp2_with fail
  refine (AsC_ e0 w.heap.size w.heap.size 0 _ hE1 (Nat.le_refl _) (by simp) (by simp)).mono ?_
  rintro e w1 ⟨rfl, hc, hb⟩
  go_wp2_with fail
  go_ret2
  exact ⟨rfl, ((Below.refl _ _).alloc (Nat.le_refl _) _).trans hb⟩
set_option maxHeartbeats 1600000 in
theorem code_nil (w : World) (hE : ErrType w) : Calls Tryd.prog 10 #[.nilIface] w fun e w' => e = .returned (codRes none) ∧ Below w.heap.size w w' := by
  have hE1 : ErrType (w.alloc (.cells #[.int .i64 0] 30)) := by
    unfold ErrType at *
    rw [World.cell?_alloc_lt _ _ ⟨1, 0, none⟩ (block_lt hE)]; exact hE
  go_enter Tryd.func10, Tryd.ntmps10
  go_wp2_with fail
  refine (AsNilC w.heap.size w.heap.size 0 _ hE1 (Nat.le_refl _) (by simp) (by simp)).mono ?_
  rintro e w1 ⟨rfl, hc, hb⟩
  go_wp2_with fail
  go_ret2
  exact ⟨rfl, ((Below.refl _ _).alloc (Nat.le_refl _) _).trans hb⟩
set_option maxHeartbeats 1600000 in
theorem offs (e0 : Er) (w : World) (hE : ErrType w) : Calls Tryd.prog 11 #[.iface e0.ty e0.pay] w fun e w' => e = .returned (codRes e0.off) ∧ Below w.heap.size w w' := by
  have hE1 : ErrType (w.alloc (.cells #[.int .i64 0, .int .i64 0] 50)) := by
    unfold ErrType at *
    rw [World.cell?_alloc_lt _ _ ⟨1, 0, none⟩ (block_lt hE)]; exact hE
  go_enter Tryd.func11, Tryd.ntmps11
  go_wp2_with fail
  refine (AsF_ e0 w.heap.size w.heap.size 0 0 _ hE1 (Nat.le_refl _) (by simp) (by simp) (by simp) (by simp)).mono ?_
  rintro e w1 ⟨rfl, hc, hb⟩
  go_wp2_with fail
  go_ret2
  exact ⟨rfl, ((Below.refl _ _).alloc (Nat.le_refl _) _).trans hb⟩
set_option maxHeartbeats 1600000 in
theorem offs_nil (w : World) (hE : ErrType w) : Calls Tryd.prog 11 #[.nilIface] w fun e w' => e = .returned (codRes none) ∧ Below w.heap.size w w' := by
  have hE1 : ErrType (w.alloc (.cells #[.int .i64 0, .int .i64 0] 50)) := by
    unfold ErrType at *
    rw [World.cell?_alloc_lt _ _ ⟨1, 0, none⟩ (block_lt hE)]; exact hE
  go_enter Tryd.func11, Tryd.ntmps11
  go_wp2_with fail
  refine (AsNilF w.heap.size w.heap.size 0 0 _ hE1 (Nat.le_refl _) (by simp) (by simp) (by simp) (by simp)).mono ?_
  rintro e w1 ⟨rfl, hc, hb⟩
  go_wp2_with fail
  go_ret2
  exact ⟨rfl, ((Below.refl _ _).alloc (Nat.le_refl _) _).trans hb⟩

/-! ### New, In, Shift -/
theorem new_ (c a : Int) (w : World) : Calls Tryd.prog 22 #[.int .i64 c, .int .i64 a] w fun e w' => e = .returned (.iface 50 (.agg #[.int .i64 c, .int .i64 a])) ∧ w = w' := by
  go_enter Tryd.func22, Tryd.ntmps22
  go_wp2
  go_ret
  exact ⟨rfl, rfl⟩
theorem in_ (p : ByteArray) (t : Nat) (v : Value) (w : World) : Calls Tryd.prog 14 #[.string p, .iface t v] w fun e w' => e = .returned (.iface 57 (.agg #[.string p, .iface t v])) ∧ w = w' := by
  have hne := nilEq
  go_enter Tryd.func14, Tryd.ntmps14
  go_wp2
  go_ret
  exact ⟨rfl, rfl⟩
theorem in_nil (p : ByteArray) (w : World) : Calls Tryd.prog 14 #[.string p, .nilIface] w fun e w' => e = .returned .nilIface ∧ w = w' := by
  go_enter Tryd.func14, Tryd.ntmps14
  go_wp2
  go_ret
  exact ⟨rfl, rfl⟩
end Go.Proofs.YtiddiahlodlmlaaDoor
