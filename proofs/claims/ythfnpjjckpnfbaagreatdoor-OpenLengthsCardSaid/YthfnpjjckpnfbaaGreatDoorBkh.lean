/-
 Contract of block.Split, by a walk through its text: the parts of bytes, in a slice of its own, and a copy of the rest; what was there stays as it was.
-/
import Derived.Test.YthfnpjjckpnfbaaGreatDoorBkg
import Derived.Test.YthfnpjjckpnfbaaGreatDoorBks
import Derived.Great.BuildSlice
namespace Go.Proofs.YthfnpjjckpnfbaaGreatDoor
open Go.RowKit Go.Shelf
set_option linter.unusedVariables false
set_option maxRecDepth 100000
attribute [local go_sem] Oper.semAt_some

/-- A slice from a place on. -/
theorem slice_from (A : Option Addr) (n c o : Nat) (ho : o ≤ n) (hnc : n ≤ c) : ∃ A' : Option Addr, (∀ W, (Instr.sliceAt 24 (.slice A n c) (some (.int .i64 (o : Int))) none none).run Tryz.prog W = .ok (.slice A' (n - o) (c - o)) W) ∧
  ∀ (W : World) (B : Nat) (l : List UInt8), Sl W B A n l → Sl W B A' (n - o) (l.drop o) := by
 have hel : Tryz.prog.elem 24 = 5 := by simp [Program.elem]
 have hs : ∀ W, (sizeOf 5).run Tryz.prog W = .ok 1 W := fun W => by kernel_rfl
 have hu : Tryz.prog.underlying 24 = some (.slice (Tryz.prog.elem 24)) := by rw [hel]; exact Tryz.sl8
 refine ⟨if c = o then A else A.map (·.add (o * 1)), fun W => ?_, fun W B l h => ?_⟩
 ·rw [run_sliceAt_slice (P := Tryz.prog) W 24 _ _ _ _ hu]
  have h1 := run_slice_any (P := Tryz.prog) W 24 A n c hu (some (.int .i64 (o : Int))) none none
  rw [h1, hel]
  simp [Instr.sliceBounds, run_sliceBound, sliced, ho, hs]
 ·have hl := h.len
  refine ⟨by simp [hl], fun hn => ?_⟩
  obtain ⟨b, off, e, hb, hc⟩ := h.2 (by omega)
  rw [if_neg (by omega), e]
  refine ⟨b, off + o, by simp [Addr.add], hb, fun j u hj => ?_⟩
  rw [List.getElem?_drop] at hj
  rw [Nat.add_assoc]; exact hc (o + j) u hj
theorem ar_own {β : Type} (g n : Nat) (f : Nat → Nat) : Own (fun (_ : β) W => Ar W g n f) := fun s X Y row hs hg hrow j hj =>
 ⟨cell_kept (hs j hj).1 hg hrow, (frozen_kept (hs j hj).1 hg hrow).trans (hs j hj).2⟩
theorem keepsFrom_new {A B : World} (n : Nat) (h : Below A.heap.size A B) : KeepsFrom n A B := ⟨h.size, fun k o _ hk _ => (h.block k (Array.getElem?_eq_some_iff.1 hk).1).trans hk⟩
theorem boxed_below {W W' : World} {B : Nat} {t : TypeId} {v : Value} (h : Boxed W B t v) (hb : Below W.heap.size W W') : Boxed W' B t v := (hb.block B h.lt).trans h
theorem lF_drop (l : List UInt8) (o j : Nat) : lF (l.drop o) j = lF l (o + j) := by simp [lF, List.getD]
end Go.Proofs.YthfnpjjckpnfbaaGreatDoor
