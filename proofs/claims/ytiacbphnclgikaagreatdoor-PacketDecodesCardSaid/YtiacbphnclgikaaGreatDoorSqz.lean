/-
  Short words for what walks through regions that draw their order say over and over: the frame written out anew, an operation taken ahead, one that comes up, two that may. No condition; nothing of the program is named here.
-/
import Derived.Deep.RegionHeld3
import Derived.Below
namespace Go.Proofs.YtiacbphnclgikaaGreatDoor
open Go.RowKit
set_option linter.unusedVariables false
theorem nrm : (∀ {α : Type} (l : List α) (i : Nat) (a : α), l.toArray.setIfInBounds i a = (l.set i a).toArray) ∧ (∀ {α : Type} (a b : α) (l : List α), (a :: l).set 0 b = b :: l) ∧ (∀ {α : Type} (a b : α) (l : List α) (n : Nat), (a :: l).set (n + 1) b = a :: l.set n b) ∧
    (∀ {α : Type} (l : List α) (i : Nat) (h : i < l.toArray.size), l.toArray[i] = l[i]'(by simpa using h)) ∧ (∀ {α : Type} (a : α) (l : List α) (h : 0 < (a :: l).length), (a :: l)[0] = a) ∧ (∀ {α : Type} (a : α) (l : List α) (i : Nat) (h : i + 1 < (a :: l).length), (a :: l)[i + 1] = l[i]'(by simpa using h)) :=
  ⟨fun l i a => List.setIfInBounds_toArray l i a, fun _ _ _ => List.set_cons_zero .., fun _ _ _ _ => List.set_cons_succ .., fun _ _ _ => List.getElem_toArray .., fun _ _ _ => List.getElem_cons_zero .., fun _ _ _ _ => List.getElem_cons_succ ..⟩
theorem Le {α : Type} (a : α) : ∃ x, a = x := ⟨a, rfl⟩
theorem Lv {α : Type} (a : α) : ∃ x, x = a := ⟨a, rfl⟩
theorem Ba (w : World) (o : Obj) : Below w.heap.size w (w.alloc o) := (Below.refl _ _).alloc (Nat.le_refl _) o
theorem Bl {w V : World} {o : Obj} (h : V = w.alloc o) : Below w.heap.size w V := by rw [h]; exact Ba w o
theorem Bm {w U V : World} {o : Obj} (h : V = U.alloc o) (hb : Below w.heap.size w U) : Below w.heap.size w V := by rw [h]; exact hb.alloc hb.size o
theorem Tq {w U V : World} (h : Below w.heap.size w U) (hq : Below U.heap.size U V) : Below w.heap.size w V := h.trans (hq.mono h.size)
theorem Zs1 {w V : World} {o : Obj} (h : V = w.alloc o) : V.heap.size = w.heap.size + 1 := by rw [h]; simp
theorem Zs2 {a : Nat} {U V : World} {o : Obj} (h : V = U.alloc o) (hs : U.heap.size = a + 1) : V.heap.size = a + 2 := by rw [h]; simp [hs]
theorem Zs3 {a : Nat} {U V : World} {o : Obj} (h : V = U.alloc o) (hs : U.heap.size = a + 2) : V.heap.size = a + 3 := by rw [h]; simp [hs]
theorem Zs4 {a : Nat} {U V : World} {o : Obj} (h : V = U.alloc o) (hs : U.heap.size = a + 3) : V.heap.size = a + 4 := by rw [h]; simp [hs]
theorem Zs5 {a : Nat} {U V : World} {o : Obj} (h : V = U.alloc o) (hs : U.heap.size = a + 4) : V.heap.size = a + 5 := by rw [h]; simp [hs]
theorem Zs6 {a : Nat} {U V : World} {o : Obj} (h : V = U.alloc o) (hs : U.heap.size = a + 5) : V.heap.size = a + 6 := by rw [h]; simp [hs]
theorem Zs7 {a : Nat} {U V : World} {o : Obj} (h : V = U.alloc o) (hs : U.heap.size = a + 6) : V.heap.size = a + 7 := by rw [h]; simp [hs]
section
variable {P : Program} {md : Region.Mode} {ops : Array Oper} {Q : Exit → Act → World → Prop} {S : World → Prop} {fuel : Nat} {listed : Array Bool} {a : Act} {w : World}
theorem tk (i : Nat) (v : Value) {oi : Oper} (hi : ops[i]? = some oi) (hy : YieldsIf P ops S oi v a) (h : wpAnyH P md ops Q S fuel (listed.setIfInBounds i true) (a.put oi.dst v) w)
    (hs : Region.noSelect ops = true := by kernel_rfl) (hf : Region.free md ops listed i = true := by kernel_rfl) (hr : (Region.ready md ops listed).contains i = true := by kernel_rfl) (hQ : ∀ c a w, Q (.panic c) (a.put oi.dst v) w → Q (.panic c) a w := by exact fun _ _ _ h => h) (hS : S w := by assumption) : wpAnyH P md ops Q S (fuel + 1) listed a w :=
  wpAnyH_take hi hs hf hr hQ hy hS h
theorem tw (i : Nat) (v : Value) {oi : Oper} (hi : ops[i]? = some oi) (hy : ∀ w, S w → (execOp a.eval oi).run P w = .ok (.value v) w) (h : wpAnyH P md ops Q S fuel (listed.setIfInBounds i true) (a.put oi.dst v) w)
    (hw : Region.wanted oi (yielded ops a.tmps) = true := by rfl) (hs : Region.noSelect ops = true := by kernel_rfl) (hf : Region.free md ops listed i = true := by kernel_rfl) (hr : (Region.ready md ops listed).contains i = true := by kernel_rfl) (hQ : ∀ c a w, Q (.panic c) (a.put oi.dst v) w → Q (.panic c) a w := by exact fun _ _ _ h => h) (hS : S w := by assumption) : wpAnyH P md ops Q S (fuel + 1) listed a w :=
  wpAnyH_take hi hs hf hr hQ (Or.inl ⟨hw, hy⟩) hS h
theorem rd (i : Nat) {o : Oper} (ho : ops[i]? = some o)
    (h : ∀ K' : Act → World → Prop, Shut (∀ a w, S w → (S w → wpAnyH P md ops Q S fuel (listed.setIfInBounds i true) a w) → K' a w) → if Region.wanted o (yielded ops a.tmps) = true then Oper.wp P o a w K' Q else K' (a.put o.dst undef) w)
    (hr : Region.ready md ops listed = [i] := by kernel_rfl) : wpAnyH P md ops Q S (fuel + 1) listed a w :=
  wpAnyH_ready hr (by simp) (AllReadyH.cons ho h AllReadyH.nil)
theorem rd2 (i j : Nat) {o p : Oper} (ho : ops[i]? = some o) (hp : ops[j]? = some p)
    (h : ∀ K' : Act → World → Prop, Shut (∀ a w, S w → (S w → wpAnyH P md ops Q S fuel (listed.setIfInBounds i true) a w) → K' a w) → if Region.wanted o (yielded ops a.tmps) = true then Oper.wp P o a w K' Q else K' (a.put o.dst undef) w)
    (h2 : ∀ K' : Act → World → Prop, Shut (∀ a w, S w → (S w → wpAnyH P md ops Q S fuel (listed.setIfInBounds j true) a w) → K' a w) → if Region.wanted p (yielded ops a.tmps) = true then Oper.wp P p a w K' Q else K' (a.put p.dst undef) w)
    (hr : Region.ready md ops listed = [i, j] := by kernel_rfl) : wpAnyH P md ops Q S (fuel + 1) listed a w :=
  wpAnyH_ready hr (by simp) (AllReadyH.cons ho h (AllReadyH.cons hp h2 AllReadyH.nil))
end
end Go.Proofs.YtiacbphnclgikaaGreatDoor
