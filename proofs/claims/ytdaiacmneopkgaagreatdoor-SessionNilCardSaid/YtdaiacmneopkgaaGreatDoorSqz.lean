/-
  Short words for what walks through regions that draw their order say over and over: the frame written out anew, an operation taken ahead, one that comes up, two that may. No condition; nothing of the program is named here.
-/
import Derived.Deep.RegionHeld3
import Derived.Below
import Derived.WalkKit
import Derived.Deep.MidRow
namespace Go.Proofs.YtdaiacmneopkgaaGreatDoor
set_option linter.unusedVariables false
open Go.RowKit
theorem nrm : (∀ {α : Type} (l : List α) (i : Nat) (a : α), l.toArray.setIfInBounds i a = (l.set i a).toArray) /\ (∀ {α : Type} (a b : α) (l : List α), (a :: l).set 0 b = b :: l) /\ (∀ {α : Type} (a b : α) (l : List α) (n : Nat), (a :: l).set (n + 1) b = a :: l.set n b) /\
    (∀ {α : Type} (l : List α) (i : Nat) (h : i < l.toArray.size), l.toArray[i] = l[i]'(by simpa using h)) /\ (∀ {α : Type} (a : α) (l : List α) (h : 0 < (a :: l).length), (a :: l)[0] = a) /\ (∀ {α : Type} (a : α) (l : List α) (i : Nat) (h : i + 1 < (a :: l).length), (a :: l)[i + 1] = l[i]'(by simpa using h)) :=
  ⟨λl i a => List.setIfInBounds_toArray l i a, λ_ _ _ => List.set_cons_zero .., λ_ _ _ _ => List.set_cons_succ .., λ_ _ _ => List.getElem_toArray .., λ_ _ _ => List.getElem_cons_zero .., λ_ _ _ _ => List.getElem_cons_succ ..⟩
/-- The frame written out anew, behind an operation. -/
theorem nr : (∀ (a : Act) (d : Tmp) (v : Value), a.put (some d) v = { a with tmps := a.tmps.setIfInBounds d v }) /\ (∀ (a : Act) (v : Value), a.put none v = a) /\ (∀ {α : Type} (l : List α) (i : Nat) (a : α), l.toArray.setIfInBounds i a = (l.set i a).toArray) /\ (∀ {α : Type} (a b : α) (l : List α), (a :: l).set 0 b = b :: l) /\ (∀ {α : Type} (a b : α) (l : List α) (n : Nat), (a :: l).set (n + 1) b = a :: l.set n b) /\
    (∀ {α : Type} (l : List α) (i : Nat) (h : i < l.toArray.size), l.toArray[i] = l[i]'(by simpa using h)) /\ (∀ {α : Type} (a : α) (l : List α) (h : 0 < (a :: l).length), (a :: l)[0] = a) /\ (∀ {α : Type} (a : α) (l : List α) (i : Nat) (h : i + 1 < (a :: l).length), (a :: l)[i + 1] = l[i]'(by simpa using h)) :=
  ⟨λ_ _ _ => rfl, λ_ _ => rfl, nrm⟩
theorem Hi {p : Prop} (h : p) : RowKit.Hid p := h
theorem aB {p0 p1 : Prop} (h0 : p0) (h1 : p1) : RowKit.Hid p0 /\ RowKit.Hid p1 := ⟨h0, h1⟩
theorem dD {p0 p1 p2 : Prop} (h0 : p0) (h1 : p1) (h2 : p2) : RowKit.Hid p0 /\ RowKit.Hid p1 /\ RowKit.Hid p2 := ⟨h0, h1, h2⟩
theorem fU {p0 p1 p2 p3 : Prop} (h0 : p0) (h1 : p1) (h2 : p2) (h3 : p3) : RowKit.Hid p0 /\ RowKit.Hid p1 /\ RowKit.Hid p2 /\ RowKit.Hid p3 := ⟨h0, h1, h2, h3⟩
theorem jX {p0 p1 p2 p3 p4 : Prop} (h0 : p0) (h1 : p1) (h2 : p2) (h3 : p3) (h4 : p4) : RowKit.Hid p0 /\ RowKit.Hid p1 /\ RowKit.Hid p2 /\ RowKit.Hid p3 /\ RowKit.Hid p4 := ⟨h0, h1, h2, h3, h4⟩
theorem qB {p0 p1 p2 p3 p4 p5 : Prop} (h0 : p0) (h1 : p1) (h2 : p2) (h3 : p3) (h4 : p4) (h5 : p5) : RowKit.Hid p0 /\ RowKit.Hid p1 /\ RowKit.Hid p2 /\ RowKit.Hid p3 /\ RowKit.Hid p4 /\ RowKit.Hid p5 := ⟨h0, h1, h2, h3, h4, h5⟩
theorem zD {p0 p1 p2 p3 p4 p5 p6 : Prop} (h0 : p0) (h1 : p1) (h2 : p2) (h3 : p3) (h4 : p4) (h5 : p5) (h6 : p6) : RowKit.Hid p0 /\ RowKit.Hid p1 /\ RowKit.Hid p2 /\ RowKit.Hid p3 /\ RowKit.Hid p4 /\ RowKit.Hid p5 /\ RowKit.Hid p6 := ⟨h0, h1, h2, h3, h4, h5, h6⟩
theorem uH {p0 p1 p2 p3 p4 p5 p6 p7 : Prop} (h0 : p0) (h1 : p1) (h2 : p2) (h3 : p3) (h4 : p4) (h5 : p5) (h6 : p6) (h7 : p7) : RowKit.Hid p0 /\ RowKit.Hid p1 /\ RowKit.Hid p2 /\ RowKit.Hid p3 /\ RowKit.Hid p4 /\ RowKit.Hid p5 /\ RowKit.Hid p6 /\ RowKit.Hid p7 := ⟨h0, h1, h2, h3, h4, h5, h6, h7⟩
theorem Le {α : Type} (a : α) : ∃ x, a = x := ⟨a, rfl⟩
theorem Lv {α : Type} (a : α) : ∃ x, x = a := ⟨a, rfl⟩
theorem Ba (w : World) (o : Obj) : Below w.heap.size w (w.alloc o) := (Below.refl _ _).alloc (Nat.le_refl _) o
theorem Bl {w V : World} {o : Obj} (h : V = w.alloc o) : Below w.heap.size w V := by rw [h]; exact Ba w o
theorem Bm {w U V : World} {o : Obj} (h : V = U.alloc o) (hb : Below w.heap.size w U) : Below w.heap.size w V := by rw [h]; exact hb.alloc hb.size o
theorem Tq {w U V : World} (h : Below w.heap.size w U) (hq : Below U.heap.size U V) : Below w.heap.size w V := h.trans (hq.mono h.size)
theorem lh {w V : World} {o : Obj} (h : V = w.alloc o) : V.heap.size = w.heap.size + 1 := by rw [h]; simp
theorem uN {a : Nat} {U V : World} {o : Obj} (h : V = U.alloc o) (hs : U.heap.size = a + 1) : V.heap.size = a + 2 := by rw [h]; simp [hs]
theorem IY {a : Nat} {U V : World} {o : Obj} (h : V = U.alloc o) (hs : U.heap.size = a + 2) : V.heap.size = a + 3 := by rw [h]; simp [hs]
section
variable {P : Program} {md : Region.Mode} {ops : Array Oper} {Q : Exit -> Act -> World -> Prop} {S : World -> Prop} {fuel : Nat} {listed : Array Bool} {a : Act} {w : World}
theorem tk (i : Nat) (v : Value) {oi : Oper} (hi : ops[i]? = some oi) (hy : YieldsIf P ops S oi v a) (h : wpAnyH P md ops Q S fuel (listed.setIfInBounds i true) (a.put oi.dst v) w)
    (hs : Region.noSelect ops = true := by kernel_rfl) (hf : Region.free md ops listed i = true := by kernel_rfl) (hr : (Region.ready md ops listed).contains i = true := by kernel_rfl) (hQ : ∀ c a w, Q (.panic c) (a.put oi.dst v) w -> Q (.panic c) a w := by exact λ_ _ _ h => h) (hS : S w := by assumption) : wpAnyH P md ops Q S (fuel + 1) listed a w :=
  wpAnyH_take hi hs hf hr hQ hy hS h
theorem tw (i : Nat) (v : Value) {oi : Oper} (hi : ops[i]? = some oi) (hy : ∀ w, S w -> (execOp a.eval oi).run P w = .ok (.value v) w) (h : wpAnyH P md ops Q S fuel (listed.setIfInBounds i true) (a.put oi.dst v) w)
    (hw : Region.wanted oi (yielded ops a.tmps) = true := by rfl) (hs : Region.noSelect ops = true := by kernel_rfl) (hf : Region.free md ops listed i = true := by kernel_rfl) (hr : (Region.ready md ops listed).contains i = true := by kernel_rfl) (hQ : ∀ c a w, Q (.panic c) (a.put oi.dst v) w -> Q (.panic c) a w := by exact λ_ _ _ h => h) (hS : S w := by assumption) : wpAnyH P md ops Q S (fuel + 1) listed a w :=
  wpAnyH_take hi hs hf hr hQ (Or.inl ⟨hw, hy⟩) hS h
theorem tx (i : Nat) {v : Value} {oi : Oper} (hi : ops[i]? = some oi) (h : wpAnyH P md ops Q S fuel (listed.setIfInBounds i true) (a.put oi.dst v) w) (hy : ∀ w, S w -> (execOp a.eval oi).run P w = .ok (.value v) w := by intro W hSw; go_simp; try with_reducible rfl)
    (hw : Region.wanted oi (yielded ops a.tmps) = true := by rfl) (hs : Region.noSelect ops = true := by kernel_rfl) (hf : Region.free md ops listed i = true := by kernel_rfl) (hr : (Region.ready md ops listed).contains i = true := by kernel_rfl) (hQ : ∀ c a w, Q (.panic c) (a.put oi.dst v) w -> Q (.panic c) a w := by exact λ_ _ _ h => h) (hS : S w := by assumption) : wpAnyH P md ops Q S (fuel + 1) listed a w :=
  wpAnyH_take hi hs hf hr hQ (Or.inl ⟨hw, hy⟩) hS h
/-- A load of a whole block, or of a part, taken ahead. -/
theorem tl (i : Nat) {oi : Oper} {b o : Nat} {cs : List Value} {ty : TypeId} {x : Operand} {d : TypeDesc} (hc : ∀ W, S W -> W.rangeAt b o cs) (hu : P.underlying ty = some d) (hd : d.isRow = true) (hz : (P.info? ty).map (·.size) = some cs.length)
    (h : wpAnyH P md ops Q S fuel (listed.setIfInBounds i true) (a.put oi.dst (.agg cs.toArray)) w) (hi : ops[i]? = some oi := by rfl) (hl : oi.op = .load ty x := by rfl) (hx : a.eval x = .pointer (some ⟨b, o, none⟩) := by rfl)
    (hw : Region.wanted oi (yielded ops a.tmps) = true := by rfl) (hs : Region.noSelect ops = true := by kernel_rfl) (hf : Region.free md ops listed i = true := by kernel_rfl) (hr : (Region.ready md ops listed).contains i = true := by kernel_rfl) (hQ : ∀ c a w, Q (.panic c) (a.put oi.dst (.agg cs.toArray)) w -> Q (.panic c) a w := by exact λ_ _ _ h => h) (hS : S w := by assumption) : wpAnyH P md ops Q S (fuel + 1) listed a w :=
  wpAnyH_take hi hs hf hr hQ (yieldsIf_load_mid hw ty x hl b o hx cs d hc hu hd hz) hS h
/-- The same two, and the frame written out anew. -/
theorem ty (i : Nat) {v : Value} {oi : Oper} {a' : Act} (hi : ops[i]? = some oi) (h : wpAnyH P md ops Q S fuel (listed.setIfInBounds i true) a' w) (hy : ∀ w, S w -> (execOp a.eval oi).run P w = .ok (.value v) w := by intro W hSw; go_simp; try with_reducible rfl) (ha : a.put oi.dst v = a' := by (try simp only [nr]); rfl)
    (hw : Region.wanted oi (yielded ops a.tmps) = true := by rfl) (hs : Region.noSelect ops = true := by kernel_rfl) (hf : Region.free md ops listed i = true := by kernel_rfl) (hr : (Region.ready md ops listed).contains i = true := by kernel_rfl) (hQ : ∀ c a w, Q (.panic c) (a.put oi.dst v) w -> Q (.panic c) a w := by exact λ_ _ _ h => h) (hS : S w := by assumption) : wpAnyH P md ops Q S (fuel + 1) listed a w :=
  tx i hi (ha ▸ h) hy hw hs hf hr hQ hS
theorem tm (i : Nat) {oi : Oper} {a' : Act} {b o : Nat} {cs : List Value} {ty : TypeId} {x : Operand} {d : TypeDesc} (hc : ∀ W, S W -> W.rangeAt b o cs) (hu : P.underlying ty = some d) (hd : d.isRow = true) (hz : (P.info? ty).map (·.size) = some cs.length)
    (h : wpAnyH P md ops Q S fuel (listed.setIfInBounds i true) a' w) (hi : ops[i]? = some oi := by rfl) (hl : oi.op = .load ty x := by rfl) (hx : a.eval x = .pointer (some ⟨b, o, none⟩) := by rfl) (ha : a.put oi.dst (.agg cs.toArray) = a' := by (try simp only [nr]); rfl)
    (hw : Region.wanted oi (yielded ops a.tmps) = true := by rfl) (hs : Region.noSelect ops = true := by kernel_rfl) (hf : Region.free md ops listed i = true := by kernel_rfl) (hr : (Region.ready md ops listed).contains i = true := by kernel_rfl) (hQ : ∀ c a w, Q (.panic c) (a.put oi.dst (.agg cs.toArray)) w -> Q (.panic c) a w := by exact λ_ _ _ h => h) (hS : S w := by assumption) : wpAnyH P md ops Q S (fuel + 1) listed a w :=
  tl i hc hu hd hz (ha ▸ h) hi hl hx hw hs hf hr hQ hS
theorem rd (i : Nat) {o : Oper} (ho : ops[i]? = some o)
    (h : ∀ K' : Act -> World -> Prop, Shut (∀ a w, S w -> (S w -> wpAnyH P md ops Q S fuel (listed.setIfInBounds i true) a w) -> K' a w) -> if Region.wanted o (yielded ops a.tmps) = true then Oper.wp P o a w K' Q else K' (a.put o.dst undef) w)
    (hr : Region.ready md ops listed = [i] := by kernel_rfl) : wpAnyH P md ops Q S (fuel + 1) listed a w :=
  wpAnyH_ready hr (by simp) (AllReadyH.cons ho h AllReadyH.nil)
theorem uO (i j : Nat) {o p : Oper} (ho : ops[i]? = some o) (hp : ops[j]? = some p)
    (h : ∀ K' : Act -> World -> Prop, Shut (∀ a w, S w -> (S w -> wpAnyH P md ops Q S fuel (listed.setIfInBounds i true) a w) -> K' a w) -> if Region.wanted o (yielded ops a.tmps) = true then Oper.wp P o a w K' Q else K' (a.put o.dst undef) w)
    (h2 : ∀ K' : Act -> World -> Prop, Shut (∀ a w, S w -> (S w -> wpAnyH P md ops Q S fuel (listed.setIfInBounds j true) a w) -> K' a w) -> if Region.wanted p (yielded ops a.tmps) = true then Oper.wp P p a w K' Q else K' (a.put p.dst undef) w)
    (hr : Region.ready md ops listed = [i, j] := by kernel_rfl) : wpAnyH P md ops Q S (fuel + 1) listed a w :=
  wpAnyH_ready hr (by simp) (AllReadyH.cons ho h (AllReadyH.cons hp h2 AllReadyH.nil))
end
end Go.Proofs.YtdaiacmneopkgaaGreatDoor
