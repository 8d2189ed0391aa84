/-
  Errors as values: the ways in which package fault makes them, their text, their code and their offset, as plain functions; and contracts of the functions of packages fault and errors that look for them. No condition but those of each theorem.
-/
import Derived.Test.YtfmlllckfpagkaaDoorRows
import Derived.WalkKit
import Derived.ProofKit
import Derived.Below
import Derived.LaidEql
import Derived.Stop.Asserts
import Derived.RowKitTokens
import Derived.Lib.Hide
import Derived.Lib.ItoaNum
import Derived.Recover
import Derived.Laws.Pointers
namespace Go.Proofs.YtfmlllckfpagkaaDoor
open Go.RowKit Go.Extern.Stop Go.Stop Go.Extern
set_option linter.unusedVariables false
set_option maxRecDepth 10000

/-- An error of package fault, or another that has no method Unwrap. -/
inductive Er where
  | code (c : Int)
  | fault (c a : Int)

def Er.ty : Er → Nat
  | .code _ => 42
  | .fault _ _ => 56
def Er.pay : Er → Value
  | .code c => .int .i64 c
  | .fault c a => .agg #[.int .i64 c, .int .i64 a]
def Er.cod : Er → Option Int
  | .code c => some c
  | .fault c _ => some c
def Er.off : Er → Option Int
  | .code _ => none
  | .fault _ a => some a
/-- The next error of the chain. -/
def Er.next : Er → Option Er
  | .code _ => none
  | .fault c _ => some (.code c)
/-- The value that Unwrap gives. -/
def Er.nextV : Er → Value
  | .code _ => .nilIface
  | .fault c _ => .iface 42 (.int .i64 c)

/-- Where reflectlite holds type t. -/
def hdl (t : Nat) : Value := .agg #[.pointer (some ⟨2, t, none⟩)]
/-- Package errors knows the type error. -/
def ErrType (w : World) : Prop := w.cell? ⟨1, 0, none⟩ = some (.iface 75 (.agg #[.pointer (some ⟨2, 26, none⟩)]))

theorem bcell {W w1 : World} (hb : Below W.heap.size W w1) : (∀ b o, b < W.heap.size → w1.cell? ⟨b, o, none⟩ = W.cell? ⟨b, o, none⟩) ∧ (∀ b o, b < W.heap.size → w1.frozen? ⟨b, o, none⟩ = W.frozen? ⟨b, o, none⟩) :=
  ⟨fun b o h => hb.cell (p := ⟨b, o, none⟩) h, fun b o h => hb.frozen (p := ⟨b, o, none⟩) h⟩

theorem block_lt {w : World} {b o : Nat} {v : Value} (h : w.cell? ⟨b, o, none⟩ = some v) : b < w.heap.size := by
  rcases Nat.lt_or_ge b w.heap.size with h1 | h1
  · exact h1
  · simp [World.cell?, Array.getElem?_eq_none h1] at h

theorem one_after {w : World} {b : Nat} {x : Value} (hc : w.cell? ⟨b, 0, none⟩ = some x) (u : Value) (o : Obj) :
    ((w.setCell ⟨b, 0, none⟩ u).alloc o).cell? ⟨b, 0, none⟩ = some u := by
  have hlt := block_lt hc
  rw [World.cell?_alloc_lt _ _ ⟨b, 0, none⟩ (by simpa using hlt), World.cell?_setCell_same _ _ _ hc]
theorem two_after {w : World} {b : Nat} {x y : Value} (hc : w.cell? ⟨b, 0, none⟩ = some x) (hd : w.cell? ⟨b, 1, none⟩ = some y) (u v : Value) (o : Obj) :
    (((w.setCell ⟨b, 0, none⟩ u).setCell ⟨b, 1, none⟩ v).alloc o).cell? ⟨b, 0, none⟩ = some u ∧ (((w.setCell ⟨b, 0, none⟩ u).setCell ⟨b, 1, none⟩ v).alloc o).cell? ⟨b, 1, none⟩ = some v := by
  have hlt := block_lt hc
  have hd' : (w.setCell ⟨b, 0, none⟩ u).cell? ⟨b, 1, none⟩ = some y := by
    rw [World.cell?_setCell_other _ _ _ _ (by simp)]; exact hd
  refine ⟨?_, ?_⟩
  · rw [World.cell?_alloc_lt _ _ ⟨b, 0, none⟩ (by simpa using hlt), World.cell?_setCell_other _ _ _ _ (by simp), World.cell?_setCell_same _ _ _ hc]
  · rw [World.cell?_alloc_lt _ _ ⟨b, 1, none⟩ (by simpa using hlt), World.cell?_setCell_same _ _ _ hd']
theorem free_after {w : World} {b o1 : Nat} (hb : b < w.heap.size) (hf : w.frozen? ⟨b, o1, none⟩ = false) (u v : Value) (o : Obj) :
    ((w.setCell ⟨b, 0, none⟩ u).alloc o).frozen? ⟨b, o1, none⟩ = false ∧ (((w.setCell ⟨b, 0, none⟩ u).setCell ⟨b, 1, none⟩ v).alloc o).frozen? ⟨b, o1, none⟩ = false := by
  refine ⟨?_, ?_⟩
  · rw [World.frozen?_alloc_old _ _ ⟨b, o1, none⟩ (by simpa using Nat.ne_of_lt hb), World.frozen?_setCell]; exact hf
  · rw [World.frozen?_alloc_old _ _ ⟨b, o1, none⟩ (by simpa using Nat.ne_of_lt hb), World.frozen?_setCell, World.frozen?_setCell]; exact hf

/-! ### Closed facts on the method sets -/
theorem Tryd.codeNoUnwrap (v : Value) (xT : TypeId) (w : World) : (Instr.typeAssert (.iface 42 v) xT 83 true).run Tryd.prog w = .ok (.tuple #[.nilIface, .bool false]) w := run_typeAssert_lacksB Tryd.underlying83 (by kernel_rfl) (by kernel_rfl) v xT w
theorem Tryd.faultUnwrap (v : Value) (xT : TypeId) (w : World) : (Instr.typeAssert (.iface 56 v) xT 83 true).run Tryd.prog w = .ok (.tuple #[.iface 56 v, .bool true]) w := run_typeAssert_hasB Tryd.underlying83 (by kernel_rfl) v xT w
theorem Tryd.linkUnwrap (v : Value) (xT : TypeId) (w : World) : (Instr.typeAssert (.iface 59 v) xT 83 true).run Tryd.prog w = .ok (.tuple #[.iface 59 v, .bool true]) w := run_typeAssert_hasB Tryd.underlying83 (by kernel_rfl) v xT w
theorem Tryd.linkAs (v : Value) (xT : TypeId) (w : World) : (Instr.typeAssert (.iface 59 v) xT 80 true).run Tryd.prog w = .ok (.tuple #[.iface 59 v, .bool true]) w := run_typeAssert_hasB Tryd.underlying80 (by kernel_rfl) v xT w
theorem Tryd.mFaultUnwrap (v : Value) (w : World) : (Go.method 221 56 v "Unwrap").run Tryd.prog w = .ok (50, v) w := by kernel_rfl

/-! ### Unwrap -/
theorem fault_unwrap (c a : Int) (w : World) : Calls Tryd.prog 50 #[.agg #[.int .i64 c, .int .i64 a]] w fun e w' => e = .returned (.iface 42 (.int .i64 c)) ∧ Below w.heap.size w w' := by
  go_enter Tryd.func50, Tryd.ntmps50
  go_wp2
  go_ret
  exact ⟨rfl, (Below.refl _ _).alloc (Nat.le_refl _) _⟩
/-- errors.Unwrap, whatever the error. -/
theorem unwrap (e0 : Er) (w : World) : Calls Tryd.prog 54 #[.iface e0.ty e0.pay] w fun e w' => e = .returned e0.nextV ∧ Below w.heap.size w w' := by
  have h1 := Tryd.codeNoUnwrap
  have h3 := Tryd.faultUnwrap
  have m1 := Tryd.mFaultUnwrap
  cases e0 with
  | code c =>
    show Calls Tryd.prog 54 #[.iface 42 (.int .i64 c)] w fun e w' => e = .returned .nilIface ∧ Below w.heap.size w w'
    go_enter Tryd.func54, Tryd.ntmps54
    go_wp2
    go_ret
    exact ⟨rfl, Below.refl _ _⟩
  | fault c a =>
    show Calls Tryd.prog 54 #[.iface 56 (.agg #[.int .i64 c, .int .i64 a])] w fun e w' => e = .returned (.iface 42 (.int .i64 c)) ∧ Below w.heap.size w w'
    go_enter Tryd.func54, Tryd.ntmps54
    go_wp2_with fail
    refine (fault_unwrap c a _).mono ?_
    rintro e w' ⟨rfl, hb⟩
    go_wp2_with fail
    go_ret
    exact ⟨rfl, hb⟩
theorem Tryd.nilUnwrap (xT : TypeId) (w : World) : (Instr.typeAssert .nilIface xT 83 true).run Tryd.prog w = .ok (.tuple #[.nilIface, .bool false]) w := by kernel_rfl
theorem unwrap_nil (w : World) : Calls Tryd.prog 54 #[.nilIface] w fun e w' => e = .returned .nilIface ∧ Below w.heap.size w w' := by
  have h1 := Tryd.nilUnwrap
  go_enter Tryd.func54, Tryd.ntmps54
  go_wp2
  go_ret
  exact ⟨rfl, Below.refl _ _⟩

/-! ### The method Unwrap of a link: its deferred function finds no panic -/
theorem catch_idle (p : Addr) (w : World) :
    CallsD Tryd.prog 53 #[.pointer (some p)] .returning w fun e u' w' => e = .returned (.tuple #[]) ∧ u' = .returning ∧ w' = w := by
  refine callsD_of_wpS Tryd.func53 rfl fun c₀ cs hu => ?_
  apply wpS_seq
  apply wpS_region
  simp [wpOpsS, go_sem, recoverD, hu, Tryd.ntmps53, Exit.thenS]
  refine wpS_cond (t := false) (by simp [Act.eval, Array.replicate]) ?_
  simp only [Bool.false_eq_true, if_false]
  refine wpS_of_wp (wp_skip ?_)
  cases c₀
  simp_all [bodyPostS, results, Tryd.results53]

/-- The link of the next error, or nil. -/
def Er.nextL : Er → Value
  | .code _ => .nilIface
  | .fault c _ => .iface 59 (.agg #[.iface 42 (.int .i64 c)])
theorem nilEq (t : Nat) (v : Value) (w : World) : (binOp .eql 26 (.iface t v) .nilIface).run Tryd.prog w = .ok (.bool false) w := by
  have h : ∀ d : Nat, (Op.equalIn (d + 1) 26 (.iface t v) .nilIface).run Tryd.prog w = .ok false w := fun d => by simp [Op.equalIn, run_underlying Tryd.underlying26]
  simp only [binOp]
  simp [Op.equal, Op.maxDepth, h 9999]
theorem link_unwrap_some (e0 : Er) (t : Nat) (v : Value) (he : e0.nextV = .iface t v) (w : World) : Calls Tryd.prog 52 #[.agg #[.iface e0.ty e0.pay]] w fun e w' => e = .returned (.iface 59 (.agg #[.iface t v])) ∧ Below w.heap.size w w' := by
  have hmf : ∀ (fn : Fn) (first cap : Array Value) (w : World), (Instr.makeFunc fn first cap).run Tryd.prog w = .ok (.func fn first cap) w := fun _ _ _ _ => rfl
  have hne := nilEq
  have hx := Lib.hid he
  clear he
  go_enter_defers Tryd.func52, Tryd.ntmps52
  go_wp2_with fail
  refine (unwrap e0 _).mono ?_
  rintro e w1 ⟨rfl, hb⟩
  rw [hx.out]
  obtain ⟨hc, hf⟩ := bcell hb
  have hz := hb.size
  go_wp2_with fail
  refine leaves_cons (f := 53) (args := #[.pointer (some ⟨w.heap.size + 1, 0, none⟩)]) (by simp) (by simp [go_sem]) ?_
  refine (catch_idle ⟨w.heap.size + 1, 0, none⟩ _).mono ?_
  rintro e u' w'' ⟨rfl, rfl, rfl⟩
  have hz1 : w.heap.size + 1 < w1.heap.size := by simp at hz; omega
  have hcell : w1.cell? ⟨w.heap.size + 1, 0, none⟩ = some .nilIface := by rw [hc _ _ (by simp)]; simp
  have hfr : w1.frozen? ⟨w.heap.size + 1, 0, none⟩ = false := by rw [hf _ _ (by simp)]; simp
  have hB : Below w.heap.size w w1 := (((Below.refl _ _).alloc (Nat.le_refl _) _).alloc (by simp) _).trans (hb.mono (by simp; omega))
  simp [Leaves, settle, results, Tryd.results52, go_sem, hcell]
  exact hB.setCell (by simp) _
theorem link_unwrap_none (e0 : Er) (he : e0.nextV = .nilIface) (w : World) : Calls Tryd.prog 52 #[.agg #[.iface e0.ty e0.pay]] w fun e w' => e = .returned .nilIface ∧ Below w.heap.size w w' := by
  have hmf : ∀ (fn : Fn) (first cap : Array Value) (w : World), (Instr.makeFunc fn first cap).run Tryd.prog w = .ok (.func fn first cap) w := fun _ _ _ _ => rfl
  have hx := Lib.hid he
  clear he
  go_enter_defers Tryd.func52, Tryd.ntmps52
  go_wp2_with fail
  refine (unwrap e0 _).mono ?_
  rintro e w1 ⟨rfl, hb⟩
  rw [hx.out]
  obtain ⟨hc, hf⟩ := bcell hb
  have hz := hb.size
  go_wp2_with fail
  refine leaves_cons (f := 53) (args := #[.pointer (some ⟨w.heap.size + 1, 0, none⟩)]) (by simp) (by simp [go_sem]) ?_
  refine (catch_idle ⟨w.heap.size + 1, 0, none⟩ _).mono ?_
  rintro e u' w'' ⟨rfl, rfl, rfl⟩
  have hz1 : w.heap.size + 1 < w1.heap.size := by simp at hz; omega
  have hcell : w1.cell? ⟨w.heap.size + 1, 0, none⟩ = some .nilIface := by rw [hc _ _ (by simp)]; simp
  have hfr : w1.frozen? ⟨w.heap.size + 1, 0, none⟩ = false := by rw [hf _ _ (by simp)]; simp
  have hB : Below w.heap.size w w1 := (((Below.refl _ _).alloc (Nat.le_refl _) _).alloc (by simp) _).trans (hb.mono (by simp; omega))
  simp [Leaves, settle, results, Tryd.results52, go_sem, hcell]
  exact hB.setCell (by simp) _

/-! ### The method As of a link -/
/-- What errors.As finds at this very error, for a code. -/
def Er.codeHere : Er → Int
  | .code c => c
  | _ => 0
def Er.isCode : Er → Bool
  | .code _ => true
  | _ => false
theorem Tryd.taPCPC (v : Value) (xT : TypeId) (w : World) : (Instr.typeAssert (.iface 60 v) xT 60 true).run Tryd.prog w = .ok (.tuple #[v, .bool true]) w := by kernel_rfl
theorem Tryd.taPFPC (v : Value) (xT : TypeId) (w : World) : (Instr.typeAssert (.iface 61 v) xT 60 true).run Tryd.prog w = .ok (.tuple #[.pointer none, .bool false]) w := by kernel_rfl
theorem Tryd.taPFPF (v : Value) (xT : TypeId) (w : World) : (Instr.typeAssert (.iface 61 v) xT 61 true).run Tryd.prog w = .ok (.tuple #[v, .bool true]) w := by kernel_rfl
theorem Tryd.taCC (v : Value) (xT : TypeId) (w : World) : (Instr.typeAssert (.iface 42 v) xT 42 true).run Tryd.prog w = .ok (.tuple #[v, .bool true]) w := by kernel_rfl
theorem Tryd.taCF (v : Value) (xT : TypeId) (w : World) : (Instr.typeAssert (.iface 42 v) xT 56 true).run Tryd.prog w = .ok (.tuple #[.agg #[.int .i64 0, .int .i64 0], .bool false]) w := by kernel_rfl
theorem Tryd.taFC (v : Value) (xT : TypeId) (w : World) : (Instr.typeAssert (.iface 56 v) xT 42 true).run Tryd.prog w = .ok (.tuple #[.int .i64 0, .bool false]) w := by kernel_rfl
theorem Tryd.taFF (v : Value) (xT : TypeId) (w : World) : (Instr.typeAssert (.iface 56 v) xT 56 true).run Tryd.prog w = .ok (.tuple #[v, .bool true]) w := by kernel_rfl
theorem link_as_code (e0 : Er) (tb : Nat) (x : Int) (w : World) (hc : w.cell? ⟨tb, 0, none⟩ = some (.int .i64 x)) (hf : w.frozen? ⟨tb, 0, none⟩ = false) :
    Calls Tryd.prog 51 #[.agg #[.iface e0.ty e0.pay], .iface 60 (.pointer (some ⟨tb, 0, none⟩))] w fun e w' => e = .returned (.bool e0.isCode) ∧ w' = (w.setCell ⟨tb, 0, none⟩ (.int .i64 e0.codeHere)).alloc (.cells #[.iface e0.ty e0.pay] 59) := by
  have hlt : tb < w.heap.size := block_lt hc
  have f1 := Tryd.taPCPC
  have f2 := Tryd.taCC
  have f3 := Tryd.taFC
  cases e0 with
  | code c =>
    show Calls Tryd.prog 51 #[.agg #[.iface 42 (.int .i64 c)], .iface 60 (.pointer (some ⟨tb, 0, none⟩))] w fun e w' => e = .returned (.bool true) ∧ w' = (w.setCell ⟨tb, 0, none⟩ (.int .i64 c)).alloc (.cells #[.iface 42 (.int .i64 c)] 59)
    go_enter Tryd.func51, Tryd.ntmps51
    go_wp2
    go_ret
    exact ⟨rfl, rfl⟩
  | fault c a =>
    show Calls Tryd.prog 51 #[.agg #[.iface 56 (.agg #[.int .i64 c, .int .i64 a])], .iface 60 (.pointer (some ⟨tb, 0, none⟩))] w fun e w' => e = .returned (.bool false) ∧ w' = (w.setCell ⟨tb, 0, none⟩ (.int .i64 0)).alloc (.cells #[.iface 56 (.agg #[.int .i64 c, .int .i64 a])] 59)
    go_enter Tryd.func51, Tryd.ntmps51
    go_wp2
    go_ret
    exact ⟨rfl, rfl⟩
/-- What errors.As finds at this very error, for a fault. -/
def Er.atHere : Er → Int × Int
  | .fault c a => (c, a)
  | _ => (0, 0)
def Er.isFault : Er → Bool
  | .fault _ _ => true
  | _ => false
theorem link_as_fault (e0 : Er) (tb : Nat) (x y : Int) (w : World) (hc : w.cell? ⟨tb, 0, none⟩ = some (.int .i64 x)) (hd : w.cell? ⟨tb, 1, none⟩ = some (.int .i64 y)) (hf : w.frozen? ⟨tb, 0, none⟩ = false) (hg : w.frozen? ⟨tb, 1, none⟩ = false) :
    Calls Tryd.prog 51 #[.agg #[.iface e0.ty e0.pay], .iface 61 (.pointer (some ⟨tb, 0, none⟩))] w fun e w' => e = .returned (.bool e0.isFault) ∧ w' = ((w.setCell ⟨tb, 0, none⟩ (.int .i64 e0.atHere.1)).setCell ⟨tb, 1, none⟩ (.int .i64 e0.atHere.2)).alloc (.cells #[.iface e0.ty e0.pay] 59) := by
  have hlt : tb < w.heap.size := block_lt hc
  have f1 := Tryd.taPFPF
  have f0 := Tryd.taPFPC
  have f2 := Tryd.taCF
  have f3 := Tryd.taFF
  cases e0 with
  | code c =>
    show Calls Tryd.prog 51 #[.agg #[.iface 42 (.int .i64 c)], .iface 61 (.pointer (some ⟨tb, 0, none⟩))] w fun e w' => e = .returned (.bool false) ∧ w' = ((w.setCell ⟨tb, 0, none⟩ (.int .i64 0)).setCell ⟨tb, 1, none⟩ (.int .i64 0)).alloc (.cells #[.iface 42 (.int .i64 c)] 59)
    go_enter Tryd.func51, Tryd.ntmps51
    go_wp2
    go_ret
    exact ⟨rfl, rfl⟩
  | fault c a =>
    show Calls Tryd.prog 51 #[.agg #[.iface 56 (.agg #[.int .i64 c, .int .i64 a])], .iface 61 (.pointer (some ⟨tb, 0, none⟩))] w fun e w' => e = .returned (.bool true) ∧ w' = ((w.setCell ⟨tb, 0, none⟩ (.int .i64 c)).setCell ⟨tb, 1, none⟩ (.int .i64 a)).alloc (.cells #[.iface 56 (.agg #[.int .i64 c, .int .i64 a])] 59)
    go_enter Tryd.func51, Tryd.ntmps51
    go_wp2
    go_ret
    exact ⟨rfl, rfl⟩
/-! ### The chain -/
def Er.dep : Er → Nat
  | .code _ => 0
  | .fault _ _ => 1
theorem Er.next_of {e : Er} {e1 : Er} (h : e.next = some e1) : e.nextV = .iface e1.ty e1.pay ∧ e1.dep < e.dep ∧ e1.cod = e.cod ∧ (e.isFault = false → e1.off = e.off) := by
  cases e with
  | code c => cases h
  | fault c a => cases h; exact ⟨rfl, by simp [Er.dep], rfl, fun h => by cases h⟩
theorem Er.next_none {e : Er} (h : e.next = none) : e.nextV = .nilIface ∧ (e.isCode = false → e.cod = none) ∧ e.off = none := by
  cases e with
  | code c => exact ⟨rfl, (fun h => by cases h), rfl⟩
  | fault c a => cases h
theorem Er.cod_here {e : Er} (h : e.isCode = true) : e.cod = some e.codeHere := by
  cases e <;> first | rfl | cases h
theorem Er.codeHere_no {e : Er} (h : e.isCode = false) : e.codeHere = 0 := by
  cases e <;> first | rfl | cases h
theorem Er.off_here {e : Er} (h : e.isFault = true) : e.off = some e.atHere.2 := by
  cases e <;> first | rfl | cases h
theorem Er.atHere_no {e : Er} (h : e.isFault = false) : e.atHere = (0, 0) := by
  cases e <;> first | rfl | cases h
end Go.Proofs.YtfmlllckfpagkaaDoor
