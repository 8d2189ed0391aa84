/-
  Errors as values: the ways in which package fault makes them, their text, their code and their offset, as plain functions; and contracts of the functions of packages fault and errors that look for them. No condition but those of each theorem.
-/
import Derived.Test.YtiddiahlodlmlaaDoorRows
import Derived.WalkKit
import Derived.ProofKit
import Derived.Below
import Derived.LaidEql
import Derived.Stop.Asserts
import Derived.RowKitTokens
import Derived.Lib.Hide
import Derived.Lib.ItoaNum
import Derived.Recover
import Derived.Laws.Pointers
namespace Go.Proofs.YtiddiahlodlmlaaDoor
open Go.RowKit Go.Extern.Stop Go.Stop Go.Extern
set_option linter.unusedVariables false
set_option maxRecDepth 10000

/-- An error of package fault, or another that has no method Unwrap. -/
inductive Er where
  | code (c : Int)
  | fault (c a : Int)
  | wrap (p : ByteArray) (e : Er)
  | other (v : Value)

def Er.ty : Er → Nat
  | .code _ => 30
  | .fault _ _ => 50
  | .wrap _ _ => 57
  | .other _ => 66
def Er.pay : Er → Value
  | .code c => .int .i64 c
  | .fault c a => .agg #[.int .i64 c, .int .i64 a]
  | .wrap p e => .agg #[.string p, .iface e.ty e.pay]
  | .other v => v
def Er.cod : Er → Option Int
  | .code c => some c
  | .fault c _ => some c
  | .wrap _ e => e.cod
  | .other _ => none
def Er.off : Er → Option Int
  | .code _ => none
  | .fault _ a => some a
  | .wrap _ e => e.off
  | .other _ => none
/-- The next error of the chain. -/
def Er.next : Er → Option Er
  | .code _ => none
  | .fault c _ => some (.code c)
  | .wrap _ e => some e
  | .other _ => none
/-- The value that Unwrap gives. -/
def Er.nextV : Er → Value
  | .code _ => .nilIface
  | .fault c _ => .iface 30 (.int .i64 c)
  | .wrap _ e => .iface e.ty e.pay
  | .other _ => .nilIface

/-- Where reflectlite holds type t. -/
def hdl (t : Nat) : Value := .agg #[.pointer (some ⟨5, t, none⟩)]
/-- Package errors knows the type error. -/
def ErrType (w : World) : Prop := w.cell? ⟨1, 0, none⟩ = some (.iface 80 (.agg #[.pointer (some ⟨5, 28, none⟩)]))

theorem bcell {W w1 : World} (hb : Below W.heap.size W w1) : (∀ b o, b < W.heap.size → w1.cell? ⟨b, o, none⟩ = W.cell? ⟨b, o, none⟩) ∧ (∀ b o, b < W.heap.size → w1.frozen? ⟨b, o, none⟩ = W.frozen? ⟨b, o, none⟩) :=
  ⟨fun b o h => hb.cell (p := ⟨b, o, none⟩) h, fun b o h => hb.frozen (p := ⟨b, o, none⟩) h⟩

theorem block_lt {w : World} {b o : Nat} {v : Value} (h : w.cell? ⟨b, o, none⟩ = some v) : b < w.heap.size := by
  rcases Nat.lt_or_ge b w.heap.size with h1 | h1
  · exact h1
  · simp [World.cell?, Array.getElem?_eq_none h1] at h

theorem one_after {w : World} {b : Nat} {x : Value} (hc : w.cell? ⟨b, 0, none⟩ = some x) (u : Value) (o : Obj) :
    ((w.setCell ⟨b, 0, none⟩ u).alloc o).cell? ⟨b, 0, none⟩ = some u := by
  have hlt := block_lt hc
  rw [World.cell?_alloc_lt _ _ ⟨b, 0, none⟩ (by simpa using hlt), World.cell?_setCell_same _ _ _ hc]
theorem two_after {w : World} {b : Nat} {x y : Value} (hc : w.cell? ⟨b, 0, none⟩ = some x) (hd : w.cell? ⟨b, 1, none⟩ = some y) (u v : Value) (o : Obj) :
    (((w.setCell ⟨b, 0, none⟩ u).setCell ⟨b, 1, none⟩ v).alloc o).cell? ⟨b, 0, none⟩ = some u ∧ (((w.setCell ⟨b, 0, none⟩ u).setCell ⟨b, 1, none⟩ v).alloc o).cell? ⟨b, 1, none⟩ = some v := by
  have hlt := block_lt hc
  have hd' : (w.setCell ⟨b, 0, none⟩ u).cell? ⟨b, 1, none⟩ = some y := by
    rw [World.cell?_setCell_other _ _ _ _ (by simp)]; exact hd
  refine ⟨?_, ?_⟩
  · rw [World.cell?_alloc_lt _ _ ⟨b, 0, none⟩ (by simpa using hlt), World.cell?_setCell_other _ _ _ _ (by simp), World.cell?_setCell_same _ _ _ hc]
  · rw [World.cell?_alloc_lt _ _ ⟨b, 1, none⟩ (by simpa using hlt), World.cell?_setCell_same _ _ _ hd']
theorem free_after {w : World} {b o1 : Nat} (hb : b < w.heap.size) (hf : w.frozen? ⟨b, o1, none⟩ = false) (u v : Value) (o : Obj) :
    ((w.setCell ⟨b, 0, none⟩ u).alloc o).frozen? ⟨b, o1, none⟩ = false ∧ (((w.setCell ⟨b, 0, none⟩ u).setCell ⟨b, 1, none⟩ v).alloc o).frozen? ⟨b, o1, none⟩ = false := by
  refine ⟨?_, ?_⟩
  · rw [World.frozen?_alloc_old _ _ ⟨b, o1, none⟩ (by simpa using Nat.ne_of_lt hb), World.frozen?_setCell]; exact hf
  · rw [World.frozen?_alloc_old _ _ ⟨b, o1, none⟩ (by simpa using Nat.ne_of_lt hb), World.frozen?_setCell, World.frozen?_setCell]; exact hf

/-! ### Closed facts on the method sets -/
theorem Tryd.codeNoUnwrap (v : Value) (xT : TypeId) (w : World) : (Instr.typeAssert (.iface 30 v) xT 58 true).run Tryd.prog w = .ok (.tuple #[.nilIface, .bool false]) w := run_typeAssert_lacksB Tryd.underlying58 (by kernel_rfl) (by kernel_rfl) v xT w
theorem Tryd.otherNoUnwrap (v : Value) (xT : TypeId) (w : World) : (Instr.typeAssert (.iface 66 v) xT 58 true).run Tryd.prog w = .ok (.tuple #[.nilIface, .bool false]) w := run_typeAssert_lacksB Tryd.underlying58 (by kernel_rfl) (by kernel_rfl) v xT w
theorem Tryd.faultUnwrap (v : Value) (xT : TypeId) (w : World) : (Instr.typeAssert (.iface 50 v) xT 58 true).run Tryd.prog w = .ok (.tuple #[.iface 50 v, .bool true]) w := run_typeAssert_hasB Tryd.underlying58 (by kernel_rfl) v xT w
theorem Tryd.withinUnwrap (v : Value) (xT : TypeId) (w : World) : (Instr.typeAssert (.iface 57 v) xT 58 true).run Tryd.prog w = .ok (.tuple #[.iface 57 v, .bool true]) w := run_typeAssert_hasB Tryd.underlying58 (by kernel_rfl) v xT w
theorem Tryd.linkUnwrap (v : Value) (xT : TypeId) (w : World) : (Instr.typeAssert (.iface 53 v) xT 58 true).run Tryd.prog w = .ok (.tuple #[.iface 53 v, .bool true]) w := run_typeAssert_hasB Tryd.underlying58 (by kernel_rfl) v xT w
theorem Tryd.linkAs (v : Value) (xT : TypeId) (w : World) : (Instr.typeAssert (.iface 53 v) xT 90 true).run Tryd.prog w = .ok (.tuple #[.iface 53 v, .bool true]) w := run_typeAssert_hasB Tryd.underlying90 (by kernel_rfl) v xT w
theorem Tryd.mFaultUnwrap (v : Value) (w : World) : (Go.method 241 50 v "Unwrap").run Tryd.prog w = .ok (66, v) w := by kernel_rfl

/-! ### Unwrap -/
theorem fault_unwrap (c a : Int) (w : World) : Calls Tryd.prog 66 #[.agg #[.int .i64 c, .int .i64 a]] w fun e w' => e = .returned (.iface 30 (.int .i64 c)) ∧ Below w.heap.size w w' := by
  go_enter Tryd.func66, Tryd.ntmps66
  go_wp2
  go_ret
  exact ⟨rfl, (Below.refl _ _).alloc (Nat.le_refl _) _⟩
theorem within_unwrap (p : ByteArray) (e0 : Er) (w : World) : Calls Tryd.prog 71 #[.agg #[.string p, .iface e0.ty e0.pay]] w fun e w' => e = .returned (.iface e0.ty e0.pay) ∧ Below w.heap.size w w' := by
  go_enter Tryd.func71, Tryd.ntmps71
  go_wp2
  go_ret
  exact ⟨rfl, (Below.refl _ _).alloc (Nat.le_refl _) _⟩
theorem Tryd.mWithinUnwrap (v : Value) (w : World) : (Go.method 241 57 v "Unwrap").run Tryd.prog w = .ok (71, v) w := by kernel_rfl

/-- errors.Unwrap, whatever the error. -/
theorem unwrap (e0 : Er) (w : World) : Calls Tryd.prog 15 #[.iface e0.ty e0.pay] w fun e w' => e = .returned e0.nextV ∧ Below w.heap.size w w' := by
  have h1 := Tryd.codeNoUnwrap
  have h2 := Tryd.otherNoUnwrap
  have h3 := Tryd.faultUnwrap
  have h4 := Tryd.withinUnwrap
  have m1 := Tryd.mFaultUnwrap
  have m2 := Tryd.mWithinUnwrap
  cases e0 with
  | code c =>
    show Calls Tryd.prog 15 #[.iface 30 (.int .i64 c)] w fun e w' => e = .returned .nilIface ∧ Below w.heap.size w w'
    go_enter Tryd.func15, Tryd.ntmps15
    go_wp2
    go_ret
    exact ⟨rfl, Below.refl _ _⟩
  | fault c a =>
    show Calls Tryd.prog 15 #[.iface 50 (.agg #[.int .i64 c, .int .i64 a])] w fun e w' => e = .returned (.iface 30 (.int .i64 c)) ∧ Below w.heap.size w w'
    go_enter Tryd.func15, Tryd.ntmps15
    go_wp2_with fail
    refine (fault_unwrap c a _).mono ?_
    rintro e w' ⟨rfl, hb⟩
    go_wp2_with fail
    go_ret
    exact ⟨rfl, hb⟩
  | wrap p e1 =>
    show Calls Tryd.prog 15 #[.iface 57 (.agg #[.string p, .iface e1.ty e1.pay])] w fun e w' => e = .returned (.iface e1.ty e1.pay) ∧ Below w.heap.size w w'
    go_enter Tryd.func15, Tryd.ntmps15
    go_wp2_with fail
    refine (within_unwrap p e1 _).mono ?_
    rintro e w' ⟨rfl, hb⟩
    go_wp2_with fail
    go_ret
    exact ⟨rfl, hb⟩
  | other v =>
    show Calls Tryd.prog 15 #[.iface 66 v] w fun e w' => e = .returned .nilIface ∧ Below w.heap.size w w'
    go_enter Tryd.func15, Tryd.ntmps15
    go_wp2
    go_ret
    exact ⟨rfl, Below.refl _ _⟩
theorem Tryd.nilUnwrap (xT : TypeId) (w : World) : (Instr.typeAssert .nilIface xT 58 true).run Tryd.prog w = .ok (.tuple #[.nilIface, .bool false]) w := by kernel_rfl
theorem unwrap_nil (w : World) : Calls Tryd.prog 15 #[.nilIface] w fun e w' => e = .returned .nilIface ∧ Below w.heap.size w w' := by
  have h1 := Tryd.nilUnwrap
  go_enter Tryd.func15, Tryd.ntmps15
  go_wp2
  go_ret
  exact ⟨rfl, Below.refl _ _⟩

/-! ### The method Unwrap of a link: its deferred function finds no panic -/
theorem catch_idle (p : Addr) (w : World) :
    CallsD Tryd.prog 69 #[.pointer (some p)] .returning w fun e u' w' => e = .returned (.tuple #[]) ∧ u' = .returning ∧ w' = w := by
  refine callsD_of_wpS Tryd.func69 rfl fun c₀ cs hu => ?_
  apply wpS_seq
  apply wpS_region
  simp [wpOpsS, go_sem, recoverD, hu, Tryd.ntmps69, Exit.thenS]
  refine wpS_cond (t := false) (by simp [Act.eval, Array.replicate]) ?_
  simp only [Bool.false_eq_true, if_false]
  refine wpS_of_wp (wp_skip ?_)
  cases c₀
  simp_all [bodyPostS, results, Tryd.results69]

/-- The link of the next error, or nil. -/
def Er.nextL : Er → Value
  | .code _ => .nilIface
  | .fault c _ => .iface 53 (.agg #[.iface 30 (.int .i64 c)])
  | .wrap _ e => .iface 53 (.agg #[.iface e.ty e.pay])
  | .other _ => .nilIface
theorem nilEq (t : Nat) (v : Value) (w : World) : (binOp .eql 28 (.iface t v) .nilIface).run Tryd.prog w = .ok (.bool false) w := by
  have h : ∀ d : Nat, (Op.equalIn (d + 1) 28 (.iface t v) .nilIface).run Tryd.prog w = .ok false w := fun d => by simp [Op.equalIn, run_underlying Tryd.underlying28]
  simp only [binOp]
  simp [Op.equal, Op.maxDepth, h 9999]
theorem link_unwrap_some (e0 : Er) (t : Nat) (v : Value) (he : e0.nextV = .iface t v) (w : World) : Calls Tryd.prog 68 #[.agg #[.iface e0.ty e0.pay]] w fun e w' => e = .returned (.iface 53 (.agg #[.iface t v])) ∧ Below w.heap.size w w' := by
  have hmf : ∀ (fn : Fn) (first cap : Array Value) (w : World), (Instr.makeFunc fn first cap).run Tryd.prog w = .ok (.func fn first cap) w := fun _ _ _ _ => rfl
  have hne := nilEq
  have hx := Lib.hid he
  clear he
  go_enter_defers Tryd.func68, Tryd.ntmps68
  go_wp2_with fail
  refine (unwrap e0 _).mono ?_
  rintro e w1 ⟨rfl, hb⟩
  rw [hx.out]
  obtain ⟨hc, hf⟩ := bcell hb
  have hz := hb.size
  go_wp2_with fail
  refine leaves_cons (f := 69) (args := #[.pointer (some ⟨w.heap.size + 1, 0, none⟩)]) (by simp) (by simp [go_sem]) ?_
  refine (catch_idle ⟨w.heap.size + 1, 0, none⟩ _).mono ?_
  rintro e u' w'' ⟨rfl, rfl, rfl⟩
  have hz1 : w.heap.size + 1 < w1.heap.size := by simp at hz; omega
  have hcell : w1.cell? ⟨w.heap.size + 1, 0, none⟩ = some .nilIface := by rw [hc _ _ (by simp)]; simp
  have hfr : w1.frozen? ⟨w.heap.size + 1, 0, none⟩ = false := by rw [hf _ _ (by simp)]; simp
  have hB : Below w.heap.size w w1 := (((Below.refl _ _).alloc (Nat.le_refl _) _).alloc (by simp) _).trans (hb.mono (by simp; omega))
  simp [Leaves, settle, results, Tryd.results68, go_sem, hcell]
  exact hB.setCell (by simp) _
theorem link_unwrap_none (e0 : Er) (he : e0.nextV = .nilIface) (w : World) : Calls Tryd.prog 68 #[.agg #[.iface e0.ty e0.pay]] w fun e w' => e = .returned .nilIface ∧ Below w.heap.size w w' := by
  have hmf : ∀ (fn : Fn) (first cap : Array Value) (w : World), (Instr.makeFunc fn first cap).run Tryd.prog w = .ok (.func fn first cap) w := fun _ _ _ _ => rfl
  have hx := Lib.hid he
  clear he
  go_enter_defers Tryd.func68, Tryd.ntmps68
  go_wp2_with fail
  refine (unwrap e0 _).mono ?_
  rintro e w1 ⟨rfl, hb⟩
  rw [hx.out]
  obtain ⟨hc, hf⟩ := bcell hb
  have hz := hb.size
  go_wp2_with fail
  refine leaves_cons (f := 69) (args := #[.pointer (some ⟨w.heap.size + 1, 0, none⟩)]) (by simp) (by simp [go_sem]) ?_
  refine (catch_idle ⟨w.heap.size + 1, 0, none⟩ _).mono ?_
  rintro e u' w'' ⟨rfl, rfl, rfl⟩
  have hz1 : w.heap.size + 1 < w1.heap.size := by simp at hz; omega
  have hcell : w1.cell? ⟨w.heap.size + 1, 0, none⟩ = some .nilIface := by rw [hc _ _ (by simp)]; simp
  have hfr : w1.frozen? ⟨w.heap.size + 1, 0, none⟩ = false := by rw [hf _ _ (by simp)]; simp
  have hB : Below w.heap.size w w1 := (((Below.refl _ _).alloc (Nat.le_refl _) _).alloc (by simp) _).trans (hb.mono (by simp; omega))
  simp [Leaves, settle, results, Tryd.results68, go_sem, hcell]
  exact hB.setCell (by simp) _

/-! ### The method As of a link -/
/-- What errors.As finds at this very error, for a code. -/
def Er.codeHere : Er → Int
  | .code c => c
  | _ => 0
def Er.isCode : Er → Bool
  | .code _ => true
  | _ => false
theorem Tryd.taPCPC (v : Value) (xT : TypeId) (w : World) : (Instr.typeAssert (.iface 54 v) xT 54 true).run Tryd.prog w = .ok (.tuple #[v, .bool true]) w := by kernel_rfl
theorem Tryd.taPFPC (v : Value) (xT : TypeId) (w : World) : (Instr.typeAssert (.iface 55 v) xT 54 true).run Tryd.prog w = .ok (.tuple #[.pointer none, .bool false]) w := by kernel_rfl
theorem Tryd.taPFPF (v : Value) (xT : TypeId) (w : World) : (Instr.typeAssert (.iface 55 v) xT 55 true).run Tryd.prog w = .ok (.tuple #[v, .bool true]) w := by kernel_rfl
theorem Tryd.taCC (v : Value) (xT : TypeId) (w : World) : (Instr.typeAssert (.iface 30 v) xT 30 true).run Tryd.prog w = .ok (.tuple #[v, .bool true]) w := by kernel_rfl
theorem Tryd.taCF (v : Value) (xT : TypeId) (w : World) : (Instr.typeAssert (.iface 30 v) xT 50 true).run Tryd.prog w = .ok (.tuple #[.agg #[.int .i64 0, .int .i64 0], .bool false]) w := by kernel_rfl
theorem Tryd.taFC (v : Value) (xT : TypeId) (w : World) : (Instr.typeAssert (.iface 50 v) xT 30 true).run Tryd.prog w = .ok (.tuple #[.int .i64 0, .bool false]) w := by kernel_rfl
theorem Tryd.taFF (v : Value) (xT : TypeId) (w : World) : (Instr.typeAssert (.iface 50 v) xT 50 true).run Tryd.prog w = .ok (.tuple #[v, .bool true]) w := by kernel_rfl
theorem Tryd.taWC (v : Value) (xT : TypeId) (w : World) : (Instr.typeAssert (.iface 57 v) xT 30 true).run Tryd.prog w = .ok (.tuple #[.int .i64 0, .bool false]) w := by kernel_rfl
theorem Tryd.taWF (v : Value) (xT : TypeId) (w : World) : (Instr.typeAssert (.iface 57 v) xT 50 true).run Tryd.prog w = .ok (.tuple #[.agg #[.int .i64 0, .int .i64 0], .bool false]) w := by kernel_rfl
theorem Tryd.taOC (v : Value) (xT : TypeId) (w : World) : (Instr.typeAssert (.iface 66 v) xT 30 true).run Tryd.prog w = .ok (.tuple #[.int .i64 0, .bool false]) w := by kernel_rfl
theorem Tryd.taOF (v : Value) (xT : TypeId) (w : World) : (Instr.typeAssert (.iface 66 v) xT 50 true).run Tryd.prog w = .ok (.tuple #[.agg #[.int .i64 0, .int .i64 0], .bool false]) w := by kernel_rfl
theorem link_as_code (e0 : Er) (tb : Nat) (x : Int) (w : World) (hc : w.cell? ⟨tb, 0, none⟩ = some (.int .i64 x)) (hf : w.frozen? ⟨tb, 0, none⟩ = false) :
    Calls Tryd.prog 67 #[.agg #[.iface e0.ty e0.pay], .iface 54 (.pointer (some ⟨tb, 0, none⟩))] w fun e w' => e = .returned (.bool e0.isCode) ∧ w' = (w.setCell ⟨tb, 0, none⟩ (.int .i64 e0.codeHere)).alloc (.cells #[.iface e0.ty e0.pay] 53) := by
  have hlt : tb < w.heap.size := block_lt hc
  have f1 := Tryd.taPCPC
  have f2 := Tryd.taCC
  have f3 := Tryd.taFC
  have f4 := Tryd.taWC
  have f5 := Tryd.taOC
  cases e0 with
  | code c =>
    show Calls Tryd.prog 67 #[.agg #[.iface 30 (.int .i64 c)], .iface 54 (.pointer (some ⟨tb, 0, none⟩))] w fun e w' => e = .returned (.bool true) ∧ w' = (w.setCell ⟨tb, 0, none⟩ (.int .i64 c)).alloc (.cells #[.iface 30 (.int .i64 c)] 53)
    go_enter Tryd.func67, Tryd.ntmps67
    go_wp2
    go_ret
    exact ⟨rfl, rfl⟩
  | fault c a =>
    show Calls Tryd.prog 67 #[.agg #[.iface 50 (.agg #[.int .i64 c, .int .i64 a])], .iface 54 (.pointer (some ⟨tb, 0, none⟩))] w fun e w' => e = .returned (.bool false) ∧ w' = (w.setCell ⟨tb, 0, none⟩ (.int .i64 0)).alloc (.cells #[.iface 50 (.agg #[.int .i64 c, .int .i64 a])] 53)
    go_enter Tryd.func67, Tryd.ntmps67
    go_wp2
    go_ret
    exact ⟨rfl, rfl⟩
  | wrap p e1 =>
    show Calls Tryd.prog 67 #[.agg #[.iface 57 (.agg #[.string p, .iface e1.ty e1.pay])], .iface 54 (.pointer (some ⟨tb, 0, none⟩))] w fun e w' => e = .returned (.bool false) ∧ w' = (w.setCell ⟨tb, 0, none⟩ (.int .i64 0)).alloc (.cells #[.iface 57 (.agg #[.string p, .iface e1.ty e1.pay])] 53)
    go_enter Tryd.func67, Tryd.ntmps67
    go_wp2
    go_ret
    exact ⟨rfl, rfl⟩
  | other v =>
    show Calls Tryd.prog 67 #[.agg #[.iface 66 v], .iface 54 (.pointer (some ⟨tb, 0, none⟩))] w fun e w' => e = .returned (.bool false) ∧ w' = (w.setCell ⟨tb, 0, none⟩ (.int .i64 0)).alloc (.cells #[.iface 66 v] 53)
    go_enter Tryd.func67, Tryd.ntmps67
    go_wp2
    go_ret
    exact ⟨rfl, rfl⟩
/-- What errors.As finds at this very error, for a fault. -/
def Er.atHere : Er → Int × Int
  | .fault c a => (c, a)
  | _ => (0, 0)
def Er.isFault : Er → Bool
  | .fault _ _ => true
  | _ => false
theorem link_as_fault (e0 : Er) (tb : Nat) (x y : Int) (w : World) (hc : w.cell? ⟨tb, 0, none⟩ = some (.int .i64 x)) (hd : w.cell? ⟨tb, 1, none⟩ = some (.int .i64 y)) (hf : w.frozen? ⟨tb, 0, none⟩ = false) (hg : w.frozen? ⟨tb, 1, none⟩ = false) :
    Calls Tryd.prog 67 #[.agg #[.iface e0.ty e0.pay], .iface 55 (.pointer (some ⟨tb, 0, none⟩))] w fun e w' => e = .returned (.bool e0.isFault) ∧ w' = ((w.setCell ⟨tb, 0, none⟩ (.int .i64 e0.atHere.1)).setCell ⟨tb, 1, none⟩ (.int .i64 e0.atHere.2)).alloc (.cells #[.iface e0.ty e0.pay] 53) := by
  have hlt : tb < w.heap.size := block_lt hc
  have f1 := Tryd.taPFPF
  have f0 := Tryd.taPFPC
  have f2 := Tryd.taCF
  have f3 := Tryd.taFF
  have f4 := Tryd.taWF
  have f5 := Tryd.taOF
  cases e0 with
  | code c =>
    show Calls Tryd.prog 67 #[.agg #[.iface 30 (.int .i64 c)], .iface 55 (.pointer (some ⟨tb, 0, none⟩))] w fun e w' => e = .returned (.bool false) ∧ w' = ((w.setCell ⟨tb, 0, none⟩ (.int .i64 0)).setCell ⟨tb, 1, none⟩ (.int .i64 0)).alloc (.cells #[.iface 30 (.int .i64 c)] 53)
    go_enter Tryd.func67, Tryd.ntmps67
    go_wp2
    go_ret
    exact ⟨rfl, rfl⟩
  | fault c a =>
    show Calls Tryd.prog 67 #[.agg #[.iface 50 (.agg #[.int .i64 c, .int .i64 a])], .iface 55 (.pointer (some ⟨tb, 0, none⟩))] w fun e w' => e = .returned (.bool true) ∧ w' = ((w.setCell ⟨tb, 0, none⟩ (.int .i64 c)).setCell ⟨tb, 1, none⟩ (.int .i64 a)).alloc (.cells #[.iface 50 (.agg #[.int .i64 c, .int .i64 a])] 53)
    go_enter Tryd.func67, Tryd.ntmps67
    go_wp2
    go_ret
    exact ⟨rfl, rfl⟩
  | wrap p e1 =>
    show Calls Tryd.prog 67 #[.agg #[.iface 57 (.agg #[.string p, .iface e1.ty e1.pay])], .iface 55 (.pointer (some ⟨tb, 0, none⟩))] w fun e w' => e = .returned (.bool false) ∧ w' = ((w.setCell ⟨tb, 0, none⟩ (.int .i64 0)).setCell ⟨tb, 1, none⟩ (.int .i64 0)).alloc (.cells #[.iface 57 (.agg #[.string p, .iface e1.ty e1.pay])] 53)
    go_enter Tryd.func67, Tryd.ntmps67
    go_wp2
    go_ret
    exact ⟨rfl, rfl⟩
  | other v =>
    show Calls Tryd.prog 67 #[.agg #[.iface 66 v], .iface 55 (.pointer (some ⟨tb, 0, none⟩))] w fun e w' => e = .returned (.bool false) ∧ w' = ((w.setCell ⟨tb, 0, none⟩ (.int .i64 0)).setCell ⟨tb, 1, none⟩ (.int .i64 0)).alloc (.cells #[.iface 66 v] 53)
    go_enter Tryd.func67, Tryd.ntmps67
    go_wp2
    go_ret
    exact ⟨rfl, rfl⟩

/-! ### The chain -/
def Er.dep : Er → Nat
  | .code _ => 0
  | .fault _ _ => 1
  | .wrap _ e => e.dep + 2
  | .other _ => 0
theorem Er.next_of {e : Er} {e1 : Er} (h : e.next = some e1) : e.nextV = .iface e1.ty e1.pay ∧ e1.dep < e.dep ∧ e1.cod = e.cod ∧ (e.isFault = false → e1.off = e.off) := by
  cases e with
  | code c => cases h
  | fault c a => cases h; exact ⟨rfl, by simp [Er.dep], rfl, fun h => by cases h⟩
  | wrap p e => cases h; exact ⟨rfl, by simp [Er.dep], rfl, fun _ => rfl⟩
  | other v => cases h
theorem Er.next_none {e : Er} (h : e.next = none) : e.nextV = .nilIface ∧ (e.isCode = false → e.cod = none) ∧ e.off = none := by
  cases e with
  | code c => exact ⟨rfl, (fun h => by cases h), rfl⟩
  | fault c a => cases h
  | wrap p e => cases h
  | other v => exact ⟨rfl, fun _ => rfl, rfl⟩
theorem Er.cod_here {e : Er} (h : e.isCode = true) : e.cod = some e.codeHere := by
  cases e <;> first | rfl | cases h
theorem Er.codeHere_no {e : Er} (h : e.isCode = false) : e.codeHere = 0 := by
  cases e <;> first | rfl | cases h
theorem Er.off_here {e : Er} (h : e.isFault = true) : e.off = some e.atHere.2 := by
  cases e <;> first | rfl | cases h
theorem Er.atHere_no {e : Er} (h : e.isFault = false) : e.atHere = (0, 0) := by
  cases e <;> first | rfl | cases h
end Go.Proofs.YtiddiahlodlmlaaDoor
