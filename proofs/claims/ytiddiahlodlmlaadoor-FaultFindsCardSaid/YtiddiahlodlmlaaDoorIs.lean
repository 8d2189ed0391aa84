/-
  Contracts of errors.Is at a code: whether the chain has it. And of the reference package's Name and Told. Condition: those of each theorem.
-/
import Derived.Test.YtiddiahlodlmlaaDoorRef
import Derived.Deep.LoopGhost
namespace Go.Proofs.YtiddiahlodlmlaaDoor
open Go.RowKit Go.Extern.Stop Go.Stop Go.Extern Go.Shelf
set_option linter.unusedVariables false
set_option maxRecDepth 20000

/-! ### errors.Is -/
def Er.isC (x : Int) : Er → Bool
  | .code c => decide (c = x)
  | _ => false
def Er.has (x : Int) : Er → Bool
  | .code c => decide (c = x)
  | .fault c _ => decide (c = x)
  | .wrap _ e => e.has x
  | .other _ => false
theorem Er.has_next {e e1 : Er} {x : Int} (h : e.next = some e1) : e.isC x = false ∧ e1.has x = e.has x ∧ e1.dep < e.dep := by
  cases e with
  | code c => cases h
  | fault c a => cases h; exact ⟨rfl, rfl, by simp [Er.dep]⟩
  | wrap p e => cases h; exact ⟨rfl, rfl, by simp [Er.dep]⟩
  | other v => cases h
theorem Er.has_last {e : Er} {x : Int} (h : e.next = none) : e.has x = e.isC x := by
  cases e with
  | code c => rfl
  | fault c a => cases h
  | wrap p e => cases h
  | other v => rfl
theorem eqCode (c x : Int) (w : World) : (binOp .eql 28 (.iface 30 (.int .i64 c)) (.iface 30 (.int .i64 x))).run Tryd.prog w = .ok (.bool (decide (c = x))) w := by
  obtain ⟨i, hi, hcmp⟩ := Option.map_eq_some_iff.1 (show (Tryd.prog.info? 30).map (·.comparable) = some true by kernel_rfl)
  have h : ∀ d : Nat, (Op.equalIn (d + 2) 28 (.iface 30 (.int .i64 c)) (.iface 30 (.int .i64 x))).run Tryd.prog w = .ok (decide (c = x)) w := fun d => by
    simp [Op.equalIn, run_underlying Tryd.underlying28, run_underlying Tryd.underlying30, typeInfo, hi, hcmp]
    rfl
  simp only [binOp]
  simp [Op.equal, Op.maxDepth, h 9998]
theorem Er.eqT (e : Er) (x : Int) (w : World) : (binOp .eql 28 (.iface e.ty e.pay) (.iface 30 (.int .i64 x))).run Tryd.prog w = .ok (.bool (e.isC x)) w := by
  cases e with
  | code c => exact eqCode c x w
  | fault c a => exact run_eql_iface_types (P := Tryd.prog) 50 30 _ _ Tryd.underlying28 (by decide) w
  | wrap p e => exact run_eql_iface_types (P := Tryd.prog) 57 30 _ _ Tryd.underlying28 (by decide) w
  | other v => exact run_eql_iface_types (P := Tryd.prog) 66 30 _ _ Tryd.underlying28 (by decide) w
theorem Er.noIs (e : Er) (xT : TypeId) (w : World) : (Instr.typeAssert (.iface e.ty e.pay) xT 82 true).run Tryd.prog w = .ok (.tuple #[.nilIface, .bool false]) w := by
  cases e with
  | code c => exact run_typeAssert_lacksB (t := 30) Tryd.underlying82 (by kernel_rfl) (by kernel_rfl) _ xT w
  | fault c a => exact run_typeAssert_lacksB (t := 50) Tryd.underlying82 (by kernel_rfl) (by kernel_rfl) _ xT w
  | wrap p e => exact run_typeAssert_lacksB (t := 57) Tryd.underlying82 (by kernel_rfl) (by kernel_rfl) _ xT w
  | other v => exact run_typeAssert_lacksB (t := 66) Tryd.underlying82 (by kernel_rfl) (by kernel_rfl) _ xT w
theorem Er.uLacks (e : Er) (h : e.next = none) (xT : TypeId) (w : World) : (Instr.typeAssert (.iface e.ty e.pay) xT 58 true).run Tryd.prog w = .ok (.tuple #[.nilIface, .bool false]) w := by
  cases e with
  | code c => exact Tryd.codeNoUnwrap _ xT w
  | fault c a => cases h
  | wrap p e => cases h
  | other v => exact Tryd.otherNoUnwrap _ xT w
theorem Er.usLacks (e : Er) (h : e.next = none) (xT : TypeId) (w : World) : (Instr.typeAssert (.iface e.ty e.pay) xT 85 true).run Tryd.prog w = .ok (.tuple #[.nilIface, .bool false]) w := by
  cases e with
  | code c => exact run_typeAssert_lacksB (t := 30) Tryd.underlying85 (by kernel_rfl) (by kernel_rfl) _ xT w
  | fault c a => cases h
  | wrap p e => cases h
  | other v => exact run_typeAssert_lacksB (t := 66) Tryd.underlying85 (by kernel_rfl) (by kernel_rfl) _ xT w
theorem Er.uHas (e e1 : Er) (h : e.next = some e1) (xT : TypeId) (w : World) : (Instr.typeAssert (.iface e.ty e.pay) xT 58 true).run Tryd.prog w = .ok (.tuple #[.iface e.ty e.pay, .bool true]) w := by
  cases e with
  | code c => cases h
  | fault c a => exact Tryd.faultUnwrap _ xT w
  | wrap p e => exact Tryd.withinUnwrap _ xT w
  | other v => cases h
def Er.ufn : Er → Nat
  | .fault _ _ => 66
  | _ => 71
theorem Er.uMethod (e e1 : Er) (h : e.next = some e1) (w : World) : (Go.method 241 e.ty e.pay "Unwrap").run Tryd.prog w = .ok (e.ufn, e.pay) w := by
  cases e with
  | code c => cases h
  | fault c a => exact Tryd.mFaultUnwrap _ w
  | wrap p e => exact Tryd.mWithinUnwrap _ w
  | other v => cases h
theorem Er.uEnters (e : Er) (args : Array Value) (w : World) : (callFunc e.ufn args).run Tryd.prog w = .ok (.enter e.ufn args) w := by
  cases e with
  | fault c a => exact enters_of Tryd.func66 (by kernel_rfl) rfl args w
  | _ => exact enters_of Tryd.func71 (by kernel_rfl) rfl args w
theorem Er.uCalls (e e1 : Er) (h : e.next = some e1) (w : World) : Calls Tryd.prog e.ufn #[e.pay] w fun r w' => r = .returned (.iface e1.ty e1.pay) ∧ Below w.heap.size w w' := by
  cases e with
  | code c => cases h
  | fault c a => cases h; exact fault_unwrap c a w
  | wrap p e => cases h; exact within_unwrap p _ w
  | other v => cases h

def RelI (e0 : Er) (x : Int) (w : World) (k : Nat) (v : Value) (wr : World) : Prop :=
  ∃ e : Er, e.dep ≤ k ∧ v = .iface e.ty e.pay ∧ e.has x = e0.has x ∧ Below w.heap.size w wr
set_option maxHeartbeats 4000000 in
theorem is_ (e0 : Er) (x : Int) (w : World) :
    Calls Tryd.prog 26 #[.iface e0.ty e0.pay, .iface 30 (.int .i64 x), .bool true] w fun r w' => r = .returned (.bool (e0.has x)) ∧ Below w.heap.size w w' := by
  have hne := nilEq
  go_enter Tryd.func26, Tryd.ntmps26
  go_wp2_with fail
  go_loopg [0] e0.dep (fun k v wr => RelI e0 x w k v wr)
  case atStart => exact ⟨e0, Nat.le_refl _, rfl, rfl, Below.refl _ _⟩
  case round =>
    obtain ⟨e, hk, rfl, hhas, hbel⟩ := hrel
    have Hk := Lib.hid hk
    have Hhas := Lib.hid hhas
    clear hk hhas
    have hq := e.eqT x
    have hi := e.noIs
    cases hN : e.next with
    | none =>
      have hl := e.uLacks hN
      have hs := e.usLacks hN
      have Hl := Lib.hid (Er.has_last (x := x) hN)
      clear hN
      cases hC : e.isC x with
      | true =>
        rw [hC] at hq
        go_wp2_with fail
        go_ret
        exact ⟨by rw [← Hhas.out, Hl.out, hC]; rfl, hbel⟩
      | false =>
        rw [hC] at hq
        go_wp2_with fail
        go_ret
        exact ⟨by rw [← Hhas.out, Hl.out, hC]; rfl, hbel⟩
    | some e1 =>
      obtain ⟨hC, hh, hd⟩ := Er.has_next (x := x) hN
      rw [hC] at hq
      have Hh := Lib.hid hh
      have Hd := Lib.hid hd
      have hu := e.uHas e1 hN
      have hm := e.uMethod e1 hN
      have hen := e.uEnters
      have hcall := e.uCalls e1 hN
      clear hN hC hh hd
      go_wp2_with fail
      refine (hcall _).mono ?_
      rintro r w2 ⟨rfl, hb2⟩
      go_wp2_with fail
      go_roundg e1.dep
      case measure => have h1 := Hd.out; have h2 := Hk.out; omega
      case rel => exact ⟨e1, Nat.le_refl _, rfl, Hh.out.trans Hhas.out, hbel.trans (hb2.mono hbel.size)⟩

theorem Tryd.typeOfCode (v : Value) (w : World) : (ReflectliteType.typeOf #[.iface 30 v]).run Tryd.prog w = .ok (.iface 80 (.agg #[.pointer (some ⟨5, 30, none⟩)])) w := by kernel_rfl
theorem Tryd.isComparable (w : World) : ((ReflectliteType.method fun t => do Rtype.noPackHeld "Comparable" t; (fun a => Value.bool a.comparable) <$> typeInfo t) #[.agg #[.pointer (some ⟨5, 30, none⟩)]]).run Tryd.prog w = .ok (.bool true) w := by kernel_rfl
theorem Tryd.methodComparable (h : Value) (w : World) : (Go.method 241 80 (.agg #[h]) "Comparable").run Tryd.prog w = .ok (78, .agg #[h]) w := by kernel_rfl
set_option maxHeartbeats 1600000 in
theorem Is_ (e0 : Er) (x : Int) (w : World) :
    Calls Tryd.prog 16 #[.iface e0.ty e0.pay, .iface 30 (.int .i64 x)] w fun r w' => r = .returned (.bool (e0.has x)) ∧ Below w.heap.size w w' := by
  have h8 := @run_callFunc_extern Tryd.prog 25 _ ReflectliteType.typeOf Tryd.func25 (by kernel_rfl) (by kernel_rfl) (by kernel_rfl) (by kernel_rfl)
  have h32 := @run_callFunc_extern Tryd.prog 78 _ (ReflectliteType.method fun t => do Rtype.noPackHeld "Comparable" t; pure (.bool (← typeInfo t).comparable)) Tryd.func78 (by kernel_rfl) (by kernel_rfl) (by kernel_rfl) (by kernel_rfl)
  have tT := Tryd.typeOfCode
  have cT := Tryd.isComparable
  have mR := Tryd.methodComparable
  have hne := nilEq
  go_enter Tryd.func16, Tryd.ntmps16
  go_wp2_with fail
  refine (is_ e0 x _).mono ?_
  rintro r w2 ⟨rfl, hb2⟩
  go_wp2_with fail
  go_ret
  exact ⟨rfl, hb2⟩
end Go.Proofs.YtiddiahlodlmlaaDoor
