/-
  Contracts of errors.As where package fault calls it: what it finds is the first code, or the first offset, of the chain; nothing that was there is written but the target. Condition: package errors knows the type error.
-/
import Derived.Test.YtfmlllckfpagkaaDoorErb
import Derived.LoopTactic
import Derived.Deep.LoopGhost
namespace Go.Proofs.YtfmlllckfpagkaaDoor
open Go.RowKit Go.Extern.Stop Go.Stop Go.Extern
set_option linter.unusedVariables false
set_option maxRecDepth 20000

/-! ### Closed facts on reflectlite's entries: the target's type, its element's type, the link's type -/
theorem Tryd.methodKind (h : Value) (w : World) : (Go.method 221 75 (.agg #[h]) "Kind").run Tryd.prog w = .ok (45, h) w := by kernel_rfl
theorem Tryd.methodElem (h : Value) (w : World) : (Go.method 221 75 (.agg #[h]) "Elem").run Tryd.prog w = .ok (61, .agg #[h]) w := by kernel_rfl
theorem Tryd.methodImplements (h : Value) (w : World) : (Go.method 221 75 (.agg #[h]) "Implements").run Tryd.prog w = .ok (62, .agg #[h]) w := by kernel_rfl
theorem Tryd.methodAssignableTo (h : Value) (w : World) : (Go.method 221 75 (.agg #[h]) "AssignableTo").run Tryd.prog w = .ok (59, .agg #[h]) w := by kernel_rfl
theorem Tryd.methodLinkAs (h : Value) (w : World) : (Go.method 221 59 (.agg #[h]) "As").run Tryd.prog w = .ok (51, .agg #[h]) w := by kernel_rfl
theorem Tryd.methodLinkUnwrap (h : Value) (w : World) : (Go.method 221 59 (.agg #[h]) "Unwrap").run Tryd.prog w = .ok (52, .agg #[h]) w := by kernel_rfl
theorem Tryd.typeOfLink (v : Value) (w : World) : (ReflectliteType.typeOf #[.iface 59 v]).run Tryd.prog w = .ok (.iface 75 (hdl 59)) w := by kernel_rfl
theorem Tryd.linkToCode (w : World) : (ReflectliteType.relation "AssignableTo" ReflectliteType.assignableTo #[hdl 59, .iface 75 (hdl 42)]).run Tryd.prog w = .ok (.bool false) w := by kernel_rfl
theorem Tryd.linkToFault (w : World) : (ReflectliteType.relation "AssignableTo" ReflectliteType.assignableTo #[hdl 59, .iface 75 (hdl 56)]).run Tryd.prog w = .ok (.bool false) w := by kernel_rfl

/-! ### errors.as -/
/-- What the search for a code leaves. -/
def AsC (e0 : Er) (tb B : Nat) (w : World) (e : Ending) (w' : World) : Prop :=
  e = .returned (.bool e0.cod.isSome) ∧ w'.cell? ⟨tb, 0, none⟩ = some (.int .i64 (e0.cod.getD 0)) ∧ Below B w w'
/-- What holds at each of its rounds. -/
def RelC (e0 : Er) (tb B : Nat) (w : World) (k : Nat) (v : Value) (wr : World) : Prop :=
  ∃ (e : Er) (x : Int), e.dep ≤ k ∧ v = .iface 59 (.agg #[.iface e.ty e.pay]) ∧ e.cod = e0.cod ∧ Below B w wr ∧ wr.cell? ⟨tb, 0, none⟩ = some (.int .i64 x) ∧ wr.frozen? ⟨tb, 0, none⟩ = false

set_option maxHeartbeats 4000000 in
theorem as_code (e0 : Er) (tb B : Nat) (x : Int) (v2 : Value) (w : World) (hB : B ≤ tb) (hc : w.cell? ⟨tb, 0, none⟩ = some (.int .i64 x)) (hf : w.frozen? ⟨tb, 0, none⟩ = false) :
    Calls Tryd.prog 27 #[.iface 59 (.agg #[.iface e0.ty e0.pay]), .iface 60 (.pointer (some ⟨tb, 0, none⟩)), .agg #[.pointer (some ⟨2, 60, none⟩), v2, .int .u64 150], .iface 75 (hdl 42)] w (AsC e0 tb B w) := by
  have hTo := @run_callFunc_extern Tryd.prog 28 _ ReflectliteType.typeOf Tryd.func28 (by kernel_rfl) (by kernel_rfl) (by kernel_rfl) (by kernel_rfl)
  have hAs := @run_callFunc_extern Tryd.prog 59 _ (ReflectliteType.relation "AssignableTo" ReflectliteType.assignableTo) Tryd.func59 (by kernel_rfl) (by kernel_rfl) (by kernel_rfl) (by kernel_rfl)
  have tO := Tryd.typeOfLink
  have mA := Tryd.methodAssignableTo
  have aC := Tryd.linkToCode
  have lA := Tryd.linkAs
  have lU := Tryd.linkUnwrap
  have mLA := Tryd.methodLinkAs
  have mLU := Tryd.methodLinkUnwrap
  have hlt : tb < w.heap.size := block_lt hc
  unfold hdl at *
  go_enter Tryd.func27, Tryd.ntmps27
  go_wp2_with fail
  go_loopg [0] e0.dep (fun k v wr => RelC e0 tb B w k v wr)
  case atStart =>
    exact ⟨e0, x, Nat.le_refl _, rfl, rfl, (Below.refl _ _).alloc (by omega) _, by rw [World.cell?_alloc_lt _ _ ⟨tb, 0, none⟩ hlt]; exact hc, by rw [World.frozen?_alloc_old _ _ ⟨tb, 0, none⟩ (Nat.ne_of_lt hlt)]; exact hf⟩
  case round =>
    obtain ⟨e, x, hk, rfl, hcod, hbel, hc, hf⟩ := hrel
    have Hk := Lib.hid hk
    have Hcod := Lib.hid hcod
    clear hk hcod
    have hltr : tb < wr.heap.size := block_lt hc
    go_wp2_with fail
    refine (link_as_code e tb x _ hc hf).mono ?_
    rintro ev w2 ⟨rfl, rfl⟩
    have hb2 : Below B w ((wr.setCell ⟨tb, 0, none⟩ (.int .i64 e.codeHere)).alloc (.cells #[.iface e.ty e.pay] 59)) := (hbel.setCell (p := ⟨tb, 0, none⟩) hB _).alloc (by have := hbel.size; simp; omega) _
    have hlt2 : tb < ((wr.setCell ⟨tb, 0, none⟩ (.int .i64 e.codeHere)).alloc (.cells #[.iface e.ty e.pay] 59)).heap.size := by simp; omega
    cases hA : e.isCode with
    | true =>
      have hh := Lib.hid (Er.cod_here hA)
      clear hA
      go_wp2_with fail
      go_ret
      refine ⟨?_, ?_, hb2⟩
      · rw [← Hcod.out, hh.out]; rfl
      · rw [← Hcod.out, hh.out]; exact one_after hc _ _
    | false =>
      have hz := Lib.hid (Er.codeHere_no hA)
      cases hN : e.next with
      | none =>
        obtain ⟨hv, hco, hof⟩ := Er.next_none hN
        have hh := Lib.hid (hco hA)
        clear hco hof hN hA
        go_wp2_with fail
        refine (link_unwrap_none e hv _).mono ?_
        rintro ev w3 ⟨rfl, hb3⟩
        obtain ⟨hc3, hf3⟩ := bcell hb3
        have hb3' := hb2.trans (hb3.mono (Nat.le_trans hB (Nat.le_of_lt hlt2)))
        go_wp2_with fail
        go_ret
        refine ⟨?_, ?_, hb3'⟩
        · rw [← Hcod.out, hh.out]; rfl
        · rw [← Hcod.out, hh.out, hc3 _ _ hlt2, one_after hc _ _, hz.out]; rfl
      | some e1 =>
        obtain ⟨hv, hd1, hco, hof⟩ := Er.next_of hN
        have hh := Lib.hid (hco)
        have hd' := Lib.hid hd1
        clear hco hof hN hd1 hA
        go_wp2_with fail
        refine (link_unwrap_some e e1.ty e1.pay hv _).mono ?_
        rintro ev w3 ⟨rfl, hb3⟩
        have Hv := Lib.hid hv
        clear hv
        obtain ⟨hc3, hf3⟩ := bcell hb3
        have hb3' := hb2.trans (hb3.mono (Nat.le_trans hB (Nat.le_of_lt hlt2)))
        have hne := nilEq
        go_wp2_with fail
        go_roundg e1.dep
        case measure => have h1 := hd'.out; have h2 := Hk.out; omega
        case rel =>
          refine ⟨e1, e.codeHere, Nat.le_refl _, rfl, hh.out.trans Hcod.out, hb3', ?_, ?_⟩
          · rw [hc3 _ _ hlt2]; exact one_after hc _ _
          · rw [hf3 _ _ hlt2]; exact (free_after hltr hf _ (.int .i64 0) _).1

/-- What the search for an offset leaves. -/
def AsF (e0 : Er) (tb B : Nat) (w : World) (e : Ending) (w' : World) : Prop :=
  e = .returned (.bool e0.off.isSome) ∧ w'.cell? ⟨tb, 1, none⟩ = some (.int .i64 (e0.off.getD 0)) ∧ Below B w w'
/-- What holds at each of its rounds. -/
def RelF (e0 : Er) (tb B : Nat) (w : World) (k : Nat) (v : Value) (wr : World) : Prop :=
  ∃ (e : Er) (x y : Int), e.dep ≤ k ∧ v = .iface 59 (.agg #[.iface e.ty e.pay]) ∧ e.off = e0.off ∧ Below B w wr ∧ wr.cell? ⟨tb, 0, none⟩ = some (.int .i64 x) ∧ wr.cell? ⟨tb, 1, none⟩ = some (.int .i64 y) ∧ wr.frozen? ⟨tb, 0, none⟩ = false ∧ wr.frozen? ⟨tb, 1, none⟩ = false

set_option maxHeartbeats 4000000 in
theorem as_fault (e0 : Er) (tb B : Nat) (x y : Int) (v2 : Value) (w : World) (hB : B ≤ tb) (hc : w.cell? ⟨tb, 0, none⟩ = some (.int .i64 x)) (hd : w.cell? ⟨tb, 1, none⟩ = some (.int .i64 y)) (hf : w.frozen? ⟨tb, 0, none⟩ = false) (hg : w.frozen? ⟨tb, 1, none⟩ = false) :
    Calls Tryd.prog 27 #[.iface 59 (.agg #[.iface e0.ty e0.pay]), .iface 61 (.pointer (some ⟨tb, 0, none⟩)), .agg #[.pointer (some ⟨2, 61, none⟩), v2, .int .u64 150], .iface 75 (hdl 56)] w (AsF e0 tb B w) := by
  have hTo := @run_callFunc_extern Tryd.prog 28 _ ReflectliteType.typeOf Tryd.func28 (by kernel_rfl) (by kernel_rfl) (by kernel_rfl) (by kernel_rfl)
  have hAs := @run_callFunc_extern Tryd.prog 59 _ (ReflectliteType.relation "AssignableTo" ReflectliteType.assignableTo) Tryd.func59 (by kernel_rfl) (by kernel_rfl) (by kernel_rfl) (by kernel_rfl)
  have tO := Tryd.typeOfLink
  have mA := Tryd.methodAssignableTo
  have aC := Tryd.linkToFault
  have lA := Tryd.linkAs
  have lU := Tryd.linkUnwrap
  have mLA := Tryd.methodLinkAs
  have mLU := Tryd.methodLinkUnwrap
  have hlt : tb < w.heap.size := block_lt hc
  unfold hdl at *
  go_enter Tryd.func27, Tryd.ntmps27
  go_wp2_with fail
  go_loopg [0] e0.dep (fun k v wr => RelF e0 tb B w k v wr)
  case atStart =>
    exact ⟨e0, x, y, Nat.le_refl _, rfl, rfl, (Below.refl _ _).alloc (by omega) _, by rw [World.cell?_alloc_lt _ _ ⟨tb, 0, none⟩ hlt]; exact hc, by rw [World.cell?_alloc_lt _ _ ⟨tb, 1, none⟩ hlt]; exact hd, by rw [World.frozen?_alloc_old _ _ ⟨tb, 0, none⟩ (Nat.ne_of_lt hlt)]; exact hf, by rw [World.frozen?_alloc_old _ _ ⟨tb, 1, none⟩ (Nat.ne_of_lt hlt)]; exact hg⟩
  case round =>
    obtain ⟨e, x, y, hk, rfl, hcod, hbel, hc, hd, hf, hg⟩ := hrel
    have Hk := Lib.hid hk
    have Hcod := Lib.hid hcod
    clear hk hcod
    have hltr : tb < wr.heap.size := block_lt hc
    go_wp2_with fail
    refine (link_as_fault e tb x y _ hc hd hf hg).mono ?_
    rintro ev w2 ⟨rfl, rfl⟩
    have hb2 : Below B w (((wr.setCell ⟨tb, 0, none⟩ (.int .i64 e.atHere.1)).setCell ⟨tb, 1, none⟩ (.int .i64 e.atHere.2)).alloc (.cells #[.iface e.ty e.pay] 59)) := ((hbel.setCell (p := ⟨tb, 0, none⟩) hB _).setCell (p := ⟨tb, 1, none⟩) hB _).alloc (by have := hbel.size; simp; omega) _
    have hlt2 : tb < (((wr.setCell ⟨tb, 0, none⟩ (.int .i64 e.atHere.1)).setCell ⟨tb, 1, none⟩ (.int .i64 e.atHere.2)).alloc (.cells #[.iface e.ty e.pay] 59)).heap.size := by simp; omega
    cases hA : e.isFault with
    | true =>
      have hh := Lib.hid (Er.off_here hA)
      clear hA
      go_wp2_with fail
      go_ret
      refine ⟨?_, ?_, hb2⟩
      · rw [← Hcod.out, hh.out]; rfl
      · rw [← Hcod.out, hh.out]; exact (two_after hc hd _ _ _).2
    | false =>
      have hz := Lib.hid (Er.atHere_no hA)
      cases hN : e.next with
      | none =>
        obtain ⟨hv, hco, hof⟩ := Er.next_none hN
        have hh := Lib.hid (hof)
        clear hco hof hN hA
        go_wp2_with fail
        refine (link_unwrap_none e hv _).mono ?_
        rintro ev w3 ⟨rfl, hb3⟩
        obtain ⟨hc3, hf3⟩ := bcell hb3
        have hb3' := hb2.trans (hb3.mono (Nat.le_trans hB (Nat.le_of_lt hlt2)))
        go_wp2_with fail
        go_ret
        refine ⟨?_, ?_, hb3'⟩
        · rw [← Hcod.out, hh.out]; rfl
        · rw [← Hcod.out, hh.out, hc3 _ _ hlt2, (two_after hc hd _ _ _).2, hz.out]; rfl
      | some e1 =>
        obtain ⟨hv, hd1, hco, hof⟩ := Er.next_of hN
        have hh := Lib.hid (hof hA)
        have hd' := Lib.hid hd1
        clear hco hof hN hd1 hA
        go_wp2_with fail
        refine (link_unwrap_some e e1.ty e1.pay hv _).mono ?_
        rintro ev w3 ⟨rfl, hb3⟩
        have Hv := Lib.hid hv
        clear hv
        obtain ⟨hc3, hf3⟩ := bcell hb3
        have hb3' := hb2.trans (hb3.mono (Nat.le_trans hB (Nat.le_of_lt hlt2)))
        have hne := nilEq
        go_wp2_with fail
        go_roundg e1.dep
        case measure => have h1 := hd'.out; have h2 := Hk.out; omega
        case rel =>
          refine ⟨e1, e.atHere.1, e.atHere.2, Nat.le_refl _, rfl, hh.out.trans Hcod.out, hb3', ?_, ?_, ?_, ?_⟩
          · rw [hc3 _ _ hlt2]; exact (two_after hc hd _ _ _).1
          · rw [hc3 _ _ hlt2]; exact (two_after hc hd _ _ _).2
          · rw [hf3 _ _ hlt2]; exact (free_after hltr hf _ _ _).2
          · rw [hf3 _ _ hlt2]; exact (free_after hltr hg _ _ _).2
end Go.Proofs.YtfmlllckfpagkaaDoor
