/-
  Arrays of bytes loaded, arrays built, in a region that draws its order and only reads. No condition; nothing of the program is named here.
-/
import Derived.Test.YtdfponbfgcfpdaaDoorAro
import Derived.BigQuiet
import Derived.Deep.QuietTactic
namespace Go.Proofs.YtdfponbfgcfpdaaDoor
open Go.RowKit
set_option linter.unusedVariables false

section
variable {P : Program}
theorem wpQuiet_load_ar {ops : Array Oper} {rest : List Oper} {op : Oper} {a : Act} {w : World} {Q : Act → Prop} (ty : TypeId) (x : Operand) (ho : op.op = .load ty x)
    (g n o m : Nat) (f : Nat → Nat) {k : Nat} {e : TypeId} (hx : a.eval x = .pointer (some ⟨g, o, none⟩)) (hw : Region.wanted op (yielded ops a.tmps) = true) (hA : Ar w g n f) (hom : o + m ≤ n)
    (hu : P.underlying ty = some (.array k e)) (hi : (P.info? ty).map (·.size) = some (arL m fun j => f (o + j)).length)
    (h : wpQuiet P ops (fun w' => ∃ j, w' = w.drewN j) Q rest (a.put op.dst (.agg (arL m fun j => f (o + j)).toArray))) : wpQuiet P ops (fun w' => ∃ j, w' = w.drewN j) Q (op :: rest) a :=
  BigFrame.wpQuiet_want hw fun _ hK => ⟨.agg (arL m fun j => f (o + j)).toArray, fun V hV => by
    obtain ⟨j, rfl⟩ := hV
    have hr := (hA.drewN j).rangeO o m hom
    unfold Oper.quietAt execOp
    simp only [ho, hx, Instr.loadAt, Instr.sureAddr, Sem.run_bind, Sem.run_pure, Result.andThen_ok, run_loadVar_mid (w.drewN j) g o ty (arL m fun j => f (o + j)) _ hr hu rfl hi]
    exact ⟨rfl, rfl⟩, hK _ h⟩
theorem wpQuiet_load_ar0 {ops : Array Oper} {rest : List Oper} {op : Oper} {a : Act} {w : World} {Q : Act → Prop} (ty : TypeId) (x : Operand) (ho : op.op = .load ty x)
    (g n : Nat) (f : Nat → Nat) {k : Nat} {e : TypeId} (hx : a.eval x = .pointer (some ⟨g, 0, none⟩)) (hw : Region.wanted op (yielded ops a.tmps) = true) (hA : Ar w g n f)
    (hu : P.underlying ty = some (.array k e)) (hi : (P.info? ty).map (·.size) = some (arL n f).length)
    (h : wpQuiet P ops (fun w' => ∃ j, w' = w.drewN j) Q rest (a.put op.dst (.agg (arL n f).toArray))) : wpQuiet P ops (fun w' => ∃ j, w' = w.drewN j) Q (op :: rest) a := by
  have e0 : (arL n fun j => f (0 + j)) = arL n f := arL_ext fun j _ => by rw [Nat.zero_add]
  refine wpQuiet_load_ar ty x ho g n 0 n f hx hw hA (by omega) hu (by rw [e0]; exact hi) ?_
  rw [e0]; exact h
theorem wpQuiet_build_by {ops : Array Oper} {rest : List Oper} {op : Oper} {a : Act} {w : World} {Q : Act → Prop} (ty : TypeId) (parts : Array (Nat × Operand)) (ho : op.op = .build ty parts)
    (ps : List (Nat × Value)) (hps : parts.toList.map (fun p => (p.1, a.eval p.2)) = ps) (hw : Region.wanted op (yielded ops a.tmps) = true) (cells : Array Value) (hb : ∀ V, (Instr.build ty ps.toArray).run P V = .ok (.agg cells) V)
    (h : wpQuiet P ops (fun w' => ∃ j, w' = w.drewN j) Q rest (a.put op.dst (.agg cells))) : wpQuiet P ops (fun w' => ∃ j, w' = w.drewN j) Q (op :: rest) a :=
  BigFrame.wpQuiet_want hw fun _ hK => ⟨.agg cells, fun V hV => by
    have e : (parts.map fun (i, x) => (i, a.eval x)) = ps.toArray := by rw [← hps]; apply Array.toList_inj.1; simp
    unfold Oper.quietAt execOp
    simp only [ho, e, Sem.run_bind, hb, Result.andThen_ok]
    exact ⟨rfl, rfl⟩, hK _ h⟩
end
end Go.Proofs.YtdfponbfgcfpdaaDoor
