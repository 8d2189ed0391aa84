/-
  Arrays of bytes loaded, arrays built, by an operation whose guard says yes. No condition; nothing of the program is named here.
-/
import Derived.Test.YtfpniipbdkdhlaaFre
import Derived.BigFrame
namespace Go.Proofs.Ytfpniipbdkdhlaa
open Go.RowKit
set_option linter.unusedVariables false

section
variable {P : Program}
theorem wpList_load_arW {ops : Array Oper} {rest : List Oper} {op : Oper} {a : Act} {w : World} {Q : Exit → Act → World → Prop} (hw : Region.wanted op (yielded ops a.tmps) = true) (ty : TypeId) (x : Operand) (ho : op.op = .load ty x)
    (g n o m : Nat) (f : Nat → Nat) {k : Nat} {e : TypeId} (hx : a.eval x = .pointer (some ⟨g, o, none⟩)) (hA : Ar w g n f) (hom : o + m ≤ n)
    (hu : P.underlying ty = some (.array k e)) (hi : (P.info? ty).map (·.size) = some (arL m fun j => f (o + j)).length)
    (h : wpList P ops Q rest (a.put op.dst (.agg (arL m fun j => f (o + j)).toArray)) w) : wpList P ops Q (op :: rest) a w :=
  BigFrame.wpList_want hw fun _ hK => wp_load_mid ty x ho g o hx (arL m fun j => f (o + j)) _ (hA.rangeO o m hom) hu rfl hi (hK _ _ h)
theorem wpList_load_ar0W {ops : Array Oper} {rest : List Oper} {op : Oper} {a : Act} {w : World} {Q : Exit → Act → World → Prop} (hw : Region.wanted op (yielded ops a.tmps) = true) (ty : TypeId) (x : Operand) (ho : op.op = .load ty x)
    (g n : Nat) (f : Nat → Nat) {k : Nat} {e : TypeId} (hx : a.eval x = .pointer (some ⟨g, 0, none⟩)) (hA : Ar w g n f)
    (hu : P.underlying ty = some (.array k e)) (hi : (P.info? ty).map (·.size) = some (arL n f).length)
    (h : wpList P ops Q rest (a.put op.dst (.agg (arL n f).toArray)) w) : wpList P ops Q (op :: rest) a w :=
  BigFrame.wpList_want hw fun _ hK => wp_load_mid ty x ho g 0 hx (arL n f) _ hA.range hu rfl hi (hK _ _ h)
theorem wpList_build_byW {ops : Array Oper} {rest : List Oper} {op : Oper} {a : Act} {w : World} {Q : Exit → Act → World → Prop} (hw : Region.wanted op (yielded ops a.tmps) = true) (ty : TypeId) (parts : Array (Nat × Operand)) (ho : op.op = .build ty parts)
    (ps : List (Nat × Value)) (hps : parts.toList.map (fun p => (p.1, a.eval p.2)) = ps) (cells : Array Value) (hb : (Instr.build ty ps.toArray).run P w = .ok (.agg cells) w)
    (h : wpList P ops Q rest (a.put op.dst (.agg cells)) w) : wpList P ops Q (op :: rest) a w :=
  BigFrame.wpList_want hw fun _ hK => by
    have e : (parts.map fun (i, x) => (i, a.eval x)) = ps.toArray := by rw [← hps]; apply Array.toList_inj.1; simp
    unfold Oper.wp execOp
    simp only [ho, e, Sem.run_bind, hb, Result.andThen_ok]
    exact hK _ _ h
end
end Go.Proofs.Ytfpniipbdkdhlaa
