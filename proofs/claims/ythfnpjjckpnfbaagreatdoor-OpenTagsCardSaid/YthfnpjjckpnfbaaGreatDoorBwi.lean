/-
 Whole arrays loaded, stored and written out as a slice inside a fence (the body of a loop over an iterator). No condition; nothing of the program is named here.
-/
import Derived.Test.YthfnpjjckpnfbaaGreatDoorFre
import Derived.OwnWalkIn
import Derived.TacticsInMore
namespace Go.Proofs.YthfnpjjckpnfbaaGreatDoor
open Go.RowKit
set_option linter.unusedVariables false
section
variable {F : Fence} {N : Nat} {P : Program}
/-- A whole array, or a part of one, is loaded. -/
theorem wpListIn_load_mid {ops : Array Oper} {rest : List Oper} {op : Oper} {a : Act} {w : World} {Q : Exit → Act → World → Prop} (hgd : op.guard = none) (ty : TypeId) (x : Operand) (ho : op.op = .load ty x)
  (b o : Nat) (hx : a.eval x = .pointer (some ⟨b, o, none⟩)) (cs : List Value) (d : TypeDesc) (hc : w.rangeAt b o cs)
  (hu : P.underlying ty = some d) (hd : d.isRow = true) (hi : (P.info? ty).map (·.size) = some cs.length)
  (h : wpListIn F N P ops Q rest (a.put op.dst (.agg cs.toArray)) w) : wpListIn F N P ops Q (op :: rest) a w := by
 refine wpListIn_plain hgd fun K hK => ?_
 unfold Oper.wpIn
 refine ⟨?_, ?_⟩
 ·simp [Oper.about, ho]
 ·rw [Oper.semAt_plain F _ _ (by rw [ho]; intro c hc; cases hc)]
  unfold execOp
  simp only [ho, hx, Instr.loadAt, Instr.sureAddr, Sem.run_bind, Sem.run_pure, Result.andThen_ok, run_loadVar_mid w b o ty cs d hc hu hd hi]
  exact hK _ _ h
theorem wpListIn_load_ar {ops : Array Oper} {rest : List Oper} {op : Oper} {a : Act} {w : World} {Q : Exit → Act → World → Prop} (hgd : op.guard = none) (ty : TypeId) (x : Operand) (ho : op.op = .load ty x)
  (g n : Nat) (f : Nat → Nat) {m : Nat} {e : TypeId} (hx : a.eval x = .pointer (some ⟨g, 0, none⟩)) (hA : Ar w g n f)
  (hu : P.underlying ty = some (.array m e)) (hi : (P.info? ty).map (·.size) = some (arL n f).length)
  (h : wpListIn F N P ops Q rest (a.put op.dst (.agg (arL n f).toArray)) w) : wpListIn F N P ops Q (op :: rest) a w :=
 wpListIn_load_mid hgd ty x ho g 0 hx (arL n f) _ hA.range hu rfl hi h
/-- A whole array is stored into a block of the call's own: the world behind it as a letter. -/
theorem wpListIn_store_ar {ops : Array Oper} {rest : List Oper} {op : Oper} {a : Act} {w : World} {Q : Exit → Act → World → Prop} (hgd : op.guard = none) (ty : TypeId) (x y : Operand) (ho : op.op = .store ty x y)
  (g n : Nat) (f f' : Nat → Nat) (hx : a.eval x = .pointer (some ⟨g, 0, none⟩)) (hy : a.eval y = .agg (arL n f').toArray)
  (hA : Ar w g n f) (hi : (P.info? ty).map (·.size) = some (arL n f').length)
  (h : ∀ w', Ar w' g n f' → Below g w w' → w'.heap.size = w.heap.size → (w' = w.setCells g 0 (arL n f')) → wpListIn F N P ops Q rest (a.put op.dst undef) w') :
  wpListIn F N P ops Q (op :: rest) a w := by
 refine wpListIn_plain hgd fun K hK => ?_
 unfold Oper.wpIn
 refine ⟨?_, ?_⟩
 ·simp [Oper.about, ho]
 ·rw [Oper.semAt_plain F _ _ (by rw [ho]; intro c hc; cases hc)]
  have hr := run_storeVar_mid (P := P) w g 0 ty (arL n f').toArray (by rw [List.size_toArray, arL_len]; exact hA.there) (by rw [List.size_toArray]; exact hi) (all_oneCell_toArray (arL_one n f'))
  unfold execOp
  simp only [ho, hx, hy, Instr.storeAt, Instr.sureAddr, Sem.run_bind, Sem.run_pure, Result.andThen_ok, hr]
  exact hK _ _ (h _ (hA.whole f') (Below.setCells (Below.refl _ _) (Nat.le_refl _) _ _) (World.setCells_size _ _ _ _) rfl)
end
end Go.Proofs.YthfnpjjckpnfbaaGreatDoor
