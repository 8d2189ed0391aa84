/-
  Rows within arrays of bytes in memory: a part of a block loaded and stored as one array. No condition; nothing of the program is named here.
-/
import Derived.Test.YtdfponbfgcfpdaaDoorAra
import Derived.Laws.IdiomCopy
namespace Go.Proofs.YtdfponbfgcfpdaaDoor
open Go.RowKit
set_option linter.unusedVariables false

section
variable {w w' : World} {g n : Nat} {f : Nat → Nat}
theorem Ar.rangeO (h : Ar w g n f) (o m : Nat) (ho : o + m ≤ n) : w.rangeAt g o (arL m fun j => f (o + j)) := fun j v hv => by
  obtain ⟨h1, rfl⟩ := arL_get_some hv
  exact (h (o + j) (by omega)).1
theorem Ar.thereO (h : Ar w g n f) (o m : Nat) (ho : o + m ≤ n) : w.there g o m := fun j hj => by
  rw [(h (o + j) (by omega)).1]
  exact ⟨rfl, (h (o + j) (by omega)).2⟩
/-- m bytes at o are f', all others as they were. -/
def putO (f f' : Nat → Nat) (o m : Nat) : Nat → Nat := fun i => if o ≤ i ∧ i < o + m then f' (i - o) else f i
theorem Ar.wholeO (h : Ar w g n f) (f' : Nat → Nat) (o m : Nat) (ho : o + m ≤ n) : Ar (w.setCells g o (arL m f')) g n (putO f f' o m) := fun j hj => by
  refine ⟨?_, by rw [World.frozen?_setCells]; exact (h j hj).2⟩
  unfold putO
  by_cases hc : o ≤ j ∧ j < o + m
  · rw [if_pos hc]
    have h1 := World.rangeAt_setCells_same w g o (arL m f') (by rw [arL_len]; exact h.thereO o m ho) (j - o) _ (arL_get m f' (j - o) (by omega))
    rwa [show o + (j - o) = j by omega] at h1
  · rw [if_neg hc, World.cell?_setCells_out g (arL m f') o w ⟨g, j, none⟩ (fun _ _ => by rw [arL_len]; simp; omega)]
    exact (h j hj).1
end
/-- The first n places are F, the others 0: one more. -/
theorem low_step (F : Nat → Nat) (n m : Nat) : (if m = n then F n else (if m < n then F m else 0)) = if m < n + 1 then F m else 0 := by
  by_cases h : m = n
  · rw [if_pos h, if_pos (by omega), h]
  · rw [if_neg h]
    by_cases h2 : m < n
    · rw [if_pos h2, if_pos (by omega)]
    · rw [if_neg h2, if_neg (by omega)]
section
variable {P : Program}
/-- Two results, the first one an array in a block of the call's own. -/
theorem bodyPost_ret_ar2 {fn : Func} {R : Ending → World → Prop} {a : Act} {w : World} {p q : Tmp} {ty e : TypeId} {g n m : Nat} {f : Nat → Nat} {v : Value} (hr : fn.results = #[.cell p ty, .tmp q]) (hp : a.tmps.getD p undef = .pointer (some ⟨g, 0, none⟩))
    (hq : a.tmps.getD q undef = v)
    (hA : Ar w g n f) (hu : P.underlying ty = some (.array m e)) (hi : (P.info? ty).map (·.size) = some (arL n f).length) (hd : a.defers = []) (hR : R (.returned (.tuple #[.agg (arL n f).toArray, v])) w) : bodyPost P fn R .ret a w := by
  refine bodyPost_ret (v := .tuple #[.agg (arL n f).toArray, v]) ?_ hd hR
  have hp' : a.tmps[p]?.getD undef = .pointer (some ⟨g, 0, none⟩) := by simpa using hp
  have hq' : a.tmps[q]?.getD undef = v := by simpa using hq
  simp only [results, hr]
  simp [hp', hq', asAddr, run_loadVar_mid (P := P) w g 0 ty (arL n f) _ hA.range hu rfl hi]
theorem arL_extract (N o m : Nat) (f : Nat → Nat) (h : o + m ≤ N) : (arL N f).toArray.extract o (o + m) = (arL m fun j => f (o + j)).toArray := by
  have hl : (arL N f).toArray.size = N := by rw [List.size_toArray, arL_len]
  apply Array.ext_getElem?
  intro j
  rcases Nat.lt_or_ge j m with h1 | h1
  · have e1 : (arL m fun j => f (o + j)).toArray[j]? = some (n8 (f (o + j))) := by rw [List.getElem?_toArray]; exact arL_get m _ j h1
    have e2 : (arL N f).toArray[o + j]? = some (n8 (f (o + j))) := by rw [List.getElem?_toArray]; exact arL_get N f (o + j) (by omega)
    rw [e1, Array.getElem?_extract, if_pos (by rw [hl]; omega), e2]
  · rw [Array.getElem?_eq_none (by rw [Array.size_extract, hl]; omega), Array.getElem?_eq_none (by rw [List.size_toArray, arL_len]; omega)]
/-- A row out of an array of rows, by its index. -/
theorem run_index_row {t e e' : TypeId} {n k m : Nat} (hu : P.underlying t = some (.array n e)) (he : P.underlying e = some (.array k e')) (hs : (P.info? e).map (·.size) = some m)
    (f : Nat → Nat) (N i : Nat) (hi : i < n) (hN : i * m + m ≤ N) (w : World) : (Instr.index t (.agg (arL N f).toArray) (.int .i64 i)).run P w = .ok (.agg (arL m fun j => f (i * m + j)).toArray) w := by
  cases hq : P.info? e with
  | none => simp [hq] at hs
  | some q =>
    have hq1 : q.size = m := by simpa [hq] using hs
    have hagg : (isAgg e).run P w = .ok true w := by
      unfold isAgg
      rw [Sem.run_bind, run_underlying he w]
      rfl
    have hx := arL_extract N (i * m) m f hN
    simp at hx
    simp [Instr.index, run_underlying hu, asIntOf, sizeOf, typeInfo, hq, hq1, part, hagg, hi, hx]
/-- An array or a struct is built: what it is, by a fact of its own. -/
theorem wpList_build_by {ops : Array Oper} {rest : List Oper} {op : Oper} {a : Act} {w : World} {Q : Exit → Act → World → Prop} (hgd : op.guard = none) (ty : TypeId) (parts : Array (Nat × Operand)) (ho : op.op = .build ty parts)
    (ps : List (Nat × Value)) (hps : parts.toList.map (fun p => (p.1, a.eval p.2)) = ps) (cells : Array Value) (hb : (Instr.build ty ps.toArray).run P w = .ok (.agg cells) w)
    (h : wpList P ops Q rest (a.put op.dst (.agg cells)) w) : wpList P ops Q (op :: rest) a w :=
  wpList_plain hgd fun _ hK => by
    have e : (parts.map fun (i, x) => (i, a.eval x)) = ps.toArray := by rw [← hps]; apply Array.toList_inj.1; simp
    unfold Oper.wp execOp
    simp only [ho, e, Sem.run_bind, hb, Result.andThen_ok]
    exact hK _ _ h
theorem wpList_load_arO {ops : Array Oper} {rest : List Oper} {op : Oper} {a : Act} {w : World} {Q : Exit → Act → World → Prop} (hgd : op.guard = none) (ty : TypeId) (x : Operand) (ho : op.op = .load ty x)
    (g n o m : Nat) (f : Nat → Nat) {k : Nat} {e : TypeId} (hx : a.eval x = .pointer (some ⟨g, o, none⟩)) (hA : Ar w g n f) (hom : o + m ≤ n)
    (hu : P.underlying ty = some (.array k e)) (hi : (P.info? ty).map (·.size) = some (arL m fun j => f (o + j)).length)
    (h : wpList P ops Q rest (a.put op.dst (.agg (arL m fun j => f (o + j)).toArray)) w) : wpList P ops Q (op :: rest) a w :=
  wpList_load_mid hgd ty x ho g o hx (arL m fun j => f (o + j)) _ (hA.rangeO o m hom) hu rfl hi h
theorem wpList_store_arO {ops : Array Oper} {rest : List Oper} {op : Oper} {a : Act} {w : World} {Q : Exit → Act → World → Prop} (hgd : op.guard = none) (ty : TypeId) (x y : Operand) (ho : op.op = .store ty x y)
    (g n o m : Nat) (f f' : Nat → Nat) (hx : a.eval x = .pointer (some ⟨g, o, none⟩)) (hy : a.eval y = .agg (arL m f').toArray)
    (hA : Ar w g n f) (hom : o + m ≤ n) (hi : (P.info? ty).map (·.size) = some (arL m f').length)
    (h : ∀ w', Ar w' g n (putO f f' o m) → Below g w w' → w'.heap.size = w.heap.size → (∀ g' n' f'', g' ≠ g → Ar w g' n' f'' → Ar w' g' n' f'') → wpList P ops Q rest (a.put op.dst undef) w') :
    wpList P ops Q (op :: rest) a w := by
  refine wpList_store_mid hgd ty x y ho g o _ hx hy ?_ ?_ (all_oneCell_toArray (arL_one m f')) ?_
  · rw [List.size_toArray, arL_len]; exact hA.thereO o m hom
  · rw [List.size_toArray]; exact hi
  · exact h _ (hA.wholeO f' o m hom) (Below.setCells (Below.refl _ _) (Nat.le_refl _) _ _) (World.setCells_size _ _ _ _) (fun g' n' f'' hg' h' => h'.apart hg' _ _)
end
end Go.Proofs.YtdfponbfgcfpdaaDoor
