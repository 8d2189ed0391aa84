/-
  Two arrays compared, whatever their elements; arrays of bytes at any depth, arrays of rows of bytes. No condition; nothing of the program is named here.
-/
import Derived.Test.YtdfponbfgcfpdaaDoorAro
namespace Go.Proofs.YtdfponbfgcfpdaaDoor
open Go.RowKit
set_option linter.unusedVariables false

section
variable {P : Program}
def allB (c : Nat → Bool) : Nat → Nat → Bool
  | _, 0 => true
  | i, m + 1 => c i && allB c (i + 1) m
theorem allB_iff (c : Nat → Bool) : ∀ m i, allB c i m = true ↔ ∀ j, i ≤ j → j < i + m → c j = true
  | 0, i => by simp [allB]; intro j h1 h2; omega
  | m + 1, i => by
    rw [allB, Bool.and_eq_true, allB_iff c m (i + 1)]
    constructor
    · rintro ⟨h0, h⟩ j h1 h2
      rcases Nat.eq_or_lt_of_le h1 with rfl | h3
      · exact h0
      · exact h j h3 (by omega)
    · intro h
      exact ⟨h i (Nat.le_refl _) (by omega), fun j h1 h2 => h j (by omega) (by omega)⟩
theorem run_equalIn_array {t e : TypeId} {n m : Nat} (hm : 0 < m) (hu : P.underlying t = some (.array n e)) (hs : (P.info? e).map (·.size) = some m) (d : Nat) (A B : Array Value) (a b : Nat → Value) (c : Nat → Bool) (w : World)
    (ha : ∀ i, i < n → (part e A (i * m)).run P w = .ok (a i) w) (hb : ∀ i, i < n → (part e B (i * m)).run P w = .ok (b i) w) (hc : ∀ i, i < n → (Op.equalIn d e (a i) (b i)).run P w = .ok (c i) w) :
    (Op.equalIn (d + 1) t (.agg A) (.agg B)).run P w = .ok (allB c 0 n) w := by
  have hsz : (sizeOf e).run P w = .ok m w := by
    cases hq : P.info? e with
    | none => simp [hq] at hs
    | some q => simp [hq] at hs; simp [sizeOf, typeInfo, hq, hs]
  rw [Op.equalIn]
  simp only [Sem.run_bind, run_underlying hu, Result.andThen_ok, hsz, Std.Legacy.Range.forIn_eq_forIn_range', Std.Legacy.Range.size, Nat.sub_zero, Nat.add_sub_cancel, Nat.div_one]
  have H : ∀ (m' i : Nat), i + m' ≤ n → (Sem.run P (forIn (List.range' i m') ((none : Option Bool), ()) fun i __s => do
            let __do_lift ← part e A (i * m)
            let __do_lift_1 ← part e B (i * m)
            let __do_lift ← Op.equalIn d e __do_lift __do_lift_1
            if (!__do_lift) = true then pure (ForInStep.done (some false, ())) else pure (ForInStep.yield (none, ()))) w) =
      .ok (if allB c i m' = true then (none, ()) else (some false, ())) w := by
    intro m'
    induction m' with
    | zero => intro i _; simp [List.range'_zero, allB]
    | succ m' ih =>
      intro i hi
      have hi' : i < n := by omega
      rw [List.range'_succ, List.forIn_cons]
      simp only [Sem.run_bind, ha i hi', hb i hi', hc i hi', Result.andThen_ok]
      cases hci : c i with
      | true =>
        simp only [Bool.not_true, Bool.false_eq_true, if_false, Sem.run_pure, Result.andThen_ok]
        rw [ih (i + 1) (by omega), allB]
        simp [hci]
      | false => simp [hci, allB]
  rw [H n 0 (by omega)]
  simp only [Result.andThen_ok]
  cases allB c 0 n <;> simp
/-- Two arrays of bytes. -/
theorem run_equalIn_arr {t e : TypeId} {n : Nat} (hu : P.underlying t = some (.array n e)) (he : P.underlying e = some (.int .u8)) (hs : (P.info? e).map (·.size) = some 1) (d : Nat) (f g : Nat → Nat) (w : World) :
    (Op.equalIn (d + 2) t (.agg (arL n f).toArray) (.agg (arL n g).toArray)).run P w = .ok (decide (∀ j, j < n → f j = g j)) w := by
  rw [run_equalIn_array (by omega) hu hs (d + 1) _ _ (fun i => n8 (f i)) (fun i => n8 (g i)) (fun i => decide (f i = g i)) w
    (fun i hi => by rw [Nat.mul_one]; exact run_part1 he rfl _ i _ (by rw [List.getElem?_toArray, arL_get n f i hi]) w)
    (fun i hi => by rw [Nat.mul_one]; exact run_part1 he rfl _ i _ (by rw [List.getElem?_toArray, arL_get n g i hi]) w)
    (fun i hi => run_equal_u8 he d (f i) (g i) w)]
  congr 1
  rw [Bool.eq_iff_iff, allB_iff, decide_eq_true_iff]
  exact ⟨fun h j hj => by simpa using h j (Nat.zero_le _) (by omega), fun h j _ hj => by simpa using h j (by omega)⟩
theorem run_part_row {e e' : TypeId} {k m : Nat} (he : P.underlying e = some (.array k e')) (hs : (P.info? e).map (·.size) = some m) (f : Nat → Nat) (N i : Nat) (hN : i * m + m ≤ N) (w : World) :
    (part e (arL N f).toArray (i * m)).run P w = .ok (.agg (arL m fun j => f (i * m + j)).toArray) w := by
  cases hq : P.info? e with
  | none => simp [hq] at hs
  | some q =>
    have hq1 : q.size = m := by simpa [hq] using hs
    have hagg : (isAgg e).run P w = .ok true w := by
      unfold isAgg
      rw [Sem.run_bind, run_underlying he w]
      rfl
    have hx := arL_extract N (i * m) m f hN
    simp at hx
    simp [sizeOf, typeInfo, hq, hq1, part, hagg, hx]
/-- An array of rows of bytes is itself. -/
theorem run_equalIn_rows {t e e' : TypeId} {n m : Nat} (hm : 0 < m) (hu : P.underlying t = some (.array n e)) (he : P.underlying e = some (.array m e')) (he' : P.underlying e' = some (.int .u8)) (hs : (P.info? e).map (·.size) = some m) (hs' : (P.info? e').map (·.size) = some 1)
    (d N : Nat) (hN : n * m ≤ N) (f : Nat → Nat) (w : World) : (Op.equalIn (d + 3) t (.agg (arL N f).toArray) (.agg (arL N f).toArray)).run P w = .ok true w := by
  have hb : ∀ i, i < n → i * m + m ≤ N := fun i hi => by
    have : (i + 1) * m ≤ n * m := Nat.mul_le_mul_right m (by omega)
    rw [Nat.succ_mul] at this; omega
  rw [run_equalIn_array hm hu hs (d + 2) _ _ (fun i => .agg (arL m fun j => f (i * m + j)).toArray) (fun i => .agg (arL m fun j => f (i * m + j)).toArray) (fun _ => true) w
    (fun i hi => run_part_row he hs f N i (hb i hi) w) (fun i hi => run_part_row he hs f N i (hb i hi) w)
    (fun i hi => by rw [run_equalIn_arr he he' hs' d, decide_eq_true (fun _ _ => rfl)])]
  congr 1
  rw [allB_iff]; intros; rfl
end
end Go.Proofs.YtdfponbfgcfpdaaDoor
