/-
  Arrays of bytes in memory, of whatever length: a block that reads as a function of the index; what makes it, keeps it, writes it; one whole array loaded, stored, returned. No condition; nothing of the program is named here.
-/
import Derived.Test.YtdfponbfgcfpdaaDoorMem
import Derived.Test.YtdfponbfgcfpdaaDoorNum
import Derived.Deep.MidRow
import Derived.Deep.WholeRow
import Derived.WalkSpells
import Derived.WalkMore
namespace Go.Proofs.YtdfponbfgcfpdaaDoor
open Go.RowKit
set_option linter.unusedVariables false

def n8 (x : Nat) : Value := .int .u8 (x : Int)
/-- n bytes as cells. -/
def arL (n : Nat) (f : Nat → Nat) : List Value := (List.range n).map fun j => n8 (f j)
theorem arL_len (n : Nat) (f : Nat → Nat) : (arL n f).length = n := by simp [arL]
theorem arL_get (n : Nat) (f : Nat → Nat) (j : Nat) (h : j < n) : (arL n f)[j]? = some (n8 (f j)) := by
  simp [arL, List.getElem?_map, List.getElem?_range h]
theorem arL_get_some {n : Nat} {f : Nat → Nat} {j : Nat} {v : Value} (h : (arL n f)[j]? = some v) : j < n ∧ v = n8 (f j) := by
  rcases Nat.lt_or_ge j n with h1 | h1
  · rw [arL_get n f j h1] at h; exact ⟨h1, (Option.some.inj h).symm⟩
  · rw [List.getElem?_eq_none (by rw [arL_len]; exact h1)] at h; cases h
theorem arL_ext {n : Nat} {f g : Nat → Nat} (h : ∀ j, j < n → f j = g j) : arL n f = arL n g := by
  unfold arL
  apply List.map_congr_left
  intro j hj
  rw [h j (List.mem_range.1 hj)]
theorem arL_one (n : Nat) (f : Nat → Nat) : ∀ v ∈ arL n f, v.oneCell' = true := by
  intro v hv
  obtain ⟨x, _, rfl⟩ := List.mem_map.1 hv
  rfl

/-- Block g holds n bytes, and may be written. -/
def Ar (w : World) (g n : Nat) (f : Nat → Nat) : Prop := ∀ j, j < n → w.cell? ⟨g, j, none⟩ = some (.int .u8 (f j : Nat)) ∧ w.frozen? ⟨g, j, none⟩ = false
section
variable {w w' : World} {g n : Nat} {f : Nat → Nat}
theorem Ar.lt (h : Ar w g n f) (hn : 0 < n) : g < w.heap.size := by
  have h1 := (h 0 hn).1
  rcases Nat.lt_or_ge g w.heap.size with h2 | h2
  · exact h2
  · simp [World.cell?, Array.getElem?_eq_none h2] at h1
theorem Ar.keep {B : Nat} (h : Ar w g n f) (hg : g < B) (hb : Below B w w') : Ar w' g n f := fun j hj =>
  ⟨(hb.cell (p := ⟨g, j, none⟩) hg).trans (h j hj).1, (hb.frozen (p := ⟨g, j, none⟩) hg).trans (h j hj).2⟩
theorem Ar.to (h : Ar w g n f) (hn : 0 < n) (hb : Below w.heap.size w w') : Ar w' g n f := h.keep (h.lt hn) hb
theorem Ar.drew (h : Ar w g n f) : Ar w.drew g n f := h
theorem Ar.drewN (h : Ar w g n f) (k : Nat) : Ar (w.drewN k) g n f := h
theorem Ar.alloc (h : Ar w g n f) (hn : 0 < n) (o : Obj) : Ar (w.alloc o) g n f := h.to hn ((Below.refl _ _).alloc (Nat.le_refl _) o)
theorem Ar.ext {f' : Nat → Nat} (h : Ar w g n f) (he : ∀ j, j < n → f j = f' j) : Ar w g n f' := fun j hj => by rw [← he j hj]; exact h j hj
theorem Ar.set (h : Ar w g n f) {j v : Nat} {x : Int} (hj : j < n) (hx : x = (v : Int)) : Ar (w.setCell ⟨g, j, none⟩ (.int .u8 x)) g n (fun i => if i = j then v else f i) := by
  subst hx
  intro i hi
  refine ⟨?_, by rw [World.frozen?_setCell]; exact (h i hi).2⟩
  by_cases e : i = j
  · subst e
    rw [World.cell?_setCell_same _ _ _ (h i hi).1]
    simp
  · rw [World.cell?_setCell_other _ _ _ _ (fun h => by injection h with _ h; exact e h.symm), (h i hi).1]
    simp [e]
theorem Ar.far (h : Ar w g n f) {p : Addr} (hp : p.block ≠ g) (v : Value) : Ar (w.setCell p v) g n f := by
  intro i hi
  refine ⟨?_, by rw [World.frozen?_setCell]; exact (h i hi).2⟩
  rw [World.cell?_setCell_other _ _ _ _ (fun e => hp (by rw [e])), (h i hi).1]
theorem Ar.range (h : Ar w g n f) : w.rangeAt g 0 (arL n f) := fun j v hv => by
  obtain ⟨h1, rfl⟩ := arL_get_some hv
  rw [Nat.zero_add]
  exact (h j h1).1
theorem Ar.there (h : Ar w g n f) : w.there g 0 n := fun j hj => by
  rw [Nat.zero_add, (h j hj).1]
  exact ⟨rfl, (h j hj).2⟩
/-- A whole array is stored into the block. -/
theorem Ar.whole (h : Ar w g n f) (f' : Nat → Nat) : Ar (w.setCells g 0 (arL n f')) g n f' := fun j hj => by
  have h1 := World.rangeAt_setCells_same w g 0 (arL n f') (by rw [arL_len]; exact h.there) j _ (arL_get n f' j hj)
  rw [Nat.zero_add] at h1
  exact ⟨h1, by rw [World.frozen?_setCells]; exact (h j hj).2⟩
end
theorem Ar.new (w : World) (n : Nat) (f : Nat → Nat) (t : TypeId) : Ar (w.alloc (.cells (arL n f).toArray t)) w.heap.size n f := fun j hj => by
  refine ⟨?_, World.frozen?_alloc_at _ _ _ _ rfl⟩
  rw [World.cell?_alloc_at _ _ _ _ rfl, List.getElem?_toArray]
  exact arL_get n f j hj
theorem arL_zero (n : Nat) : (arL n fun _ => 0).toArray = Array.replicate n (.int .u8 0) := by
  apply Array.ext_getElem?
  intro j
  rw [List.getElem?_toArray]
  rcases Nat.lt_or_ge j n with h | h
  · rw [arL_get _ _ _ h]; simp [h, n8]
  · rw [List.getElem?_eq_none (by rw [arL_len]; exact h), Array.getElem?_eq_none (by simpa using h)]
theorem Below.setCells {B b : Nat} {a w : World} (h : Below B a w) (hb : B ≤ b) (vs : List Value) : ∀ o, Below B a (w.setCells b o vs) := by
  intro o
  induction vs generalizing o w with
  | nil => exact h
  | cons v r ih => rw [World.setCells]; exact ih (h.setCell (p := ⟨b, o, none⟩) hb v) (o + 1)
theorem Ar.apart {w : World} {g n b : Nat} {f : Nat → Nat} (h : Ar w g n f) (hb : g ≠ b) (vs : List Value) : ∀ o, Ar (w.setCells b o vs) g n f := by
  intro o
  induction vs generalizing o w with
  | nil => exact h
  | cons v r ih => rw [World.setCells]; exact ih (h.far (p := ⟨b, o, none⟩) (fun e => hb e.symm) v) (o + 1)
theorem World.setCells_size (b : Nat) (vs : List Value) : ∀ (o : Nat) (w : World), (w.setCells b o vs).heap.size = w.heap.size := by
  induction vs with
  | nil => intro _ _; rfl
  | cons v r ih => intro o w; rw [World.setCells, ih]; simp [World.setCell]

section
variable {P : Program}
/-- A whole array is stored into a block of the call's own: the world behind it as a letter. -/
theorem wpList_store_ar {ops : Array Oper} {rest : List Oper} {op : Oper} {a : Act} {w : World} {Q : Exit → Act → World → Prop} (hgd : op.guard = none) (ty : TypeId) (x y : Operand) (ho : op.op = .store ty x y)
    (g n : Nat) (f f' : Nat → Nat) (hx : a.eval x = .pointer (some ⟨g, 0, none⟩)) (hy : a.eval y = .agg (arL n f').toArray)
    (hA : Ar w g n f) (hi : (P.info? ty).map (·.size) = some (arL n f').length)
    (h : ∀ w', Ar w' g n f' → Below g w w' → w'.heap.size = w.heap.size → (∀ g' n' f'', g' ≠ g → Ar w g' n' f'' → Ar w' g' n' f'') → wpList P ops Q rest (a.put op.dst undef) w') :
    wpList P ops Q (op :: rest) a w := by
  refine wpList_store_mid hgd ty x y ho g 0 _ hx hy ?_ ?_ (all_oneCell_toArray (arL_one n f')) ?_
  · rw [List.size_toArray, arL_len]; exact hA.there
  · rw [List.size_toArray]; exact hi
  · exact h _ (hA.whole f') (Below.setCells (Below.refl _ _) (Nat.le_refl _) _ _) (World.setCells_size _ _ _ _) (fun g' n' f'' hg' h' => h'.apart hg' _ _)
/-- A whole array is loaded. -/
theorem wpList_load_ar {ops : Array Oper} {rest : List Oper} {op : Oper} {a : Act} {w : World} {Q : Exit → Act → World → Prop} (hgd : op.guard = none) (ty : TypeId) (x : Operand) (ho : op.op = .load ty x)
    (g n : Nat) (f : Nat → Nat) {m : Nat} {e : TypeId} (hx : a.eval x = .pointer (some ⟨g, 0, none⟩)) (hA : Ar w g n f)
    (hu : P.underlying ty = some (.array m e)) (hi : (P.info? ty).map (·.size) = some (arL n f).length)
    (h : wpList P ops Q rest (a.put op.dst (.agg (arL n f).toArray)) w) : wpList P ops Q (op :: rest) a w :=
  wpList_load_mid hgd ty x ho g 0 hx (arL n f) _ hA.range hu rfl hi h
/-- The one result is an array in a block of the call's own. -/
theorem bodyPost_ret_ar {fn : Func} {R : Ending → World → Prop} {a : Act} {w : World} {p : Tmp} {ty e : TypeId} {g n m : Nat} {f : Nat → Nat} (hr : fn.results = #[.cell p ty]) (hp : a.tmps.getD p undef = .pointer (some ⟨g, 0, none⟩))
    (hA : Ar w g n f) (hu : P.underlying ty = some (.array m e)) (hi : (P.info? ty).map (·.size) = some (arL n f).length) (hd : a.defers = []) (hR : R (.returned (.agg (arL n f).toArray)) w) : bodyPost P fn R .ret a w := by
  refine bodyPost_ret (v := .agg (arL n f).toArray) ?_ hd hR
  have hp' : a.tmps[p]?.getD undef = .pointer (some ⟨g, 0, none⟩) := by simpa using hp
  simp only [results, hr]
  simp [hp', asAddr, run_loadVar_mid (P := P) w g 0 ty (arL n f) _ hA.range hu rfl hi]
end

/-! ### Two arrays compared -/
def allEq (f g : Nat → Nat) : Nat → Nat → Bool
  | _, 0 => true
  | i, m + 1 => decide (f i = g i) && allEq f g (i + 1) m
theorem allEq_iff (f g : Nat → Nat) : ∀ m i, allEq f g i m = true ↔ ∀ j, i ≤ j → j < i + m → f j = g j
  | 0, i => by simp [allEq]; intro j h1 h2; omega
  | m + 1, i => by
    rw [allEq, Bool.and_eq_true, decide_eq_true_iff, allEq_iff f g m (i + 1)]
    constructor
    · rintro ⟨h0, h⟩ j h1 h2
      rcases Nat.eq_or_lt_of_le h1 with rfl | h3
      · exact h0
      · exact h j h3 (by omega)
    · intro h
      exact ⟨h i (Nat.le_refl _) (by omega), fun j h1 h2 => h j (by omega) (by omega)⟩
section
variable {P : Program}
theorem run_part1 {e : TypeId} {d : TypeDesc} (he : P.underlying e = some d) (hd : d.isRow = false) (cs : Array Value) (i : Nat) (u : Value) (hg : cs[i]? = some u) (w : World) : (part e cs i).run P w = .ok u w := by
  have hagg : (isAgg e).run P w = .ok false w := by
    unfold isAgg
    rw [Sem.run_bind, run_underlying he w]
    cases d <;> simp_all
  simp [part, hagg, hg]
theorem run_equal_u8 {e : TypeId} (he : P.underlying e = some (.int .u8)) (d : Nat) (a b : Nat) (w : World) : (Op.equalIn (d + 1) e (.int .u8 a) (.int .u8 b)).run P w = .ok (decide (a = b)) w := by
  simp [Op.equalIn, run_underlying he]
  rw [Bool.eq_iff_iff]; simp [Int.ofNat_inj]
theorem run_equal_arr {t e : TypeId} {n : Nat} (hu : P.underlying t = some (.array n e)) (he : P.underlying e = some (.int .u8)) (hs : (P.info? e).map (·.size) = some 1) (f g : Nat → Nat) (w : World) :
    (Op.equal t (.agg (arL n f).toArray) (.agg (arL n g).toArray)).run P w = .ok (decide (∀ j, j < n → f j = g j)) w := by
  have hsz : (sizeOf e).run P w = .ok 1 w := by
    cases hq : P.info? e with
    | none => simp [hq] at hs
    | some q => simp [hq] at hs; simp [sizeOf, typeInfo, hq, hs]
  obtain ⟨d, hk, k, hd⟩ : ∃ d, Op.maxDepth = d + 1 ∧ ∃ k, d = k + 1 := ⟨9999, rfl, 9998, rfl⟩
  have hp : ∀ (f : Nat → Nat) (i : Nat), i < n → (part e (arL n f).toArray i).run P w = .ok (n8 (f i)) w := fun f i hi =>
    run_part1 he rfl _ i _ (by rw [List.getElem?_toArray, arL_get n f i hi]) w
  have heq : ∀ a b : Nat, (Op.equalIn d e (n8 a) (n8 b)).run P w = .ok (decide (a = b)) w := fun a b => by rw [hd]; exact run_equal_u8 he k a b w
  rw [Op.equal, hk, Op.equalIn]
  simp only [Sem.run_bind, run_underlying hu, Result.andThen_ok, hsz, Std.Legacy.Range.forIn_eq_forIn_range', Std.Legacy.Range.size, Nat.sub_zero, Nat.add_sub_cancel, Nat.div_one, Nat.mul_one]
  have H : ∀ (m i : Nat), i + m ≤ n → (Sem.run P (forIn (List.range' i m) ((none : Option Bool), ()) fun i __s => do
            let __do_lift ← part e (arL n f).toArray i
            let __do_lift_1 ← part e (arL n g).toArray i
            let __do_lift ← Op.equalIn d e __do_lift __do_lift_1
            if (!__do_lift) = true then pure (ForInStep.done (some false, ())) else pure (ForInStep.yield (none, ()))) w) =
      .ok (if allEq f g i m = true then (none, ()) else (some false, ())) w := by
    intro m
    induction m with
    | zero => intro i _; simp [List.range'_zero, allEq]
    | succ m ih =>
      intro i hi
      have hi' : i < n := by omega
      rw [List.range'_succ, List.forIn_cons]
      simp only [Sem.run_bind, hp f i hi', hp g i hi', heq, Result.andThen_ok]
      by_cases hfg : f i = g i
      · simp only [hfg, decide_true, Bool.not_true, Bool.false_eq_true, if_false, Sem.run_pure, Result.andThen_ok]
        rw [ih (i + 1) (by omega), allEq]
        simp [hfg]
      · simp [hfg, allEq]
  rw [H n 0 (by omega)]
  simp only [Result.andThen_ok]
  have hiff := allEq_iff f g n 0
  by_cases hc : allEq f g 0 n = true
  · have h2 : ∀ j, j < n → f j = g j := fun j hj => hiff.1 hc j (Nat.zero_le _) (by omega)
    rw [if_pos hc, decide_eq_true h2]
    simp
  · have h2 : ¬ ∀ j, j < n → f j = g j := fun h => hc (hiff.2 fun j _ hj => h j (by omega))
    rw [if_neg hc, decide_eq_false h2]
    simp
end
end Go.Proofs.YtdfponbfgcfpdaaDoor
