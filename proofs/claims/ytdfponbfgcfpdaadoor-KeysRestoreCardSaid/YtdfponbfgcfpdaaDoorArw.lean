/-
  Arrays of words in memory, of whatever length: a block that reads as a function of the index; what makes it, keeps it, writes it; one whole array loaded, stored, returned. No condition; nothing of the program is named here.
-/
import Derived.Test.YtdfponbfgcfpdaaDoorAra
import Derived.Deep.MidRow
import Derived.Deep.WholeRow
import Derived.WalkSpells
import Derived.WalkMore
namespace Go.Proofs.YtdfponbfgcfpdaaDoor
open Go.RowKit
set_option linter.unusedVariables false

def w32 (x : Nat) : Value := .int .u32 (x : Int)
/-- n words as cells. -/
def awL (n : Nat) (f : Nat → Nat) : List Value := (List.range n).map fun j => w32 (f j)
theorem awL_len (n : Nat) (f : Nat → Nat) : (awL n f).length = n := by simp [awL]
theorem awL_get (n : Nat) (f : Nat → Nat) (j : Nat) (h : j < n) : (awL n f)[j]? = some (w32 (f j)) := by
  simp [awL, List.getElem?_map, List.getElem?_range h]
theorem awL_get_some {n : Nat} {f : Nat → Nat} {j : Nat} {v : Value} (h : (awL n f)[j]? = some v) : j < n ∧ v = w32 (f j) := by
  rcases Nat.lt_or_ge j n with h1 | h1
  · rw [awL_get n f j h1] at h; exact ⟨h1, (Option.some.inj h).symm⟩
  · rw [List.getElem?_eq_none (by rw [awL_len]; exact h1)] at h; cases h
theorem awL_ext {n : Nat} {f g : Nat → Nat} (h : ∀ j, j < n → f j = g j) : awL n f = awL n g := by
  unfold awL
  apply List.map_congr_left
  intro j hj
  rw [h j (List.mem_range.1 hj)]
theorem awL_one (n : Nat) (f : Nat → Nat) : ∀ v ∈ awL n f, v.oneCell' = true := by
  intro v hv
  obtain ⟨x, _, rfl⟩ := List.mem_map.1 hv
  rfl

/-- Block g holds n words, and may be written. -/
def Aw (w : World) (g n : Nat) (f : Nat → Nat) : Prop := ∀ j, j < n → w.cell? ⟨g, j, none⟩ = some (.int .u32 (f j : Nat)) ∧ w.frozen? ⟨g, j, none⟩ = false
section
variable {w w' : World} {g n : Nat} {f : Nat → Nat}
theorem Aw.lt (h : Aw w g n f) (hn : 0 < n) : g < w.heap.size := by
  have h1 := (h 0 hn).1
  rcases Nat.lt_or_ge g w.heap.size with h2 | h2
  · exact h2
  · simp [World.cell?, Array.getElem?_eq_none h2] at h1
theorem Aw.keep {B : Nat} (h : Aw w g n f) (hg : g < B) (hb : Below B w w') : Aw w' g n f := fun j hj =>
  ⟨(hb.cell (p := ⟨g, j, none⟩) hg).trans (h j hj).1, (hb.frozen (p := ⟨g, j, none⟩) hg).trans (h j hj).2⟩
theorem Aw.to (h : Aw w g n f) (hn : 0 < n) (hb : Below w.heap.size w w') : Aw w' g n f := h.keep (h.lt hn) hb
theorem Aw.drew (h : Aw w g n f) : Aw w.drew g n f := h
theorem Aw.drewN (h : Aw w g n f) (k : Nat) : Aw (w.drewN k) g n f := h
theorem Aw.alloc (h : Aw w g n f) (hn : 0 < n) (o : Obj) : Aw (w.alloc o) g n f := h.to hn ((Below.refl _ _).alloc (Nat.le_refl _) o)
theorem Aw.ext {f' : Nat → Nat} (h : Aw w g n f) (he : ∀ j, j < n → f j = f' j) : Aw w g n f' := fun j hj => by rw [← he j hj]; exact h j hj
theorem Aw.set (h : Aw w g n f) {j v : Nat} {x : Int} (hj : j < n) (hx : x = (v : Int)) : Aw (w.setCell ⟨g, j, none⟩ (.int .u32 x)) g n (fun i => if i = j then v else f i) := by
  subst hx
  intro i hi
  refine ⟨?_, by rw [World.frozen?_setCell]; exact (h i hi).2⟩
  by_cases e : i = j
  · subst e
    rw [World.cell?_setCell_same _ _ _ (h i hi).1]
    simp
  · rw [World.cell?_setCell_other _ _ _ _ (fun h => by injection h with _ h; exact e h.symm), (h i hi).1]
    simp [e]
theorem Aw.far (h : Aw w g n f) {p : Addr} (hp : p.block ≠ g) (v : Value) : Aw (w.setCell p v) g n f := by
  intro i hi
  refine ⟨?_, by rw [World.frozen?_setCell]; exact (h i hi).2⟩
  rw [World.cell?_setCell_other _ _ _ _ (fun e => hp (by rw [e])), (h i hi).1]
theorem Aw.range (h : Aw w g n f) : w.rangeAt g 0 (awL n f) := fun j v hv => by
  obtain ⟨h1, rfl⟩ := awL_get_some hv
  rw [Nat.zero_add]
  exact (h j h1).1
theorem Aw.there (h : Aw w g n f) : w.there g 0 n := fun j hj => by
  rw [Nat.zero_add, (h j hj).1]
  exact ⟨rfl, (h j hj).2⟩
/-- A whole array is stored into the block. -/
theorem Aw.whole (h : Aw w g n f) (f' : Nat → Nat) : Aw (w.setCells g 0 (awL n f')) g n f' := fun j hj => by
  have h1 := World.rangeAt_setCells_same w g 0 (awL n f') (by rw [awL_len]; exact h.there) j _ (awL_get n f' j hj)
  rw [Nat.zero_add] at h1
  exact ⟨h1, by rw [World.frozen?_setCells]; exact (h j hj).2⟩
end
theorem Aw.new (w : World) (n : Nat) (f : Nat → Nat) (t : TypeId) : Aw (w.alloc (.cells (awL n f).toArray t)) w.heap.size n f := fun j hj => by
  refine ⟨?_, World.frozen?_alloc_at _ _ _ _ rfl⟩
  rw [World.cell?_alloc_at _ _ _ _ rfl, List.getElem?_toArray]
  exact awL_get n f j hj
theorem awL_zero (n : Nat) : (awL n fun _ => 0).toArray = Array.replicate n (.int .u32 0) := by
  apply Array.ext_getElem?
  intro j
  rw [List.getElem?_toArray]
  rcases Nat.lt_or_ge j n with h | h
  · rw [awL_get _ _ _ h]; simp [h, w32]
  · rw [List.getElem?_eq_none (by rw [awL_len]; exact h), Array.getElem?_eq_none (by simpa using h)]
theorem Aw.apart {w : World} {g n b : Nat} {f : Nat → Nat} (h : Aw w g n f) (hb : g ≠ b) (vs : List Value) : ∀ o, Aw (w.setCells b o vs) g n f := by
  intro o
  induction vs generalizing o w with
  | nil => exact h
  | cons v r ih => rw [World.setCells]; exact ih (h.far (p := ⟨b, o, none⟩) (fun e => hb e.symm) v) (o + 1)
section
variable {P : Program}
/-- A whole array is stored into a block of the call's own: the world behind it as a letter. -/
theorem wpList_store_aw {ops : Array Oper} {rest : List Oper} {op : Oper} {a : Act} {w : World} {Q : Exit → Act → World → Prop} (hgd : op.guard = none) (ty : TypeId) (x y : Operand) (ho : op.op = .store ty x y)
    (g n : Nat) (f f' : Nat → Nat) (hx : a.eval x = .pointer (some ⟨g, 0, none⟩)) (hy : a.eval y = .agg (awL n f').toArray)
    (hA : Aw w g n f) (hi : (P.info? ty).map (·.size) = some (awL n f').length)
    (h : ∀ w', Aw w' g n f' → Below g w w' → w'.heap.size = w.heap.size → (∀ g' n' f'', g' ≠ g → Aw w g' n' f'' → Aw w' g' n' f'') → wpList P ops Q rest (a.put op.dst undef) w') :
    wpList P ops Q (op :: rest) a w := by
  refine wpList_store_mid hgd ty x y ho g 0 _ hx hy ?_ ?_ (all_oneCell_toArray (awL_one n f')) ?_
  · rw [List.size_toArray, awL_len]; exact hA.there
  · rw [List.size_toArray]; exact hi
  · exact h _ (hA.whole f') (Below.setCells (Below.refl _ _) (Nat.le_refl _) _ _) (World.setCells_size _ _ _ _) (fun g' n' f'' hg' h' => h'.apart hg' _ _)
/-- A whole array is loaded. -/
theorem wpList_load_aw {ops : Array Oper} {rest : List Oper} {op : Oper} {a : Act} {w : World} {Q : Exit → Act → World → Prop} (hgd : op.guard = none) (ty : TypeId) (x : Operand) (ho : op.op = .load ty x)
    (g n : Nat) (f : Nat → Nat) {m : Nat} {e : TypeId} (hx : a.eval x = .pointer (some ⟨g, 0, none⟩)) (hA : Aw w g n f)
    (hu : P.underlying ty = some (.array m e)) (hi : (P.info? ty).map (·.size) = some (awL n f).length)
    (h : wpList P ops Q rest (a.put op.dst (.agg (awL n f).toArray)) w) : wpList P ops Q (op :: rest) a w :=
  wpList_load_mid hgd ty x ho g 0 hx (awL n f) _ hA.range hu rfl hi h
/-- The one result is an array in a block of the call's own. -/
theorem bodyPost_ret_aw {fn : Func} {R : Ending → World → Prop} {a : Act} {w : World} {p : Tmp} {ty e : TypeId} {g n m : Nat} {f : Nat → Nat} (hr : fn.results = #[.cell p ty]) (hp : a.tmps.getD p undef = .pointer (some ⟨g, 0, none⟩))
    (hA : Aw w g n f) (hu : P.underlying ty = some (.array m e)) (hi : (P.info? ty).map (·.size) = some (awL n f).length) (hd : a.defers = []) (hR : R (.returned (.agg (awL n f).toArray)) w) : bodyPost P fn R .ret a w := by
  refine bodyPost_ret (v := .agg (awL n f).toArray) ?_ hd hR
  have hp' : a.tmps[p]?.getD undef = .pointer (some ⟨g, 0, none⟩) := by simpa using hp
  simp only [results, hr]
  simp [hp', asAddr, run_loadVar_mid (P := P) w g 0 ty (awL n f) _ hA.range hu rfl hi]
end

end Go.Proofs.YtdfponbfgcfpdaaDoor
