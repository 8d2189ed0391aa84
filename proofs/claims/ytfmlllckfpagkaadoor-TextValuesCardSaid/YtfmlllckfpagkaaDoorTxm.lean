/-
  Arrays of ints in memory, of whatever length; the bits of a key gathered to sextets, and those of sextets to a key. No condition; nothing of the program is named here.
-/
import Derived.Test.YtfmlllckfpagkaaDoorTxv
namespace Go.Proofs.YtfmlllckfpagkaaDoor
open Go.RowKit
set_option linter.unusedVariables false
set_option maxRecDepth 100000

def i64v (x : Nat) : Value := .int .i64 (x : Int)
/-- n ints as cells. -/
def aiL (n : Nat) (f : Nat → Nat) : List Value := (List.range n).map fun j => i64v (f j)
theorem aiL_len (n : Nat) (f : Nat → Nat) : (aiL n f).length = n := by simp [aiL]
theorem aiL_get (n : Nat) (f : Nat → Nat) (j : Nat) (h : j < n) : (aiL n f)[j]? = some (i64v (f j)) := by
  simp [aiL, List.getElem?_map, List.getElem?_range h]
theorem aiL_get_some {n : Nat} {f : Nat → Nat} {j : Nat} {v : Value} (h : (aiL n f)[j]? = some v) : j < n ∧ v = i64v (f j) := by
  rcases Nat.lt_or_ge j n with h1 | h1
  · rw [aiL_get n f j h1] at h; exact ⟨h1, (Option.some.inj h).symm⟩
  · rw [List.getElem?_eq_none (by rw [aiL_len]; exact h1)] at h; cases h
theorem aiL_ext {n : Nat} {f g : Nat → Nat} (h : ∀ j, j < n → f j = g j) : aiL n f = aiL n g := by
  unfold aiL
  apply List.map_congr_left
  intro j hj
  rw [h j (List.mem_range.1 hj)]
theorem aiL_one (n : Nat) (f : Nat → Nat) : ∀ v ∈ aiL n f, v.oneCell' = true := by
  intro v hv
  obtain ⟨x, _, rfl⟩ := List.mem_map.1 hv
  rfl

/-- Block g holds n ints, and may be written. -/
def Ai (w : World) (g n : Nat) (f : Nat → Nat) : Prop := ∀ j, j < n → w.cell? ⟨g, j, none⟩ = some (.int .i64 (f j : Nat)) ∧ w.frozen? ⟨g, j, none⟩ = false
section
variable {w w' : World} {g n : Nat} {f : Nat → Nat}
theorem Ai.lt (h : Ai w g n f) (hn : 0 < n) : g < w.heap.size := by
  have h1 := (h 0 hn).1
  rcases Nat.lt_or_ge g w.heap.size with h2 | h2
  · exact h2
  · simp [World.cell?, Array.getElem?_eq_none h2] at h1
theorem Ai.keep {B : Nat} (h : Ai w g n f) (hg : g < B) (hb : Below B w w') : Ai w' g n f := fun j hj =>
  ⟨(hb.cell (p := ⟨g, j, none⟩) hg).trans (h j hj).1, (hb.frozen (p := ⟨g, j, none⟩) hg).trans (h j hj).2⟩
theorem Ai.to (h : Ai w g n f) (hn : 0 < n) (hb : Below w.heap.size w w') : Ai w' g n f := h.keep (h.lt hn) hb
theorem Ai.drew (h : Ai w g n f) : Ai w.drew g n f := h
theorem Ai.drewN (h : Ai w g n f) (k : Nat) : Ai (w.drewN k) g n f := h
theorem Ai.alloc (h : Ai w g n f) (hn : 0 < n) (o : Obj) : Ai (w.alloc o) g n f := h.to hn ((Below.refl _ _).alloc (Nat.le_refl _) o)
theorem Ai.ext {f' : Nat → Nat} (h : Ai w g n f) (he : ∀ j, j < n → f j = f' j) : Ai w g n f' := fun j hj => by rw [← he j hj]; exact h j hj
theorem Ai.set (h : Ai w g n f) {j v : Nat} {x : Int} (hj : j < n) (hx : x = (v : Int)) : Ai (w.setCell ⟨g, j, none⟩ (.int .i64 x)) g n (fun i => if i = j then v else f i) := by
  subst hx
  intro i hi
  refine ⟨?_, by rw [World.frozen?_setCell]; exact (h i hi).2⟩
  by_cases e : i = j
  · subst e
    rw [World.cell?_setCell_same _ _ _ (h i hi).1]
    simp
  · rw [World.cell?_setCell_other _ _ _ _ (fun h => by injection h with _ h; exact e h.symm), (h i hi).1]
    simp [e]
theorem Ai.far (h : Ai w g n f) {p : Addr} (hp : p.block ≠ g) (v : Value) : Ai (w.setCell p v) g n f := by
  intro i hi
  refine ⟨?_, by rw [World.frozen?_setCell]; exact (h i hi).2⟩
  rw [World.cell?_setCell_other _ _ _ _ (fun e => hp (by rw [e])), (h i hi).1]
theorem Ai.range (h : Ai w g n f) : w.rangeAt g 0 (aiL n f) := fun j v hv => by
  obtain ⟨h1, rfl⟩ := aiL_get_some hv
  rw [Nat.zero_add]
  exact (h j h1).1
theorem Ai.there (h : Ai w g n f) : w.there g 0 n := fun j hj => by
  rw [Nat.zero_add, (h j hj).1]
  exact ⟨rfl, (h j hj).2⟩
/-- A whole array is stored into the block. -/
theorem Ai.whole (h : Ai w g n f) (f' : Nat → Nat) : Ai (w.setCells g 0 (aiL n f')) g n f' := fun j hj => by
  have h1 := World.rangeAt_setCells_same w g 0 (aiL n f') (by rw [aiL_len]; exact h.there) j _ (aiL_get n f' j hj)
  rw [Nat.zero_add] at h1
  exact ⟨h1, by rw [World.frozen?_setCells]; exact (h j hj).2⟩
end
theorem Ai.new (w : World) (n : Nat) (f : Nat → Nat) (t : TypeId) : Ai (w.alloc (.cells (aiL n f).toArray t)) w.heap.size n f := fun j hj => by
  refine ⟨?_, World.frozen?_alloc_at _ _ _ _ rfl⟩
  rw [World.cell?_alloc_at _ _ _ _ rfl, List.getElem?_toArray]
  exact aiL_get n f j hj
theorem aiL_zero (n : Nat) : (aiL n fun _ => 0).toArray = Array.replicate n (.int .i64 0) := by
  apply Array.ext_getElem?
  intro j
  rw [List.getElem?_toArray]
  rcases Nat.lt_or_ge j n with h | h
  · rw [aiL_get _ _ _ h]; simp [h, i64v]
  · rw [List.getElem?_eq_none (by rw [aiL_len]; exact h), Array.getElem?_eq_none (by simpa using h)]
theorem Ai.apart {w : World} {g n b : Nat} {f : Nat → Nat} (h : Ai w g n f) (hb : g ≠ b) (vs : List Value) : ∀ o, Ai (w.setCells b o vs) g n f := by
  intro o
  induction vs generalizing o w with
  | nil => exact h
  | cons v r ih => rw [World.setCells]; exact ih (h.far (p := ⟨b, o, none⟩) (fun e => hb e.symm) v) (o + 1)
section
variable {P : Program}
/-- A whole array is stored into a block of the call's own: the world behind it as a letter. -/
theorem wpList_store_ai {ops : Array Oper} {rest : List Oper} {op : Oper} {a : Act} {w : World} {Q : Exit → Act → World → Prop} (hgd : op.guard = none) (ty : TypeId) (x y : Operand) (ho : op.op = .store ty x y)
    (g n : Nat) (f f' : Nat → Nat) (hx : a.eval x = .pointer (some ⟨g, 0, none⟩)) (hy : a.eval y = .agg (aiL n f').toArray)
    (hA : Ai w g n f) (hi : (P.info? ty).map (·.size) = some (aiL n f').length)
    (h : ∀ w', Ai w' g n f' → Below g w w' → w'.heap.size = w.heap.size → (∀ g' n' f'', g' ≠ g → Ai w g' n' f'' → Ai w' g' n' f'') → wpList P ops Q rest (a.put op.dst undef) w') :
    wpList P ops Q (op :: rest) a w := by
  refine wpList_store_mid hgd ty x y ho g 0 _ hx hy ?_ ?_ (all_oneCell_toArray (aiL_one n f')) ?_
  · rw [List.size_toArray, aiL_len]; exact hA.there
  · rw [List.size_toArray]; exact hi
  · exact h _ (hA.whole f') (Below.setCells (Below.refl _ _) (Nat.le_refl _) _ _) (World.setCells_size _ _ _ _) (fun g' n' f'' hg' h' => h'.apart hg' _ _)
/-- A whole array is loaded. -/
theorem wpList_load_ai {ops : Array Oper} {rest : List Oper} {op : Oper} {a : Act} {w : World} {Q : Exit → Act → World → Prop} (hgd : op.guard = none) (ty : TypeId) (x : Operand) (ho : op.op = .load ty x)
    (g n : Nat) (f : Nat → Nat) {m : Nat} {e : TypeId} (hx : a.eval x = .pointer (some ⟨g, 0, none⟩)) (hA : Ai w g n f)
    (hu : P.underlying ty = some (.array m e)) (hi : (P.info? ty).map (·.size) = some (aiL n f).length)
    (h : wpList P ops Q rest (a.put op.dst (.agg (aiL n f).toArray)) w) : wpList P ops Q (op :: rest) a w :=
  wpList_load_mid hgd ty x ho g 0 hx (aiL n f) _ hA.range hu rfl hi h
end

/-! ### Sextets, bit by bit -/
def seF (l : Nat → Nat) : Nat → Nat → Nat
  | 0, _ => 0
  | n + 1, i => if i = n / 6 then seF l n i + l n * 2 ^ (5 - n % 6) else seF l n i
def hx6 (l : Nat → Nat) (i : Nat) : Nat → Nat
  | 0 => 0
  | t + 1 => hx6 l i t + l (6 * i + t) * 2 ^ (5 - t)
theorem hx6_all (l : Nat → Nat) (i : Nat) : hx6 l i 6 = by6 l i := by simp [hx6, by6]; omega
theorem seF_hi (l : Nat → Nat) (i : Nat) : ∀ n, seF l n i = hx6 l i (if n ≤ 6 * i then 0 else if n - 6 * i ≤ 6 then n - 6 * i else 6)
  | 0 => by simp [seF, hx6]
  | n + 1 => by
    have ih := seF_hi l i n
    unfold seF
    by_cases h : i = n / 6
    · rw [if_pos h, ih]
      obtain ⟨t, ht, hn⟩ : ∃ t, t < 6 ∧ n = 6 * i + t := ⟨n % 6, Nat.mod_lt _ (by decide), by omega⟩
      have e2 : (if n + 1 ≤ 6 * i then 0 else if n + 1 - 6 * i ≤ 6 then n + 1 - 6 * i else 6) = t + 1 := by rw [if_neg (by omega), if_pos (by omega)]; omega
      have e1 : (if n ≤ 6 * i then 0 else if n - 6 * i ≤ 6 then n - 6 * i else 6) = t := by
        split
        · omega
        · rw [if_pos (by omega)]; omega
      rw [e1, e2, hx6, hn, show (6 * i + t) % 6 = t by omega]
    · rw [if_neg h, ih]
      congr 1
      split <;> split <;> (try omega) <;> (try split) <;> (try split) <;> omega
theorem seF_all (f : Nat → Nat) (i : Nat) (hi : i < 22) : seF (bitF f) 128 i = sxF f i := by
  have e : ∀ n, n ≤ 128 → seF (bitF f) n i = seF (kbF f) n i := by
    intro n
    induction n with
    | zero => intro _; rfl
    | succ n ih =>
      intro h
      unfold seF
      rw [ih (by omega), show bitF f n = kbF f n by unfold kbF; rw [if_pos (by omega)]]
  rw [e 128 (Nat.le_refl _), seF_hi]
  have hk : ∀ k, 128 ≤ k → kbF f k = 0 := fun k hk => by unfold kbF; rw [if_neg (by omega)]
  unfold sxF
  rw [← hx6_all]
  rcases Nat.lt_or_ge i 21 with h | h
  · rw [if_neg (by omega), if_neg (by omega)]
  · obtain rfl : i = 21 := by omega
    simp [hx6, hk]
theorem hx6_bound (l : Nat → Nat) (hl : ∀ k, l k < 2) (i : Nat) : ∀ t, t ≤ 6 → hx6 l i t < 64 ∧ hx6 l i t % 2 ^ (6 - t) = 0 := by
  have h0 := hl (6 * i); have h1 := hl (6 * i + 1); have h2 := hl (6 * i + 2); have h3 := hl (6 * i + 3); have h4 := hl (6 * i + 4); have h5 := hl (6 * i + 5)
  intro t ht
  rcases (show t = 0 ∨ t = 1 ∨ t = 2 ∨ t = 3 ∨ t = 4 ∨ t = 5 ∨ t = 6 by omega) with rfl | rfl | rfl | rfl | rfl | rfl | rfl <;> simp [hx6] <;> omega
theorem se_lt (l : Nat → Nat) (hl : ∀ k, l k < 2) (n i : Nat) : seF l n i < 64 := by
  rw [seF_hi]
  refine (hx6_bound l hl i _ ?_).1
  split
  · omega
  · split <;> omega
theorem or_bit : ∀ x, x < 64 → ∀ k, k < 6 → ∀ b, b < 2 → x % 2 ^ (k + 1) = 0 → x ||| (b * 2 ^ k) = x + b * 2 ^ k := by decide +kernel
theorem se_or (l : Nat → Nat) (hl : ∀ k, l k < 2) (n : Nat) : seF l n (n / 6) ||| (l n * 2 ^ (5 - n % 6)) = seF l (n + 1) (n / 6) := by
  have hm : n % 6 < 6 := Nat.mod_lt _ (by decide)
  have e : seF l n (n / 6) = hx6 l (n / 6) (n % 6) := by
    rw [seF_hi]
    congr 1
    split
    · omega
    · rw [if_pos (by omega)]; omega
  have hb := hx6_bound l hl (n / 6) (n % 6) (by omega)
  rw [← e] at hb
  rw [or_bit _ hb.1 (5 - n % 6) (by omega) _ (hl n) (by rw [show 5 - n % 6 + 1 = 6 - n % 6 by omega]; exact hb.2)]
  conv => rhs; unfold seF
  rw [if_pos rfl]
/-! ### Bytes, bit by bit -/
def gaF (l : Nat → Nat) : Nat → Nat → Nat
  | 0, _ => 0
  | n + 1, j => if j = n / 8 then (gaF l n j * 2 % 256) ||| l n else gaF l n j
def lx8 (l : Nat → Nat) (j : Nat) : Nat → Nat
  | 0 => 0
  | t + 1 => lx8 l j t * 2 + l (8 * j + t)
theorem lx8_all (l : Nat → Nat) (j : Nat) : lx8 l j 8 = by8 l j := by simp [lx8, by8]
theorem lx8_lt (l : Nat → Nat) (hl : ∀ k, l k < 2) (j : Nat) : ∀ t, lx8 l j t < 2 ^ t
  | 0 => by simp [lx8]
  | t + 1 => by
    have h1 := lx8_lt l hl j t
    have h2 := hl (8 * j + t)
    rw [lx8, Nat.pow_succ]; omega
theorem or_low1 : ∀ x, x < 128 → ∀ b, b < 2 → (x * 2 % 256) ||| b = x * 2 + b := by decide +kernel
theorem gaF_lo (l : Nat → Nat) (hl : ∀ k, l k < 2) (j : Nat) : ∀ n, gaF l n j = lx8 l j (if n ≤ 8 * j then 0 else if n - 8 * j ≤ 8 then n - 8 * j else 8)
  | 0 => by simp [gaF, lx8]
  | n + 1 => by
    have ih := gaF_lo l hl j n
    unfold gaF
    by_cases h : j = n / 8
    · rw [if_pos h, ih]
      obtain ⟨t, ht, hn⟩ : ∃ t, t < 8 ∧ n = 8 * j + t := ⟨n % 8, Nat.mod_lt _ (by decide), by omega⟩
      have e2 : (if n + 1 ≤ 8 * j then 0 else if n + 1 - 8 * j ≤ 8 then n + 1 - 8 * j else 8) = t + 1 := by rw [if_neg (by omega), if_pos (by omega)]; omega
      have e1 : (if n ≤ 8 * j then 0 else if n - 8 * j ≤ 8 then n - 8 * j else 8) = t := by
        split
        · omega
        · rw [if_pos (by omega)]; omega
      have hlt : lx8 l j t < 128 := Nat.lt_of_lt_of_le (lx8_lt l hl j t) (by have h9 : (2 : Nat) ^ t ≤ 2 ^ 7 := Nat.pow_le_pow_right (by omega) (by omega); omega)
      rw [e1, e2, lx8, hn, or_low1 _ hlt _ (hl _)]
    · rw [if_neg h, ih]
      congr 1
      split <;> split <;> (try omega) <;> (try split) <;> (try split) <;> omega
theorem gaF_all (l : Nat → Nat) (hl : ∀ k, l k < 2) (j : Nat) (hj : j < 16) : gaF l 128 j = by8 l j := by
  rw [gaF_lo l hl, if_neg (by omega), ← lx8_all]
  congr 1
  split <;> omega
theorem ga_lt (l : Nat → Nat) (hl : ∀ k, l k < 2) (n j : Nat) : gaF l n j < 256 := by
  rw [gaF_lo l hl]
  have h := lx8_lt l hl j (if n ≤ 8 * j then 0 else if n - 8 * j ≤ 8 then n - 8 * j else 8)
  refine Nat.lt_of_lt_of_le h ?_
  have h9 : (2 : Nat) ^ (if n ≤ 8 * j then 0 else if n - 8 * j ≤ 8 then n - 8 * j else 8) ≤ 2 ^ 8 := Nat.pow_le_pow_right (by omega) (by
    split
    · omega
    · split <;> omega)
  omega
theorem ga_step (l : Nat → Nat) (n : Nat) : (gaF l n (n / 8) * 2 % 256) ||| l n = gaF l (n + 1) (n / 8) := by
  conv => rhs; unfold gaF
  rw [if_pos rfl]
theorem ga_put (l : Nat → Nat) (n j : Nat) : (if j = n / 8 then gaF l (n + 1) (n / 8) else gaF l n j) = gaF l (n + 1) j := by
  by_cases h : j = n / 8
  · rw [if_pos h, h]
  · rw [if_neg h]; conv => rhs; unfold gaF
    rw [if_neg h]
theorem se_put (l : Nat → Nat) (n j : Nat) : (if j = n / 6 then seF l (n + 1) (n / 6) else seF l n j) = seF l (n + 1) j := by
  by_cases h : j = n / 6
  · rw [if_pos h, h]
  · rw [if_neg h]; conv => rhs; unfold seF
    rw [if_neg h]
end Go.Proofs.YtfmlllckfpagkaaDoor
