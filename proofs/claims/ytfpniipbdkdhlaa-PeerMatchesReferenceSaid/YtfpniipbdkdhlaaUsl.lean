/-
  Lists of uint64s in memory: slices of whatever origin, slices of the call's own, what a statement's frame tells of one that came in. No condition; nothing of the program is named here.
-/
import Derived.Test.YtfpniipbdkdhlaaBut
namespace Go.Proofs.Ytfpniipbdkdhlaa
open Go.RowKit
set_option linter.unusedVariables false
set_option maxRecDepth 100000

/-- n numbers as cells. -/
def unL (n : Nat) (F : Nat → Nat) : List Value := (List.range n).map fun j => .int .u64 (F j : Int)
theorem unL_len (n : Nat) (F : Nat → Nat) : (unL n F).length = n := by simp [unL]
theorem unL_get (n : Nat) (F : Nat → Nat) (j : Nat) (h : j < n) : (unL n F)[j]? = some (.int .u64 (F j : Int)) := by
  simp [unL, List.getElem?_map, List.getElem?_range h]
theorem unL_snoc (n : Nat) (F : Nat → Nat) : unL (n + 1) F = unL n F ++ [.int .u64 (F n : Int)] := by simp [unL, List.range_succ]
theorem unL_ext {n : Nat} {F G : Nat → Nat} (h : ∀ j, j < n → F j = G j) : unL n F = unL n G := by
  unfold unL
  apply List.map_congr_left
  intro j hj
  rw [h j (List.mem_range.1 hj)]
/-- A list with one more number. -/
def unP (F : Nat → Nat) (n x : Nat) : Nat → Nat := fun j => if j = n then x else F j
theorem unP_same (F : Nat → Nat) (n x : Nat) : unP F n x n = x := if_pos rfl
theorem unP_old (F : Nat → Nat) (n x j : Nat) (h : j < n) : unP F n x j = F j := if_neg (by omega)
theorem unL_put (n : Nat) (F : Nat → Nat) (x : Nat) : unL (n + 1) (unP F n x) = unL n F ++ [.int .u64 (x : Int)] := by
  rw [unL_snoc, unP_same, unL_ext (fun j hj => unP_old F n x j hj)]

/-- The n numbers of a slice, whose block lies below B. -/
def Us (w : World) (B : Nat) (A : Option Addr) (n : Nat) (F : Nat → Nat) : Prop :=
  ∀ j, j < n → ∃ g o, A = some ⟨g, o, none⟩ ∧ g < B ∧ w.cell? ⟨g, o + j, none⟩ = some (.int .u64 (F j : Int))
section
variable {w w' : World} {B n b c : Nat} {A : Option Addr} {F : Nat → Nat} {e : TypeId} {S : Nat → Prop}
theorem Us.keep (h : Us w B A n F) (hb : Below B w w') : Us w' B A n F := fun j hj => by
  obtain ⟨g, o, e, hg, hc⟩ := h j hj
  exact ⟨g, o, e, hg, (hb.cell (p := ⟨g, o + j, none⟩) hg).trans hc⟩
theorem Us.of_own (h : w.ownsRow b e 1 (.slice A n c) n (unL n F)) : Us w w.heap.size A n F := fun j hj => by
  obtain ⟨g, cap, hv, hg, hlt⟩ := World.ownsRow.form h (by omega)
  injection hv with e1 e2 e3
  subst e1
  refine ⟨g, 0, rfl, hlt, ?_⟩
  have hc := World.ownsRow.cells h (g := g) rfl j _ (unL_get n F j hj)
  have : (⟨g, 0, none⟩ : Addr).add j = ⟨g, 0 + j, none⟩ := by unfold Addr.add; split <;> simp_all
  rw [this] at hc
  exact hc
/-- One number in a block of its own. -/
theorem Us.one (w : World) (x : Nat) (T : TypeId) : Us (w.alloc (.cells #[.int .u64 (x : Int)] T)) (w.heap.size + 1) (some ⟨w.heap.size, 0, none⟩) 1 (fun _ => x) := fun j hj => by
  obtain rfl : j = 0 := by omega
  exact ⟨_, 0, rfl, by omega, World.cell?_alloc_at _ _ _ _ rfl⟩
/-- What is owned stays so, if another block is written. -/
theorem own_but {g : Nat} {v : Value} {xs : List Value} {s : Nat} (h : w.ownsRow b e s v n xs) (hb : But (On g) w w') (hg : g < b) : w'.ownsRow b e s v n xs := by
  refine ⟨h.1, ?_⟩
  rcases h.2 with h2 | ⟨g2, cap, cur, rfl, hbg, hcell, h3⟩
  · exact .inl h2
  · refine .inr ⟨g2, cap, cur, rfl, hbg, (hb.block g2 (Array.getElem?_eq_some_iff.1 hcell).1 (On.ne (by omega))).trans hcell, h3⟩
theorem own_to {v : Value} {xs : List Value} {s : Nat} (h : w.ownsRow b e s v n xs) (hb : Below w.heap.size w w') : w'.ownsRow b e s v n xs := by
  refine ⟨h.1, ?_⟩
  rcases h.2 with h2 | ⟨g2, cap, cur, rfl, hbg, hcell, h3⟩
  · exact .inl h2
  · exact .inr ⟨g2, cap, cur, rfl, hbg, (hb.block g2 (Array.getElem?_eq_some_iff.1 hcell).1).trans hcell, h3⟩
theorem own_blk {v : Value} {xs : List Value} {s : Nat} (h : w.ownsRow b e s v n xs) {g : Nat} (hg : v.ownBlock = some g) : b ≤ g := by
  rcases h.2 with ⟨rfl, _⟩ | ⟨g0, cap, cur, rfl, hb, _⟩
  · simp [Value.ownBlock] at hg
  · simp [Value.ownBlock] at hg; omega
/-- What the frame of a statement tells of a slice of numbers that came in. -/
theorem Us.of_row {cap : Nat} {zs : List Int} (h : (A = none ∧ n = 0 ∧ cap = 0 ∧ zs = []) ∨
    ∃ x, A = some x ∧ n ≤ cap ∧ cap ≤ maxLen ∧ zs.length = cap ∧ (∀ i, i < zs.length → w.cell? (x.add i) = some (.int .u64 (zs.getD i 0))) ∧ ∀ m ∈ zs, (Lit.int .u64 m).wf = true) :
    ∃ F : Nat → Nat, Us w w.heap.size A n F ∧ (∀ j, j < n → F j < 18446744073709551616) ∧ n ≤ cap ∧ cap ≤ maxLen := by
  rcases h with ⟨rfl, rfl, rfl, rfl⟩ | ⟨x, rfl, hl, hm, hz, hcell, hwz⟩
  · exact ⟨fun _ => 0, fun j hj => by omega, fun j hj => by omega, Nat.le_refl _, by simp [maxLen]⟩
  · have hr : ∀ i, i < zs.length → 0 ≤ zs.getD i 0 ∧ zs.getD i 0 ≤ 18446744073709551615 := by
      intro i hi
      have hmem : zs.getD i 0 ∈ zs := by
        rw [List.getD_eq_getElem?_getD, List.getElem?_eq_getElem hi]; simp
      have := hwz _ hmem
      simpa [Lit.wf, IntKind.min, IntKind.max, IntKind.signed, IntKind.bits] using this
    obtain ⟨F, hF⟩ : ∃ F : Nat → Nat, ∀ j, F j = (zs.getD j 0).toNat := ⟨_, fun _ => rfl⟩
    refine ⟨F, fun j hj => ?_, fun j hj => by have := hr j (by omega); have := hF j; omega, hl, hm⟩
    obtain ⟨b, off, spot⟩ := x
    have hspot : spot = none := by simpa [Addr.add] using World.cell?_spot (hcell 0 (by omega))
    have hc0 := hcell j (by omega)
    subst hspot
    have hadd : ∀ i, (⟨b, off, none⟩ : Addr).add i = ⟨b, off + i, none⟩ := fun i => by unfold Addr.add; split <;> simp_all
    rw [hadd] at hc0
    refine ⟨b, off, rfl, ?_, ?_⟩
    · rcases Nat.lt_or_ge b w.heap.size with hlt | hge
      · exact hlt
      · simp [World.cell?, Array.getElem?_eq_none hge] at hc0
    · rw [hc0]
      have h1 := hr j (by omega)
      have h2 := hF j
      congr 2
      omega
end
end Go.Proofs.Ytfpniipbdkdhlaa
