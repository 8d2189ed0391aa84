/-
  Lists of uint16s, and of calls (a bool, a uint16, a uint64), in memory: slices of whatever origin; what a statement's frame tells of one that came in. No condition; nothing of the program is named here.
-/
import Derived.Test.YtmfmcbghofcafaaBut
import Derived.Test.YtmfmcbghofcafaaArg
import Derived.Deep.Slices
import Derived.Deep.Strs
import Derived.Deep.Fields
namespace Go.Proofs.Ytmfmcbghofcafaa
open Go.RowKit Go.ChangeShapes Go.WideShapes
set_option linter.unusedVariables false
set_option linter.unusedSimpArgs false
set_option maxRecDepth 100000
/-- The n numbers of a slice, whose block lies below B. -/
def Hs (w : World) (B : Nat) (A : Option Addr) (n : Nat) (F : Nat → Nat) : Prop :=
  ∀ j, j < n → ∃ g o, A = some ⟨g, o, none⟩ ∧ g < B ∧ w.cell? ⟨g, o + j, none⟩ = some (.int .u16 (F j : Int))
section
variable {w w' : World} {B n b c : Nat} {A : Option Addr} {F : Nat → Nat}
theorem Hs.keep (h : Hs w B A n F) (hb : Below B w w') : Hs w' B A n F := fun j hj => by
  obtain ⟨g, o, e, hg, hc⟩ := h j hj
  exact ⟨g, o, e, hg, (hb.cell (p := ⟨g, o + j, none⟩) hg).trans hc⟩
/-- What the frame of a statement tells of a slice of numbers that came in. -/
theorem Hs.of_row {cap : Nat} {zs : List Int} (h : (A = none ∧ n = 0 ∧ cap = 0 ∧ zs = []) ∨
    ∃ x, A = some x ∧ n ≤ cap ∧ cap ≤ maxLen ∧ zs.length = cap ∧ (∀ i, i < zs.length → w.cell? (x.add i) = some (.int .u16 (zs.getD i 0))) ∧ ∀ m ∈ zs, (Lit.int .u16 m).wf = true) :
    ∃ F : Nat → Nat, Hs w w.heap.size A n F ∧ (∀ j, j < n → F j < 65536) ∧ n ≤ cap ∧ cap ≤ maxLen := by
  rcases h with ⟨rfl, rfl, rfl, rfl⟩ | ⟨x, rfl, hl, hm, hz, hcell, hwz⟩
  · exact ⟨fun _ => 0, fun j hj => by omega, fun j hj => by omega, Nat.le_refl _, by simp [maxLen]⟩
  · have hr : ∀ i, i < zs.length → 0 ≤ zs.getD i 0 ∧ zs.getD i 0 ≤ 65535 := by
      intro i hi
      have hmem : zs.getD i 0 ∈ zs := by
        rw [List.getD_eq_getElem?_getD, List.getElem?_eq_getElem hi]; simp
      have := hwz _ hmem
      simpa [Lit.wf, IntKind.min, IntKind.max, IntKind.signed, IntKind.bits] using this
    obtain ⟨F, hF⟩ : ∃ F : Nat → Nat, ∀ j, F j = (zs.getD j 0).toNat := ⟨_, fun _ => rfl⟩
    refine ⟨F, fun j hj => ?_, fun j hj => by have := hr j (by omega); have := hF j; omega, hl, hm⟩
    obtain ⟨b, off, spot⟩ := x
    have hspot : spot = none := by simpa [Addr.add] using World.cell?_spot (hcell 0 (by omega))
    have hc0 := hcell j (by omega)
    subst hspot
    have hadd : ∀ i, (⟨b, off, none⟩ : Addr).add i = ⟨b, off + i, none⟩ := fun i => by unfold Addr.add; split <;> simp_all
    rw [hadd] at hc0
    refine ⟨b, off, rfl, ?_, ?_⟩
    · rcases Nat.lt_or_ge b w.heap.size with hlt | hge
      · exact hlt
      · simp [World.cell?, Array.getElem?_eq_none hge] at hc0
    · rw [hc0]
      have h1 := hr j (by omega)
      have h2 := hF j
      congr 2
      omega
end

/-- One call as cells. -/
def claF (z : Nat → Bool) (s t : Nat → Nat) (i : Nat) : Nat → Value
  | 0 => .bool (z i) | 1 => .int .u16 (s i : Int) | _ => .int .u64 (t i : Int)
/-- The n calls of a slice, whose block lies below B. -/
def Cs (w : World) (B : Nat) (A : Option Addr) (n : Nat) (z : Nat → Bool) (s t : Nat → Nat) : Prop :=
  ∀ i, i < n → ∃ g o, A = some ⟨g, o, none⟩ ∧ g < B ∧ ∀ j, j < 3 → w.cell? ⟨g, o + i * 3 + j, none⟩ = some (claF z s t i j)
/-- What the frame of a statement tells of a slice of calls that came in. -/
theorem open_calls {H : Type} {enc : TypeId × Value → H} {P : Program} {W : World} {B : Nat} {sp : Nat → Bool} {held : Bool} {ty e : TypeId} {f0 f1 f2 : Field} {v : Value} {d : DataW H} {p : List MemPlace}
    (ht : P.underlying ty = some (.slice e)) (he : P.underlying e = some (.struct #[f0, f1, f2])) (hc : P.cellsOf e = 3)
    (u0 : P.underlying f0.type = some .bool) (u1 : P.underlying f1.type = some (.int .u16)) (u2 : P.underlying f2.type = some (.int .u64))
    (c0 : P.cellsOf f0.type = 1) (c1 : P.cellsOf f1.type = 1) (c2 : P.cellsOf f2.type = 1) (o0 : f0.offset = 0) (o1 : f1.offset = 1) (o2 : f2.offset = 2)
    (hv : v.cells = #[v]) (h : DataW.Trod enc P W B sp held ty v d p) :
    ∃ (A : Option Addr) (n c : Nat) (z : Nat → Bool) (s t : Nat → Nat), v = .slice A n c ∧ n ≤ c ∧ c ≤ maxLen ∧ (∀ i, s i < 65536) ∧ (∀ i, t i < 18446744073709551616) ∧ Cs W W.heap.size A n z s t := by
  obtain ⟨fuel, hf⟩ := h
  rw [hv] at hf
  rcases Go.Deep.open_slice ht hf with ⟨h1, _⟩ | ⟨a, len, cap, m, k, D, Pl, h1, hb, hl, hm, hmm, _, hx⟩
  · simp at h1
    exact ⟨none, 0, 0, fun _ => false, fun _ => 0, fun _ => 0, h1, Nat.le_refl _, Nat.zero_le _, fun _ => (by show 0 < 65536; omega), fun _ => (by show 0 < 18446744073709551616; omega), fun i hi => absurd hi (by omega)⟩
  · simp at h1
    have hlm : len ≤ m := by rw [hmm]; split <;> omega
    have row : ∀ i, i < len → ∃ x : Bool × Nat × Nat, x.2.1 < 65536 ∧ x.2.2 < 18446744073709551616 ∧ W.cell? ((a.add (i * 3)).add 0) = some (.bool x.1) ∧ W.cell? ((a.add (i * 3)).add 1) = some (.int .u16 (x.2.1 : Int)) ∧ W.cell? ((a.add (i * 3)).add 2) = some (.int .u64 (x.2.2 : Int)) := fun i hi => by
      obtain ⟨cs, hcs, ht2⟩ := hx i (by omega)
      rw [hc] at hcs
      obtain ⟨_, hcl, hcell⟩ := World.cells?_some hcs
      obtain ⟨y0, y1, y2, q, _, _, t0, t1, t2⟩ := Go.Deep.trod_struct3 he ht2
      match cs, hcl with
      | [v0, v1, v2], _ =>
        simp [o0, o1, o2, c0, c1, c2] at t0 t1 t2
        obtain ⟨z, ez, _⟩ := DataW.trod_bool u0 t0
        obtain ⟨s, es, _, ws⟩ := DataW.trod_int u1 t1
        obtain ⟨t, et, _, wt⟩ := DataW.trod_int u2 t2
        simp at ez es et
        subst ez es et
        have hs : 0 ≤ s ∧ s ≤ 65535 := by simpa [Lit.wf, IntKind.min, IntKind.max, IntKind.signed, IntKind.bits] using ws
        have h2 : 0 ≤ t ∧ t ≤ 18446744073709551615 := by simpa [Lit.wf, IntKind.min, IntKind.max, IntKind.signed, IntKind.bits] using wt
        refine ⟨(z, s.toNat, t.toNat), by show s.toNat < _; omega, by show t.toNat < _; omega, ?_, ?_, ?_⟩
        · simpa using hcell 0 (by omega)
        · have := hcell 1 (by omega)
          rw [this]
          show some (Value.int .u16 s) = some (.int .u16 (s.toNat : Int))
          congr 2; omega
        · have := hcell 2 (by omega)
          rw [this]
          show some (Value.int .u64 t) = some (.int .u64 (t.toNat : Int))
          congr 2; omega
    let G : Nat → Bool × Nat × Nat := fun i => if hi : i < len then (row i hi).choose else (false, 0, 0)
    have hG : ∀ i (hi : i < len), (G i).2.1 < 65536 ∧ (G i).2.2 < 18446744073709551616 ∧ W.cell? ((a.add (i * 3)).add 0) = some (.bool (G i).1) ∧ W.cell? ((a.add (i * 3)).add 1) = some (.int .u16 ((G i).2.1 : Int)) ∧ W.cell? ((a.add (i * 3)).add 2) = some (.int .u64 ((G i).2.2 : Int)) := fun i hi => by
      have e : G i = (row i hi).choose := dif_pos hi
      rw [e]; exact (row i hi).choose_spec
    have hN : ∀ i, ¬ i < len → G i = (false, 0, 0) := fun i hi => dif_neg hi
    refine ⟨some a, len, cap, fun i => (G i).1, fun i => (G i).2.1, fun i => (G i).2.2, h1, hl, hm, fun i => ?_, fun i => ?_, fun i hi => ?_⟩
    · show (G i).2.1 < 65536
      by_cases h : i < len
      · exact (hG i h).1
      · rw [hN i h]; decide
    · show (G i).2.2 < 18446744073709551616
      by_cases h : i < len
      · exact (hG i h).2.1
      · rw [hN i h]; decide
    · obtain ⟨b, o, spot⟩ := a
      obtain ⟨_, _, k0, k1, k2⟩ := hG i hi
      have hspot : spot = none := by simpa [Addr.add] using World.cell?_spot (hG 0 (by omega)).2.2.1
      subst hspot
      have hadd : ∀ i j, (((⟨b, o, none⟩ : Addr).add (i * 3)).add j) = ⟨b, o + i * 3 + j, none⟩ := fun i j => by rw [Addr.add_mid, Addr.add_mid]
      rw [hadd] at k0 k1 k2
      refine ⟨b, o, rfl, ?_, fun j hj => ?_⟩
      · rcases Nat.lt_or_ge b W.heap.size with h3 | h3
        · exact h3
        · simp [World.cell?, Array.getElem?_eq_none h3] at k0
      · have hj3 : j = 0 ∨ j = 1 ∨ j = 2 := by omega
        rcases hj3 with rfl | rfl | rfl
        · exact k0
        · exact k1
        · exact k2
end Go.Proofs.Ytmfmcbghofcafaa
