/-
  Slices of blocks of 16 bytes in memory: a slice that reads as bytes by block and place; what keeps it so; such a slice among the arguments of a statement. No condition; nothing of the program is named here.
-/
import Derived.Test.YthfnpjjckpnfbaaDoorFre
import Derived.Deep.Slices
namespace Go.Proofs.YthfnpjjckpnfbaaDoor
open Go.ChangeShapes Go.WideShapes Go.RowKit
set_option linter.unusedVariables false

/-- The slice at A with n blocks reads as F: the byte j of the block i. -/
def S16 (w : World) (A : Option Addr) (n : Nat) (F : Nat → Nat → Nat) : Prop :=
  0 < n → ∃ b o, A = some ⟨b, o, none⟩ ∧ b < w.heap.size ∧ ∀ i, i < n → w.rangeAt b (o + i * 16) (arL 16 (F i))
section
variable {w w' : World} {A : Option Addr} {n : Nat} {F : Nat → Nat → Nat}
theorem S16.to (h : S16 w A n F) (hb : Below w.heap.size w w') : S16 w' A n F := fun hn => by
  obtain ⟨b, o, e, hl, hr⟩ := h hn
  exact ⟨b, o, e, Nat.lt_of_lt_of_le hl hb.size, fun i hi j v hv => (hb.cell (p := ⟨b, o + i * 16 + j, none⟩) hl).trans (hr i hi j v hv)⟩
theorem S16.drew (h : S16 w A n F) : S16 w.drew A n F := h
theorem S16.drewN (h : S16 w A n F) (k : Nat) : S16 (w.drewN k) A n F := h
theorem S16.alloc (h : S16 w A n F) (o : Obj) : S16 (w.alloc o) A n F := h.to ((Below.refl _ _).alloc (Nat.le_refl _) o)
end
theorem slice_cells {P : Program} {W : World} {r : Reach} {base : Nat} {t e : TypeId} {v : Value} (ht : P.underlying t = some (.slice e)) (hv : Value.okWide P W r base t v) : v.cells = #[v] := by
  cases v with
  | agg cs => simp [Value.okWide, Cell.okWide, Cell.ok, ht] at hv
  | _ => rfl
/-- What comes in as a slice of blocks. -/
theorem open_blocks {H : Type} {enc : TypeId × Value → H} {P : Program} {W : World} {B : Nat} {sp : Nat → Bool} {held : Bool} {t e e' : TypeId} {v : Value} {d : DataW H} {p : List MemPlace}
    (ht : P.underlying t = some (.slice e)) (he : P.underlying e = some (.array 16 e')) (he' : P.underlying e' = some (.int .u8)) (hce : P.cellsOf e = 16) (hce' : P.cellsOf e' = 1)
    (hv : v.cells = #[v]) (h : DataW.Trod enc P W B sp held t v d p) : ∃ (A : Option Addr) (n c : Nat) (F : Nat → Nat → Nat), v = .slice A n c ∧ n ≤ c ∧ c ≤ maxLen ∧ (∀ i j, F i j < 256) ∧ S16 W A n F := by
  obtain ⟨fuel, hf⟩ := h
  rw [hv] at hf
  rcases Go.Deep.open_slice ht hf with ⟨h1, _⟩ | ⟨a, len, cap, m, k, D, Pl, h1, hb, hl, hm, hmm, _, hx⟩
  · simp at h1
    exact ⟨none, 0, 0, fun _ _ => 0, h1, Nat.le_refl _, Nat.zero_le _, fun _ _ => (by show 0 < 256; omega), fun h => absurd h (by omega)⟩
  · simp at h1
    have hlm : len ≤ m := by rw [hmm]; split <;> omega
    have row : ∀ i, i < len → ∀ j, j < 16 → ∃ z : Nat, z < 256 ∧ W.cell? ((a.add (i * 16)).add j) = some (.int .u8 (z : Int)) := fun i hi j hj => by
      obtain ⟨cs, hc, ht2⟩ := hx i (by omega)
      rw [hce] at hc
      obtain ⟨_, hcl, hcell⟩ := World.cells?_some hc
      obtain ⟨xs, q, rfl, hx2, _, hxl, hg⟩ := DataW.trod_array he ht2
      have hgj := hg j hj
      rw [hce', Nat.mul_one, List.getElem?_eq_getElem (by omega)] at hgj
      have hdt : (List.drop j cs).take 1 = [cs[j]] := by
        rw [List.drop_eq_getElem_cons (by omega)]; rfl
      rw [hdt] at hgj
      obtain ⟨z, ez, _, wz⟩ := DataW.trod_int he' hgj
      simp at ez
      have hb2 : 0 ≤ z ∧ z ≤ 255 := by simpa [Lit.wf, IntKind.min, IntKind.max, IntKind.signed, IntKind.bits] using wz
      refine ⟨z.toNat, by omega, ?_⟩
      rw [hcell j hj, List.getElem?_eq_getElem (by omega), ez]
      congr 2; omega
    let F : Nat → Nat → Nat := fun i j => if h : i < len ∧ j < 16 then (row i h.1 j h.2).choose else 0
    have hF : ∀ i (hi : i < len) j (hj : j < 16), F i j < 256 ∧ W.cell? ((a.add (i * 16)).add j) = some (.int .u8 (F i j : Int)) := fun i hi j hj => by
      have e : F i j = (row i hi j hj).choose := dif_pos ⟨hi, hj⟩
      rw [e]; exact (row i hi j hj).choose_spec
    refine ⟨some a, len, cap, F, h1, hl, hm, fun i j => ?_, fun hn => ?_⟩
    · by_cases h : i < len ∧ j < 16
      · exact (hF i h.1 j h.2).1
      · have e : F i j = 0 := dif_neg h
        omega
    · obtain ⟨b, o, spot⟩ := a
      have hc0 := (hF 0 hn 0 (by omega)).2
      have hspot : spot = none := by simpa [Addr.add] using World.cell?_spot hc0
      subst hspot
      have hadd : ∀ i j, (((⟨b, o, none⟩ : Addr).add (i * 16)).add j) = ⟨b, o + i * 16 + j, none⟩ := fun i j => by rw [Addr.add_mid, Addr.add_mid]
      refine ⟨b, o, rfl, ?_, fun i hi j u hu => ?_⟩
      · rw [hadd] at hc0
        rcases Nat.lt_or_ge b W.heap.size with h1 | h1
        · exact h1
        · simp [World.cell?, Array.getElem?_eq_none h1] at hc0
      · obtain ⟨hj, rfl⟩ := arL_get_some hu
        rw [← hadd]; exact (hF i hi j hj).2
end Go.Proofs.YthfnpjjckpnfbaaDoor
