/-
  Contracts of layer 11 and its reference at the very arguments that its laws have; slices of bytes that a law makes on its way.
-/
import Derived.Test.YtflbpohcoghonaaDoorHad
import Derived.Test.YtflbpohcoghonaaDoorHae
import Derived.Test.YtflbpohcoghonaaDoorArg
import Derived.BigFrame
import Derived.Great.BuildSlice
import Derived.Lib.AppendZerosOnto
namespace Go.Proofs.YtflbpohcoghonaaDoor
open Go.RowKit
set_option linter.unusedVariables false
set_option maxRecDepth 100000

open Go.Shelf
theorem atF_one (s : Nat → Nat) : atF zF s 1 = dk s 2 := by
  show atF zF s (0 + 1) = _
  rw [← atF_step, atF_zero, zero_ad, show zer (0 + 1) = 0 from zer_odd 1 rfl]
theorem haF_nil (f s : Nat → Nat) : haF f s [] = fun _ => 0 := by
  unfold haF
  show adF (hsF f s (pt []) 0) (hrF f s (atF zF s 0) []) = _
  rw [hrF_no rfl (.inl rfl)]
  exact ad_zero _
/-- Bytes that lie at the beginning of a block. -/
def By (W : World) (g : Nat) (l : List UInt8) : Prop := g < W.heap.size ∧ ∀ j u, l[j]? = some u → W.cell? ⟨g, j, none⟩ = some (b8 u)
section
variable {W W' : World} {g : Nat} {l : List UInt8}
theorem By.lt (h : By W g l) : g < W.heap.size := h.1
theorem By.to (h : By W g l) (hb : Below W.heap.size W W') : By W' g l := ⟨Nat.lt_of_lt_of_le h.1 hb.size, fun j u hj => (hb.cell (p := ⟨g, j, none⟩) h.1).trans (h.2 j u hj)⟩
theorem By.drew (h : By W g l) : By W.drew g l := h
theorem By.sl {n : Nat} (h : By W g l) (hl : l.length = n) : Sl W W.heap.size (some ⟨g, 0, none⟩) n l := ⟨hl, fun _ => ⟨g, 0, rfl, h.1, fun j u hj => by rw [Nat.zero_add]; exact h.2 j u hj⟩⟩
end
theorem one_list {j : Nat} {u : UInt8} (h : [(1 : UInt8)][j]? = some u) : j = 0 ∧ u = 1 := by
  match j, h with
  | 0, h => exact ⟨rfl, (Option.some.inj h).symm⟩
theorem by1 (W : World) : By (W.alloc (.cells #[.int .u8 1] 5)) W.heap.size [1] := ⟨by simp, fun j u hj => by
  obtain ⟨rfl, rfl⟩ := one_list hj
  rw [World.cell?_alloc_at _ _ _ _ rfl]; rfl⟩
theorem l16_cells : (#[Value.int .u8 1] : Array Value) ++ Builtin.zeroCells (Value.int .u8 0).cells 15 = ((1 :: List.replicate 15 0).map b8).toArray := by kernel_rfl
theorem lt_drew_alloc (W : World) (o : Obj) : W.heap.size < (W.drew.alloc o).heap.size := by
  show W.heap.size < (W.heap.push o).size
  simp
theorem cell_drew_alloc (W : World) (A : Array Value) (t : TypeId) (j : Nat) : (W.drew.alloc (.cells A t)).cell? ⟨W.heap.size, j, none⟩ = A[j]? := World.cell?_alloc_at (w := W.drew) A t W.heap.size j rfl
theorem app15 (W : World) (g : Nat) (h : By W g [1]) : ∃ W' c, (∀ ty, (Builtin.append_ #[23, 3] ty #[.slice (some ⟨g, 0, none⟩) 1 1, .int .i64 15]).run Tryd.prog W = .ok (.slice (some ⟨W.heap.size, 0, none⟩) 16 c) W') ∧ 16 ≤ c ∧ By W' W.heap.size (1 :: List.replicate 15 0) ∧ Below W.heap.size W W' := by
  obtain ⟨i0, hi0, hz0, hz1, hz2⟩ := info_parts info8x
  have hold : (Builtin.firstCells i0.size 1 (.slice (some ⟨g, 0, none⟩) 1 1)).run Tryd.prog W.drew = .ok [Value.int .u8 1].toArray W.drew :=
    run_firstCells_some (P := Tryd.prog) W.drew i0.size 1 ⟨g, 0, none⟩ 1 1 [.int .u8 1] (by rw [hz1]; rfl) (fun j v hj => by
      match j, hj with
      | 0, hj => obtain rfl := Option.some.inj hj; exact h.drew.2 0 1 rfl)
  have hr := fun ty => Lib.run_append_grow_zeros (P := Tryd.prog) W 23 3 ty 5 i0 (.int .u8 0) .i64 .i64 Tryd.underlying23 Tryd.underlying3 hi0 hz0 (some ⟨g, 0, none⟩) 1 1 [.int .u8 1] hold 15 (by decide) (by rw [hz1]; decide) (by decide) (by decide) (by rw [hz2]; decide) (by rw [hz2]; decide)
  have hge := grownCap_ge W 16 1 5
  refine ⟨_, _, hr, hge, ⟨lt_drew_alloc _ _, fun j u hj => ?_⟩, ((Below.refl _ _).drew).alloc (Nat.le_refl _) _⟩
  have hj16 : j < 16 := (List.getElem?_eq_some_iff.1 hj).1
  rw [cell_drew_alloc]
  rw [show ([Value.int .u8 1].toArray : Array Value) = #[Value.int .u8 1] from rfl, l16_cells, Array.getElem?_append_left (by simpa using hj16), List.getElem?_toArray, List.getElem?_map, hj]
  rfl
theorem s16_oneB {w : World} {g : Nat} {b : Nat → Nat} (h : Ar w g 16 b) : S16 w (some ⟨g, 0, none⟩) 1 (fun _ => b) := fun _ => ⟨g, 0, rfl, h.lt (by omega), fun i hi => by
  obtain rfl : i = 0 := by omega
  exact h.range⟩
theorem pt_l16 : pt (1 :: List.replicate 15 0) 0 = e16 := funext fun j => by
  unfold pt lF e16
  rw [Nat.mul_zero, Nat.zero_add]
  match j with
  | 0 => rfl
  | j + 1 =>
    rw [if_neg (by omega), List.getD_cons_succ, List.getD, List.getElem?_replicate]
    split <;> rfl
theorem haF_l16 (f s : Nat → Nat) : haF f s (1 :: List.replicate 15 0) = hsF f s (fun _ => e16) 1 := by
  unfold haF
  show adF (hsF f s (pt (1 :: List.replicate 15 0)) 1) (hrF f s (atF zF s 1) []) = _
  rw [hrF_no rfl (.inl rfl), ad_zero]
  show adF zF (enF f (adF (pt (1 :: List.replicate 15 0) 0) (atF zF s 1))) = adF zF (enF f (adF e16 (atF zF s 1)))
  rw [pt_l16]
theorem haF_one (f s : Nat → Nat) : haF f s [1] = hrF f s (fun _ => 0) [1] := by
  unfold haF
  show adF zF (hrF f s (atF zF s 0) [1]) = _
  rw [zero_ad, atF_zero]
  rfl
theorem wsum_nil (q : Option Addr) (f s : Nat → Nat) (w : World) (hf : B16 f) (hs : enF f zF = s) (hm : TabM w q f) (hx : Boxes w) : Calls Tryd.prog 8 #[.pointer q, .slice none 0 0] w fun e w' => e = .returned (.agg (arL 16 (fun _ => 0)).toArray) ∧ Below w.heap.size w w' := by
  have h := hsum q f s none 0 0 [] w hf hs ⟨rfl, fun h => absurd h (by omega)⟩ (Nat.le_refl _) (by omega) hm hx
  rw [haF_nil] at h
  exact h
theorem wsum16 (q : Option Addr) (f s : Nat → Nat) (g c : Nat) (w : World) (hl : By w g (1 :: List.replicate 15 0)) (hc : 16 ≤ c) (hf : B16 f) (hs : enF f zF = s) (hm : TabM w q f) (hx : Boxes w) : Calls Tryd.prog 8 #[.pointer q, .slice (some ⟨g, 0, none⟩) 16 c] w fun e w' => e = .returned (.agg (arL 16 (hsF f s (fun _ => e16) 1)).toArray) ∧ Below w.heap.size w w' := by
  have h := hsum q f s (some ⟨g, 0, none⟩) 16 c (1 :: List.replicate 15 0) w hf hs (hl.sl rfl) hc (by omega) hm hx
  rw [haF_l16] at h
  exact h
theorem wsum1 (q : Option Addr) (f s : Nat → Nat) (g : Nat) (w : World) (hl : By w g [1]) (hf : B16 f) (hs : enF f zF = s) (hm : TabM w q f) (hx : Boxes w) : Calls Tryd.prog 8 #[.pointer q, .slice (some ⟨g, 0, none⟩) 1 1] w fun e w' => e = .returned (.agg (arL 16 (hrF f s (fun _ => 0) [1])).toArray) ∧ Below w.heap.size w w' := by
  have h := hsum q f s (some ⟨g, 0, none⟩) 1 1 [1] w hf hs (hl.sl rfl) (Nat.le_refl _) (by omega) hm hx
  rw [haF_one] at h
  exact h
theorem wrest1 (v : Value) (f s : Nat → Nat) (g : Nat) (w : World) (hl : By w g [1]) (hf : B16 f) (hs : enF f zF = s) (ht : TabC w v f) (hx : Boxes w) : Calls Tryd.prog 16 #[v, .agg (arL 16 (fun _ => 0)).toArray, .slice (some ⟨g, 0, none⟩) 1 1] w fun e w' => e = .returned (.agg (arL 16 (hrF f s (fun _ => 0) [1])).toArray) ∧ Below w.heap.size w w' := by
  have h := hrest v f (fun _ => 0) (some ⟨g, 0, none⟩) 1 1 [1] w hf zF_lt (hl.sl rfl) ht hx
  rw [hs] at h
  exact h
theorem wrest_nil (v : Value) (f : Nat → Nat) (w : World) (hf : B16 f) (ht : TabC w v f) (hx : Boxes w) : Calls Tryd.prog 16 #[v, .agg (arL 16 (fun _ => 0)).toArray, .slice none 0 0] w fun e w' => e = .returned (.agg (arL 16 (fun _ => 0)).toArray) ∧ Below w.heap.size w w' := by
  have h := hrest v f (fun _ => 0) none 0 0 [] w hf zF_lt ⟨rfl, fun h => absurd h (by omega)⟩ ht hx
  rw [hrF_no rfl (.inl rfl)] at h
  exact h
theorem wfull0 (q : Option Addr) (f s : Nat → Nat) (w : World) (hf : B16 f) (hs : enF f zF = s) (hm : TabM w q f) (hx : Boxes w) : Calls Tryd.prog 14 #[.pointer q, .slice none 0 0] w fun e w' => e = .returned (.tuple #[.agg (arL 16 (fun _ => 0)).toArray, .agg (arL 16 (fun _ => 0)).toArray]) ∧ Below w.heap.size w w' := by
  have h := hfull q f s none 0 0 (fun _ _ => 0) w hf hs (fun _ => zF_lt) (fun h => absurd h (by omega)) (by omega) hm hx
  rw [atF_zero] at h
  exact h
theorem wfull1 (q : Option Addr) (f s : Nat → Nat) (g : Nat) (w : World) (hb : Ar w g 16 e16) (hf : B16 f) (hs : enF f zF = s) (hm : TabM w q f) (hx : Boxes w) : Calls Tryd.prog 14 #[.pointer q, .slice (some ⟨g, 0, none⟩) 1 1] w fun e w' => e = .returned (.tuple #[.agg (arL 16 (hsF f s (fun _ => e16) 1)).toArray, .agg (arL 16 (dk s 2)).toArray]) ∧ Below w.heap.size w w' := by
  have h := hfull q f s (some ⟨g, 0, none⟩) 1 1 (fun _ => e16) w hf hs (fun _ => e16_lt) (s16_oneB hb) (by omega) hm hx
  rw [atF_one] at h
  exact h
theorem wtabm (gT gC : Nat) (f s : Nat → Nat) (w : World) (hs : enF f zF = s) (hT : Ti w gT (some ⟨gC, 0, none⟩) s) (hC : Ci w gC f) : TabM w (some ⟨gT, 0, none⟩) f := tabm_made _ f w (wtab gT gC f s w hs hT hC)
theorem wpList_bs_by {P : Program} {ops : Array Oper} {rest : List Oper} {op : Oper} {a : Act} {w w' : World} {Q : Exit → Act → World → Prop} (hw : Region.wanted op (yielded ops a.tmps) = true) (t : TypeId) (len : Nat) (parts : Array (Nat × Operand)) (ho : op.op = .buildSlice t len parts)
    (ps : List (Nat × Value)) (hps : parts.toList.map (fun p => (p.1, a.eval p.2)) = ps) (v : Value) (hb : (Instr.buildSlice t len ps.toArray).run P w = .ok v w') (h : wpList P ops Q rest (a.put op.dst v) w') : wpList P ops Q (op :: rest) a w :=
  BigFrame.wpList_want hw fun _ hK => by
    have e : (parts.map fun (i, x) => (i, a.eval x)) = ps.toArray := by rw [← hps]; apply Array.toList_inj.1; simp
    unfold Oper.wp execOp
    simp only [ho, e, Sem.run_bind, hb, Result.andThen_ok]
    exact hK _ _ h
theorem built16e (V : World) : (Instr.buildSlice 37 1 #[(0, .agg (arL 16 e16).toArray)]).run Tryd.prog V = .ok (.slice (some ⟨V.heap.size, 0, none⟩) 1 1) (V.alloc (.cells (arL 16 e16).toArray 22)) := built16x e16 V
end Go.Proofs.YtflbpohcoghonaaDoor
