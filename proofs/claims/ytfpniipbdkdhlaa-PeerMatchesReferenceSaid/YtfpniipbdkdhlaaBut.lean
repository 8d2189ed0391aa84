/-
  Worlds that differ in some blocks (a set of addresses): all else that was there is as it was. No condition; nothing of the program is named here.
-/
import Derived.Test.YtfpniipbdkdhlaaFre
import Derived.RangeFuncBox
namespace Go.Proofs.Ytfpniipbdkdhlaa
open Go.RowKit
set_option linter.unusedVariables false

/-- All that was there is as it was, but for the blocks in S; what is new may be anything. -/
structure But (S : Nat → Prop) (w w' : World) : Prop where
  os : w'.os = w.os
  tape : w'.tape = w.tape
  output : w'.output = w.output
  size : w.heap.size ≤ w'.heap.size
  block : ∀ k, k < w.heap.size → ¬ S k → w'.heap[k]? = w.heap[k]?
  alike : ∀ (k : Nat) (o : Obj), w.heap[k]? = some o → o.isCells = false → w'.heap[k]? = some o
/-- One block. -/
def On (g : Nat) : Nat → Prop := fun k => k = g
section
variable {S T : Nat → Prop} {w W W' : World} {g n : Nat} {c : Nat → Value}
theorem On.ne {g k : Nat} (h : k ≠ g) : ¬ On g k := h
theorem But.of (h : Below w.heap.size w W) : But S w W := ⟨h.os, h.tape, h.output, h.size, fun k hk _ => h.block k hk, fun k o hk _ => (h.block k (Array.getElem?_eq_some_iff.1 hk).1).trans hk⟩
theorem But.refl (S : Nat → Prop) (w : World) : But S w w := But.of (Below.refl _ _)
theorem But.drew (h : But S w W) : But S w W.drew := ⟨h.os, h.tape, h.output, h.size, h.block, h.alike⟩
theorem But.trans (h : But S w W) (k : But S W W') : But S w W' :=
  ⟨k.os.trans h.os, k.tape.trans h.tape, k.output.trans h.output, Nat.le_trans h.size k.size,
   fun i hi hs => (k.block i (Nat.lt_of_lt_of_le hi h.size) hs).trans (h.block i hi hs), fun i o hi ho => k.alike i o (h.alike i o hi ho) ho⟩
theorem But.more (h : But S w W) (hT : ∀ k, S k → T k) : But T w W := ⟨h.os, h.tape, h.output, h.size, fun k hk hs => h.block k hk (fun e => hs (hT k e)), h.alike⟩
/-- What is new at the beginning may be written behind it. -/
theorem But.then (h : But S w W) (k : But T W W') (hT : ∀ i, i < w.heap.size → T i → S i) : But S w W' :=
  ⟨k.os.trans h.os, k.tape.trans h.tape, k.output.trans h.output, Nat.le_trans h.size k.size,
   fun i hi hs => (k.block i (Nat.lt_of_lt_of_le hi h.size) (fun e => hs (hT i hi e))).trans (h.block i hi hs), fun i o hi ho => k.alike i o (h.alike i o hi ho) ho⟩
theorem But.set (h : But S w W) {p : Addr} (hp : S p.block) (u : Value) : But S w (W.setCell p u) := by
  have hb := (Below.refl 0 W).setCell (p := p) (Nat.zero_le _) u
  exact ⟨hb.os.trans h.os, hb.tape.trans h.tape, hb.output.trans h.output, Nat.le_trans h.size hb.size,
    fun k hk h1 => (Below.heap_setCell W p u k (fun e => h1 (e ▸ hp))).trans (h.block k hk h1), fun k o hk ho => (KeepsOthers.setCell W p u).same k o (h.alike k o hk ho) ho⟩
theorem But.put (h : But (On g) w W) (o : Nat) (u : Value) : But (On g) w (W.setCell ⟨g, o, none⟩ u) := h.set (p := ⟨g, o, none⟩) rfl u
theorem But.below {B : Nat} (h : But S w W) (hB : B ≤ w.heap.size) (hS : ∀ k, S k → B ≤ k) : Below B w W := ⟨h.os, h.tape, h.output, h.size, fun k hk => h.block k (by omega) (fun e => by have := hS k e; omega)⟩
theorem But.on {B : Nat} (h : But (On g) w W) (hB : B ≤ w.heap.size) (hg : B ≤ g) : Below B w W := h.below hB (fun k e => by cases e; exact hg)
theorem But.keepsFrom (h : But S w W) (n : Nat) : KeepsFrom n w W := ⟨h.size, fun k o _ hk ho => h.alike k o hk ho⟩
theorem But.heap {k : Nat} (h : But S w W) (hk : k < w.heap.size) (hs : ¬ S k) : W.heap[k]? = w.heap[k]? := h.block k hk hs
theorem cx_blk {k : Nat} (h : Cx w k n c) (he : W.heap[k]? = w.heap[k]?) : Cx W k n c := fun j hj => by
  refine ⟨?_, ?_⟩
  · have := (h j hj).1; simp only [World.cell?] at this ⊢; rw [he]; exact this
  · have := (h j hj).2; simp only [World.frozen?] at this ⊢; rw [he]; exact this
theorem Cx.but (h : Cx w g n c) (hb : But S w W) (hs : ¬ S g) (hn : 0 < n := by omega) : Cx W g n c := cx_blk h (hb.block g (h.lt hn) hs)
theorem Sl.but {A : Option Addr} {B m : Nat} {l : List UInt8} (h : Sl w B A m l) (hb : But S w W) (hB : B ≤ w.heap.size) (hs : ∀ k, S k → B ≤ k) : Sl W B A m l := h.below (hb.below hB hs)
end
/-- A result that is a struct in a block of its own. -/
theorem results_cx {P : Program} {fn : Func} {T : Array Value} {w : World} {p : Tmp} {ty : TypeId} {d : TypeDesc} {g n : Nat} {c : Nat → Value} (hr : fn.results = #[.cell p ty]) (hp : T.getD p undef = .pointer (some ⟨g, 0, none⟩))
    (hA : Cx w g n c) (hu : P.underlying ty = some d) (hd : d.isRow = true) (hi : (P.info? ty).map (·.size) = some (cxL n c).length) :
    (results fn T).run P w = .ok (.agg (cxL n c).toArray) w := by
  have hp' : T[p]?.getD undef = .pointer (some ⟨g, 0, none⟩) := by simpa using hp
  have hc : w.rangeAt g 0 (cxL n c) := hA.range 0 _ (by rw [cxL_len]; omega) (fun j v hv => by rw [Nat.zero_add]; exact (cxL_get_some hv).2.symm)
  simp only [results, hr]
  simp [hp', asAddr, run_loadVar_mid (P := P) w g 0 ty (cxL n c) _ hc hu hd hi]
/-- A struct or an array among the types. -/
theorem row_of {P : Program} {t : TypeId} (h : (P.underlying t).map (·.isRow) = some true) : ∃ d, P.underlying t = some d ∧ d.isRow = true := by
  cases hu : P.underlying t with
  | none => rw [hu] at h; cases h
  | some d => rw [hu] at h; exact ⟨d, rfl, Option.some.inj h⟩
end Go.Proofs.Ytfpniipbdkdhlaa
