/-
  Maps from addresses to numbers in memory: looked up, counted up. Peers in memory: the address, the number of moves, the map, or no map (a fixed peer). Contracts of package peer, each by a walk through its text.
-/
import Derived.Test.YtfpniipbdkdhlaaPea
import Derived.Test.YtfpniipbdkdhlaaBut
import Derived.DeepKeys5
import Derived.MapKept
import Derived.WideKeyEntry
import Derived.Carry
import Derived.Deep.RegionHeld3
import Derived.Maps.OwnOps
namespace Go.Proofs.Ytfpniipbdkdhlaa
open Go.RowKit Go.MapKept
set_option linter.unusedVariables false
set_option linter.unusedSimpArgs false
set_option maxRecDepth 100000

/-! ### Worlds that differ in some blocks, of whatever kind -/
structure Buc (S : Nat → Prop) (w w' : World) : Prop where
  os : w'.os = w.os
  tape : w'.tape = w.tape
  output : w'.output = w.output
  size : w.heap.size ≤ w'.heap.size
  block : ∀ k, k < w.heap.size → ¬ S k → w'.heap[k]? = w.heap[k]?
/-- Two blocks. -/
def Tw (g m : Nat) : Nat → Prop := fun k => k = g ∨ k = m
section
variable {S : Nat → Prop} {w W W' : World} {g m n : Nat} {c : Nat → Value}
theorem Tw.ne {k : Nat} (h : k ≠ g) (h2 : k ≠ m) : ¬ Tw g m k := fun e => e.elim h h2
theorem Buc.of (h : Below w.heap.size w W) : Buc S w W := ⟨h.os, h.tape, h.output, h.size, fun k hk _ => h.block k hk⟩
theorem Buc.refl (S : Nat → Prop) (w : World) : Buc S w w := Buc.of (Below.refl _ _)
theorem Buc.drew (h : Buc S w W) : Buc S w W.drew := ⟨h.os, h.tape, h.output, h.size, h.block⟩
theorem Buc.trans (h : Buc S w W) (k : Buc S W W') : Buc S w W' :=
  ⟨k.os.trans h.os, k.tape.trans h.tape, k.output.trans h.output, Nat.le_trans h.size k.size, fun i hi hs => (k.block i (Nat.lt_of_lt_of_le hi h.size) hs).trans (h.block i hi hs)⟩
theorem Buc.then (h : Buc S w W) (k : Below W.heap.size W W') : Buc S w W' := h.trans (Buc.of k)
theorem Buc.set (h : Buc S w W) {p : Addr} (hp : S p.block) (u : Value) : Buc S w (W.setCell p u) := by
  have hb := (Below.refl 0 W).setCell (p := p) (Nat.zero_le _) u
  exact h.trans ⟨hb.os, hb.tape, hb.output, hb.size, fun k hk h1 => Below.heap_setCell W p u k (fun e => h1 (e ▸ hp))⟩
theorem Buc.below {B : Nat} (h : Buc S w W) (hB : B ≤ w.heap.size) (hS : ∀ k, S k → B ≤ k) : Below B w W := ⟨h.os, h.tape, h.output, h.size, fun k hk => h.block k (by omega) (fun e => by have := hS k e; omega)⟩
theorem Buc.tw {B : Nat} (h : Buc (Tw g m) w W) (hB : B ≤ w.heap.size) (hg : B ≤ g) (hm : B ≤ m) : Below B w W := h.below hB (fun k e => by rcases e with rfl | rfl <;> assumption)
theorem Cx.buc {k : Nat} (h : Cx w k n c) (hb : Buc S w W) (hs : ¬ S k) (hn : 0 < n := by omega) : Cx W k n c := cx_blk h (hb.block k (h.lt hn) hs)
end
/-! ### Maps -/
theorem laidOut21 : laidOutB Try.prog = true := by kernel_rfl
theorem place_law : WideMaps.KeyLaw Try.prog 38 :=
  deep_law_gate laidOut21 (by rw [show Try.prog.types.size = 67 by kernel_rfl]; decide) (by rw [show Try.prog.types.size = 67 by kernel_rfl]; decide) (by kernel_rfl) (by rw [Try.underlying38])
/-- An address as a key. -/
def kyV (s : ByteArray) : Value := .agg #[.string s]
theorem kyV_inj {a b : ByteArray} (h : kyV a = kyV b) : a = b := by
  unfold kyV at h
  simp at h
  exact h
theorem key_of {s : ByteArray} (hs : s.size ≤ maxLen) : ∃ l, keyOf Try.prog 38 (kyV s) = some l := by
  have hk : Try.prog.keyType 38 = true := by kernel_rfl
  have hf : (kyV s).formed Try.prog 38 = true := by
    unfold kyV Value.formed
    rw [Try.underlying38, show Try.prog.cellsOf 38 = 1 by kernel_rfl]
    rfl
  have hl : Try.prog.keyLits (Try.prog.types.size + 1) 38 (kyV s).cells.toList = some [.string s.data.toList] := by
    have e : (kyV s).cells.toList = [.string s] := rfl
    have ez : Try.prog.types.size + 1 = (67 - 1) + 1 + 1 := by rw [show Try.prog.types.size = 67 by kernel_rfl]
    rw [e, ez]
    unfold Program.keyLits
    rw [Try.underlying38]
    dsimp only
    rw [show Try.prog.cellsOf 38 = 1 by kernel_rfl]
    unfold Program.keyLits
    simp [Try.underlying9, show Try.prog.cellsOf 9 = 1 by kernel_rfl, hs]
  unfold keyOf
  rw [Try.underlying38]
  dsimp only
  rw [hk, hf, hl]
  exact ⟨_, rfl⟩
theorem max_len {s : ByteArray} (hs : s.size ≤ 9223372036854775807) : s.size ≤ maxLen := by unfold maxLen; omega
def upC (c : ByteArray → Nat) (s : ByteArray) : ByteArray → Nat := fun t => if t = s then c s + 1 else c t
/-- The entries count as c does. -/
structure Mc (es : Array MapEntry) (clock : Nat) (c : ByteArray → Nat) : Prop where
  stamped : Stamped es clock
  read : ∀ x ∈ es.toList, ∃ s, s.size ≤ 9223372036854775807 ∧ x.key = kyV s ∧ x.val = .int .i64 (c s : Nat)
  has : ∀ s, c s ≠ 0 → ∃ x ∈ es.toList, x.key = kyV s
/-- Block m is a map that counts as c does. -/
def Mp (w : World) (m : Nat) (c : ByteArray → Nat) : Prop := ∃ es clock, w.heap[m]? = some (.map es clock) ∧ Mc es clock c
/-- .. and the entry at s bears the stamp st. -/
def Ms (w : World) (m : Nat) (c : ByteArray → Nat) (s : ByteArray) (st : Nat) : Prop := ∃ es clock, w.heap[m]? = some (.map es clock) ∧ Mc es clock c ∧ ∃ (j : Nat) (e : MapEntry), es[j]? = some e ∧ e.born = st ∧ e.key = kyV s
theorem Ms.mp {w : World} {m st : Nat} {c : ByteArray → Nat} {s : ByteArray} (h : Ms w m c s st) : Mp w m c := by obtain ⟨es, k, h1, h2, _⟩ := h; exact ⟨es, k, h1, h2⟩
theorem Mc.keys {es : Array MapEntry} {clock : Nat} {c : ByteArray → Nat} (h : Mc es clock c) : ∀ e ∈ es.toList, ∃ l, keyOf Try.prog 38 e.key = some l := fun e he => by
  obtain ⟨s, hs, hk, _⟩ := h.read e he
  rw [hk]
  exact key_of (max_len hs)
theorem Mp.lt {w : World} {m : Nat} {c : ByteArray → Nat} (h : Mp w m c) : m < w.heap.size := by obtain ⟨es, k, h1, _⟩ := h; exact (Array.getElem?_eq_some_iff.1 h1).1
theorem Mp.blk {w W : World} {m : Nat} {c : ByteArray → Nat} (h : Mp w m c) (he : W.heap[m]? = w.heap[m]?) : Mp W m c := by obtain ⟨es, k, h1, h2⟩ := h; exact ⟨es, k, he.trans h1, h2⟩
theorem Mp.new (w : World) : Mp (w.alloc (.map #[] 0)) w.heap.size (fun _ => 0) := ⟨#[], 0, (MapKept.heap_alloc w _).1, ⟨stamped_empty 0, fun x hx => by simp at hx, fun s hs => absurd rfl hs⟩⟩
theorem find_cases {es : Array MapEntry} {clock : Nat} {c : ByteArray → Nat} (h : Mc es clock c) (w : World) {s : ByteArray} (hs : s.size ≤ 9223372036854775807) :
    ((Instr.findKey 38 (kyV s) es.toList).run Try.prog w = .ok none w ∧ (∀ e ∈ es.toList, e.key ≠ kyV s) ∧ c s = 0) ∨ ∃ j e, (Instr.findKey 38 (kyV s) es.toList).run Try.prog w = .ok (some (j, .int .i64 (c s : Nat))) w ∧ es[j]? = some e ∧ e.key = kyV s ∧ e.val = .int .i64 (c s : Nat) := by
  obtain ⟨l, hl⟩ := key_of (max_len hs)
  rcases place_law.find w hl es.toList h.keys with ⟨h1, h2⟩ | ⟨j, e, h1, h2, h3⟩
  · refine .inl ⟨h1, h2, ?_⟩
    rcases Nat.eq_zero_or_pos (c s) with h0 | h0
    · exact h0
    · obtain ⟨x, hx, hk⟩ := h.has s (by omega)
      exact absurd hk (h2 x hx)
  · have he : e ∈ es.toList := List.mem_of_getElem? h2
    obtain ⟨t, _, hk, hv⟩ := h.read e he
    obtain rfl : t = s := kyV_inj (hk.symm.trans h3)
    exact .inr ⟨j, e, by rw [← hv]; exact h1, by simpa using h2, h3, hv⟩
theorem zero_int (w : World) : (zeroValue 3).run Try.prog w = .ok (.int .i64 0) w := Try.zeroValue3 w
theorem look_at {w : World} {m : Nat} {c : ByteArray → Nat} (h : Mp w m c) {s : ByteArray} (hs : s.size ≤ 9223372036854775807) : (Instr.lookup 40 (.map (some m)) (kyV s) false).run Try.prog w = .ok (.int .i64 (c s : Nat)) w := by
  obtain ⟨es, clock, hb, hM⟩ := h
  obtain ⟨l, hl⟩ := key_of (max_len hs)
  rcases find_cases hM w hs with ⟨h1, _, h0⟩ | ⟨j, e, h1, _, _, _⟩
  · simp [Instr.lookup, run_underlying Try.underlying40, MapKept.run_getObj_map hb, place_law.check w _ hl, h1, zero_int, Result.andThen, h0]
  · simp [Instr.lookup, run_underlying Try.underlying40, MapKept.run_getObj_map hb, place_law.check w _ hl, h1, Result.andThen]
theorem look_nil (w : World) {s : ByteArray} (hs : s.size ≤ 9223372036854775807) : (Instr.lookup 40 (.map none) (kyV s) false).run Try.prog w = .ok (.int .i64 0) w := by
  obtain ⟨l, hl⟩ := key_of (max_len hs)
  have hf : (Instr.findKey 38 (kyV s) []).run Try.prog w = .ok none w := by
    rcases place_law.find w hl [] (fun e he => by cases he) with ⟨h1, _⟩ | ⟨j, e, _, h2, _⟩
    · exact h1
    · simp at h2
  simp [Instr.lookup, run_underlying Try.underlying40, place_law.check w _ hl, hf, zero_int, Result.andThen]
/-- The block m is another map. -/
def mapW (w : World) (m : Nat) (o : Obj) : World := { w with heap := w.heap.setIfInBounds m o }
theorem mapW_buc {w : World} {m : Nat} {es : Array MapEntry} {clock : Nat} (hb : w.heap[m]? = some (.map es clock)) (o : Obj) : Buc (On m) w (mapW w m o) ∧ (mapW w m o).heap[m]? = some o :=
  ⟨⟨rfl, rfl, rfl, by simp [mapW], fun k _ hk => (heap_set hb).2 k hk⟩, (heap_set hb).1⟩
theorem entry_at {w : World} {m : Nat} {c : ByteArray → Nat} (h : Mp w m c) {s : ByteArray} (hs : s.size ≤ 9223372036854775807) :
    ∃ st W, (Instr.mapEntry 40 (.map (some m)) (kyV s)).run Try.prog w = .ok (.tuple #[.int .i64 (c s : Nat), .int .i64 ((st : Nat) : Int)]) W ∧ Ms W m c s st ∧ Buc (On m) w W := by
  obtain ⟨es, clock, hb, hM⟩ := h
  obtain ⟨l, hl⟩ := key_of (max_len hs)
  rcases find_cases hM w hs with ⟨h1, h2, h0⟩ | ⟨j, e, h1, h2, h3, h4⟩
  · obtain ⟨hB, hn⟩ := mapW_buc hb (.map (es.push ⟨kyV s, .int .i64 0, clock⟩) (clock + 1))
    refine ⟨clock, mapW w m (.map (es.push ⟨kyV s, .int .i64 0, clock⟩) (clock + 1)), ?_, ⟨_, _, hn, ⟨stamped_push hM.stamped h2, ?_, ?_⟩, es.size, _, Array.getElem?_push_size, rfl, rfl⟩, hB⟩
    · simp [Instr.mapEntry, run_underlying Try.underlying40, MapKept.run_getObj_map hb, place_law.check w false hl, h1, zero_int, MapKept.run_setObj_map _ hb, Result.andThen, mapW, h0, goInt]
    · intro x hx
      simp only [Array.toList_push, List.mem_append, List.mem_singleton] at hx
      rcases hx with hx | rfl
      · exact hM.read x hx
      · exact ⟨s, hs, rfl, by rw [h0]; rfl⟩
    · intro t ht
      obtain ⟨x, hx, hk⟩ := hM.has t ht
      exact ⟨x, by simp [hx], hk⟩
  · have hsame : es.modify j (fun e' => { e' with key := kyV s }) = es := by
      apply Array.ext'
      apply List.ext_getElem?
      intro i
      rw [Array.toList_modify, List.getElem?_modify]
      split
      · rename_i hij
        subst hij
        rw [show es.toList[j]? = some e by simpa using h2]
        simp [← h3]
      · simp
    obtain ⟨hB, hn⟩ := mapW_buc hb (.map es clock)
    refine ⟨e.born, mapW w m (.map es clock), ?_, ⟨_, _, hn, hM, j, e, h2, rfl, h3⟩, hB⟩
    simp [Instr.mapEntry, run_underlying Try.underlying40, MapKept.run_getObj_map hb, place_law.check w false hl, h1, h2, h3, place_law.stays w hl, hsame, MapKept.run_setObj_map _ hb, Result.andThen, mapW, goInt]
theorem store_at {w : World} {m st : Nat} {c : ByteArray → Nat} {s : ByteArray} (h : Ms w m c s st) (x : Nat) (hx : c s + 1 = x) :
    ∃ W, (Instr.entryStore 40 (.map (some m)) (.int .i64 ((st : Nat) : Int)) (.int .i64 ((x : Nat) : Int))).run Try.prog w = .ok () W ∧ Mp W m (upC c s) ∧ Buc (On m) w W := by
  obtain ⟨es, clock, hb, hM, j, e, hj, rfl, hk⟩ := h
  have hjl : es.toList[j]? = some e := by simpa using hj
  have hidx : es.findIdx? (fun e' => ((e'.born : Nat) : Int) == ((e.born : Nat) : Int)) = some j := by
    rw [show es.findIdx? (fun e' => ((e'.born : Nat) : Int) == ((e.born : Nat) : Int)) = es.toList.findIdx? (fun e' => ((e'.born : Nat) : Int) == ((e.born : Nat) : Int)) by cases es; simp]
    exact WideElems.findIdx_born hM.stamped.2.1 hjl
  obtain ⟨hB, hn⟩ := mapW_buc hb (.map (es.modify j (fun e' => { e' with val := .int .i64 ((x : Nat) : Int) })) clock)
  have hat : ∀ i, (es.modify j (fun e' => { e' with val := .int .i64 ((x : Nat) : Int) })).toList[i]? = if i = j then some { e with val := .int .i64 ((x : Nat) : Int) } else es.toList[i]? := fun i => by
    rw [Array.toList_modify, List.getElem?_modify]
    by_cases hij : i = j
    · subst hij; rw [if_pos rfl, hjl]; simp
    · have h9 : ¬ j = i := fun e1 => hij e1.symm
      rw [if_neg hij]; simp [h9]
  have hother : ∀ i y, i ≠ j → es.toList[i]? = some y → y.key ≠ kyV s := fun i y hij hy e1 => by
    have hp := (stamped_iff es clock).1 hM.stamped |>.2.2
    rw [List.pairwise_iff_getElem] at hp
    obtain ⟨hi1, hi2⟩ := List.getElem?_eq_some_iff.1 hy
    obtain ⟨hj1, hj2⟩ := List.getElem?_eq_some_iff.1 hjl
    rcases Nat.lt_or_ge i j with h3 | h3
    · exact hp i j hi1 hj1 h3 (by rw [hi2, hj2, e1, hk])
    · exact hp j i hj1 hi1 (by omega) (by rw [hi2, hj2, e1, hk])
  refine ⟨mapW w m (.map (es.modify j (fun e' => { e' with val := .int .i64 ((x : Nat) : Int) })) clock), ?_, ⟨_, _, hn, stamped_modify hM.stamped _ _ (fun _ _ => rfl) (fun _ _ _ => rfl), ?_, ?_⟩, hB⟩
  · simp [Instr.entryStore, MapKept.run_getObj_map hb, asInt, asIntOf, hidx, MapKept.run_setObj_map _ hb, Result.andThen, mapW]
  · intro y hy
    obtain ⟨i, hi⟩ := List.mem_iff_getElem?.1 hy
    rw [hat i] at hi
    by_cases hij : i = j
    · rw [if_pos hij] at hi
      obtain rfl := Option.some.inj hi
      obtain ⟨t, ht, hk2, _⟩ := hM.read e (List.mem_of_getElem? hjl)
      obtain rfl : t = s := kyV_inj (hk2.symm.trans hk)
      exact ⟨t, ht, hk, by show _ = Value.int .i64 ((upC c t t : Nat) : Int); unfold upC; rw [if_pos rfl, hx]⟩
    · rw [if_neg hij] at hi
      obtain ⟨t, ht, hk2, hv⟩ := hM.read y (List.mem_of_getElem? hi)
      have hts : t ≠ s := fun e1 => hother i y hij hi (by rw [hk2, e1])
      exact ⟨t, ht, hk2, by rw [hv]; unfold upC; rw [if_neg hts]⟩
  · intro t ht
    by_cases hts : t = s
    · subst hts
      exact ⟨{ e with val := .int .i64 ((x : Nat) : Int) }, List.mem_iff_getElem?.2 ⟨j, by rw [hat j, if_pos rfl]⟩, hk⟩
    · unfold upC at ht
      rw [if_neg hts] at ht
      obtain ⟨y, hy, hk2⟩ := hM.has t ht
      obtain ⟨i, hi⟩ := List.mem_iff_getElem?.1 hy
      have hij : i ≠ j := fun e1 => by
        subst e1
        rw [hjl] at hi
        obtain rfl := Option.some.inj hi
        exact hts (kyV_inj (hk2.symm.trans hk))
      exact ⟨y, List.mem_iff_getElem?.2 ⟨i, by rw [hat i, if_neg hij]; exact hi⟩, hk2⟩
end Go.Proofs.Ytfpniipbdkdhlaa
