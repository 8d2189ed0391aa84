/-
  Blocks of bytes that are known whole, copies into them; slices of bytes as functions of the index. No condition; nothing of the program is named here but the types of bytes.
-/
import Derived.Test.YtblhfmlgpldaeaaDoorBrg
import Derived.Laws.CopyOwn
import Derived.Laws.MakeOwn
import Derived.Deep.RegionLaw
namespace Go.Proofs.YtblhfmlgpldaeaaDoor
open Go.RowKit
set_option linter.unusedVariables false
set_option maxRecDepth 100000

theorem splice_ar (n m : Nat) (F G : Nat → Nat) (o : Nat) (h : o + m ≤ n) : splice (arL n F) o (arL m G) = arL n (fun i => if o ≤ i ∧ i < o + m then G (i - o) else F i) := by
  apply List.ext_getElem?
  intro j
  unfold splice
  have l1 : ((arL n F).take o).length = o := by rw [List.length_take, arL_len]; omega
  rcases Nat.lt_or_ge j n with h1 | h1
  · rw [arL_get n _ j h1]
    rcases Nat.lt_or_ge j o with h2 | h2
    · rw [List.getElem?_append_left (by omega), List.getElem?_take, if_pos h2, arL_get n F j h1, if_neg (by omega)]
    · rw [List.getElem?_append_right (by omega), l1]
      rcases Nat.lt_or_ge (j - o) m with h3 | h3
      · rw [List.getElem?_append_left (by rw [arL_len]; exact h3), arL_get m G _ h3, if_pos (by omega)]
      · rw [List.getElem?_append_right (by rw [arL_len]; exact h3), arL_len, List.getElem?_drop, show o + m + (j - o - m) = j by omega, arL_get n F j h1, if_neg (by omega)]
  · rw [List.getElem?_eq_none (l := arL n _) (by rw [arL_len]; exact h1), List.getElem?_eq_none (by rw [List.length_append, l1, List.length_append, arL_len, List.length_drop, arL_len]; omega)]
/-- A block of bytes, known whole. -/
def Wb (w : World) (g n : Nat) (F : Nat → Nat) (t : TypeId) : Prop := w.heap[g]? = some (.cells (arL n F).toArray t (0, 0))
theorem Wb.new (w : World) (n : Nat) (F : Nat → Nat) (t : TypeId) : Wb (w.alloc (.cells (arL n F).toArray t)) w.heap.size n F t := by
  show (w.heap.push _)[w.heap.size]? = _
  rw [Array.getElem?_push_size]
section
variable {w w' : World} {g n : Nat} {F : Nat → Nat} {t : TypeId}
theorem Wb.lt (h : Wb w g n F t) : g < w.heap.size := by
  rcases Nat.lt_or_ge g w.heap.size with h1 | h1
  · exact h1
  · unfold Wb at h; rw [Array.getElem?_eq_none h1] at h; cases h
theorem Wb.to (h : Wb w g n F t) (hb : Below w.heap.size w w') : Wb w' g n F t := (hb.block g h.lt).trans h
theorem Wb.keep {B : Nat} (h : Wb w g n F t) (hg : g < B) (hb : Below B w w') : Wb w' g n F t := (hb.block g hg).trans h
theorem Wb.alloc (h : Wb w g n F t) (o : Obj) : Wb (w.alloc o) g n F t := h.to ((Below.refl _ _).alloc (Nat.le_refl _) o)
theorem Wb.ar (h : Wb w g n F t) : Ar w g n F := fun j hj => by
  unfold Wb at h
  refine ⟨?_, ?_⟩
  · simp only [World.cell?, h]
    simp
    exact arL_get n F j hj
  · simp only [World.frozen?, h]
    simp
theorem Wb.ext {F' : Nat → Nat} (h : Wb w g n F t) (he : ∀ j, j < n → F j = F' j) : Wb w g n F' t := by
  unfold Wb; rw [← arL_ext he]; exact h
theorem Ar.src (h : Ar w g n F) : ∀ j v, (arL n F)[j]? = some v → w.cell? ((⟨g, 0, none⟩ : Addr).add j) = some v := fun j v hv => by
  rw [Addr.add_mid]; exact h.range j v hv
end
/-- The bytes of a list as cells. -/
theorem lF_lt (l : List UInt8) (j : Nat) : lF l j < 256 := UInt8.toNat_lt _
theorem map_lF (l : List UInt8) (n : Nat) (h : l.length = n) : l.map b8 = arL n (lF l) := by
  apply List.ext_getElem?
  intro j
  rcases Nat.lt_or_ge j n with h1 | h1
  · rw [arL_get n _ j h1, List.getElem?_map, List.getElem?_eq_getElem (by omega)]
    simp [b8, n8, lF, List.getD, List.getElem?_eq_getElem (show j < l.length by omega)]
  · rw [List.getElem?_eq_none (by simp; omega), List.getElem?_eq_none (by rw [arL_len]; exact h1)]
theorem Sl.of_ar {w : World} {g n : Nat} {l : List UInt8} (h : Ar w g n (lF l)) (hl : l.length = n) (hg : g < w.heap.size) : Sl w w.heap.size (some ⟨g, 0, none⟩) n l :=
  ⟨hl, fun hn => ⟨g, 0, rfl, hg, fun j u hj => by
    have hjl : j < l.length := (List.getElem?_eq_some_iff.1 hj).1
    rw [Nat.zero_add, (h j (by omega)).1]
    have e : l[j] = u := by rw [List.getElem?_eq_getElem hjl] at hj; exact Option.some.inj hj
    simp [b8, lF, List.getD, List.getElem?_eq_getElem hjl, e]⟩⟩
theorem Sl.src {w : World} {B n : Nat} {A : Option Addr} {l : List UInt8} (h : Sl w B A n l) (hn : 0 < n) : ∃ ad, A = some ad ∧ ∀ j v, (l.map b8)[j]? = some v → w.cell? (ad.add j) = some v := by
  obtain ⟨b, off, e, hb, hc⟩ := h.2 hn
  refine ⟨⟨b, off, none⟩, e, fun j v hv => ?_⟩
  rw [List.getElem?_map] at hv
  obtain ⟨u, hu, rfl⟩ := Option.map_eq_some_iff.1 hv
  rw [Addr.add_mid]; exact hc j u hu
theorem Tryd.sl8 : Tryd.prog.underlying 66 = some (.slice 5) := by kernel_rfl
theorem Tryd.sz8 : (Tryd.prog.info? 5).map (·.size) = some 1 := by kernel_rfl
theorem slice16h (g n : Nat) (hn : n ≤ 16) (w : World) : (Instr.sliceAt 22 (.pointer (some ⟨g, 0, none⟩)) none (some (.int .i64 (n : Int))) none).run Tryd.prog w = .ok (.slice (some ⟨g, 0, none⟩) n 16) w := by
  have hal : Tryd.prog.arrayLen 22 = 16 := by simp [Program.arrayLen]
  have hel : Tryd.prog.elem 22 = 5 := by simp [Program.elem]
  have hs : (sizeOf 5).run Tryd.prog w = .ok 1 w := by kernel_rfl
  rw [run_sliceAt_array_h w 22 ⟨g, 0, none⟩ (by rw [hal, hel]; exact Tryd.arr16x) .i64 (n : Int) (by omega) (by rw [hal]; omega), hal, hel, hs]
  simp [Result.andThen_ok, slicedAt, Addr.add]
theorem make8 (n : Nat) (hn : n ≤ 1000000) (V : World) : (Instr.makeSlice 66 (.int .i64 (n : Int)) (.int .i64 (n : Int))).run Tryd.prog V = .ok (.slice (some ⟨V.heap.size, 0, none⟩) n n) (V.alloc (.cells (arL n fun _ => 0).toArray 5)) := by
  have hi := info8x
  cases hq : Tryd.prog.info? 5 with
  | none => rw [hq] at hi; cases hi
  | some i =>
    rw [hq] at hi
    simp only [Option.map_some, Option.some.injEq, Prod.mk.injEq] at hi
    obtain ⟨h1, h2, h3⟩ := hi
    have h := run_make (P := Tryd.prog) V 66 5 i _ Tryd.underlying66 hq h1 .i64 .i64 n n (by omega) (by omega) (by rw [h3]; omega) (by omega)
    have hm : madeCells (Value.int .u8 0).cells n = (arL n fun _ => 0).toArray := by
      rw [arL_zero]
      unfold madeCells
      apply Array.ext_getElem?
      intro j
      rcases Nat.lt_or_ge j n with hj | hj
      · simp [hj, Value.cells, Nat.mod_one]
      · simp [hj]
    rw [h, h2, Int.toNat_natCast, Nat.mul_one, hm]

end Go.Proofs.YtblhfmlgpldaeaaDoor
