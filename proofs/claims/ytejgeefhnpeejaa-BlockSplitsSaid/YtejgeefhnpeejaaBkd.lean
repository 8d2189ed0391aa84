/-
  Blocks of bytes that are known whole, copies into them; slices of bytes as functions of the index. No condition; nothing of the program is named here but the types of bytes.
-/
import Derived.Test.YtejgeefhnpeejaaBrg
import Derived.Laws.CopyOwn
import Derived.Laws.MakeOwn
import Derived.Deep.RegionLaw
namespace Go.Proofs.Ytejgeefhnpeejaa
open Go.RowKit
set_option linter.unusedVariables false
set_option maxRecDepth 100000

theorem splice_ar (n m : Nat) (F G : Nat → Nat) (o : Nat) (h : o + m ≤ n) : splice (arL n F) o (arL m G) = arL n (fun i => if o ≤ i ∧ i < o + m then G (i - o) else F i) := by
  apply List.ext_getElem?
  intro j
  unfold splice
  have l1 : ((arL n F).take o).length = o := by rw [List.length_take, arL_len]; omega
  rcases Nat.lt_or_ge j n with h1 | h1
  · rw [arL_get n _ j h1]
    rcases Nat.lt_or_ge j o with h2 | h2
    · rw [List.getElem?_append_left (by omega), List.getElem?_take, if_pos h2, arL_get n F j h1, if_neg (by omega)]
    · rw [List.getElem?_append_right (by omega), l1]
      rcases Nat.lt_or_ge (j - o) m with h3 | h3
      · rw [List.getElem?_append_left (by rw [arL_len]; exact h3), arL_get m G _ h3, if_pos (by omega)]
      · rw [List.getElem?_append_right (by rw [arL_len]; exact h3), arL_len, List.getElem?_drop, show o + m + (j - o - m) = j by omega, arL_get n F j h1, if_neg (by omega)]
  · rw [List.getElem?_eq_none (l := arL n _) (by rw [arL_len]; exact h1), List.getElem?_eq_none (by rw [List.length_append, l1, List.length_append, arL_len, List.length_drop, arL_len]; omega)]
/-- A block of bytes, known whole. -/
def Wb (w : World) (g n : Nat) (F : Nat → Nat) (t : TypeId) : Prop := w.heap[g]? = some (.cells (arL n F).toArray t (0, 0))
theorem Wb.new (w : World) (n : Nat) (F : Nat → Nat) (t : TypeId) : Wb (w.alloc (.cells (arL n F).toArray t)) w.heap.size n F t := by
  show (w.heap.push _)[w.heap.size]? = _
  rw [Array.getElem?_push_size]
section
variable {w w' : World} {g n : Nat} {F : Nat → Nat} {t : TypeId}
theorem Wb.lt (h : Wb w g n F t) : g < w.heap.size := by
  rcases Nat.lt_or_ge g w.heap.size with h1 | h1
  · exact h1
  · unfold Wb at h; rw [Array.getElem?_eq_none h1] at h; cases h
theorem Wb.to (h : Wb w g n F t) (hb : Below w.heap.size w w') : Wb w' g n F t := (hb.block g h.lt).trans h
theorem Wb.keep {B : Nat} (h : Wb w g n F t) (hg : g < B) (hb : Below B w w') : Wb w' g n F t := (hb.block g hg).trans h
theorem Wb.alloc (h : Wb w g n F t) (o : Obj) : Wb (w.alloc o) g n F t := h.to ((Below.refl _ _).alloc (Nat.le_refl _) o)
theorem Wb.ar (h : Wb w g n F t) : Ar w g n F := fun j hj => by
  unfold Wb at h
  refine ⟨?_, ?_⟩
  · simp only [World.cell?, h]
    simp
    exact arL_get n F j hj
  · simp only [World.frozen?, h]
    simp
theorem Wb.ext {F' : Nat → Nat} (h : Wb w g n F t) (he : ∀ j, j < n → F j = F' j) : Wb w g n F' t := by
  unfold Wb; rw [← arL_ext he]; exact h
theorem Ar.src (h : Ar w g n F) : ∀ j v, (arL n F)[j]? = some v → w.cell? ((⟨g, 0, none⟩ : Addr).add j) = some v := fun j v hv => by
  rw [Addr.add_mid]; exact h.range j v hv
end
/-- The bytes of a list as cells. -/
theorem lF_lt (l : List UInt8) (j : Nat) : lF l j < 256 := UInt8.toNat_lt _
theorem map_lF (l : List UInt8) (n : Nat) (h : l.length = n) : l.map b8 = arL n (lF l) := by
  apply List.ext_getElem?
  intro j
  rcases Nat.lt_or_ge j n with h1 | h1
  · rw [arL_get n _ j h1, List.getElem?_map, List.getElem?_eq_getElem (by omega)]
    simp [b8, n8, lF, List.getD, List.getElem?_eq_getElem (show j < l.length by omega)]
  · rw [List.getElem?_eq_none (by simp; omega), List.getElem?_eq_none (by rw [arL_len]; exact h1)]
theorem Sl.of_ar {w : World} {g n : Nat} {l : List UInt8} (h : Ar w g n (lF l)) (hl : l.length = n) (hg : g < w.heap.size) : Sl w w.heap.size (some ⟨g, 0, none⟩) n l :=
  ⟨hl, fun hn => ⟨g, 0, rfl, hg, fun j u hj => by
    have hjl : j < l.length := (List.getElem?_eq_some_iff.1 hj).1
    rw [Nat.zero_add, (h j (by omega)).1]
    have e : l[j] = u := by rw [List.getElem?_eq_getElem hjl] at hj; exact Option.some.inj hj
    simp [b8, lF, List.getD, List.getElem?_eq_getElem hjl, e]⟩⟩
theorem Sl.src {w : World} {B n : Nat} {A : Option Addr} {l : List UInt8} (h : Sl w B A n l) (hn : 0 < n) : ∃ ad, A = some ad ∧ ∀ j v, (l.map b8)[j]? = some v → w.cell? (ad.add j) = some v := by
  obtain ⟨b, off, e, hb, hc⟩ := h.2 hn
  refine ⟨⟨b, off, none⟩, e, fun j v hv => ?_⟩
  rw [List.getElem?_map] at hv
  obtain ⟨u, hu, rfl⟩ := Option.map_eq_some_iff.1 hv
  rw [Addr.add_mid]; exact hc j u hu
theorem Try.sl8 : Try.prog.underlying 30 = some (.slice 5) := by kernel_rfl
theorem Try.sz8 : (Try.prog.info? 5).map (·.size) = some 1 := by kernel_rfl
theorem slice16h (g n : Nat) (hn : n ≤ 16) (w : World) : (Instr.sliceAt 22 (.pointer (some ⟨g, 0, none⟩)) none (some (.int .i64 (n : Int))) none).run Try.prog w = .ok (.slice (some ⟨g, 0, none⟩) n 16) w := by
  have hal : Try.prog.arrayLen 22 = 16 := by simp [Program.arrayLen]
  have hel : Try.prog.elem 22 = 5 := by simp [Program.elem]
  have hs : (sizeOf 5).run Try.prog w = .ok 1 w := by kernel_rfl
  rw [run_sliceAt_array_h w 22 ⟨g, 0, none⟩ (by rw [hal, hel]; exact Try.arr16x) .i64 (n : Int) (by omega) (by rw [hal]; omega), hal, hel, hs]
  simp [Result.andThen_ok, slicedAt, Addr.add]
theorem make8 (n : Nat) (hn : n ≤ 1000000) (V : World) : (Instr.makeSlice 30 (.int .i64 (n : Int)) (.int .i64 (n : Int))).run Try.prog V = .ok (.slice (some ⟨V.heap.size, 0, none⟩) n n) (V.alloc (.cells (arL n fun _ => 0).toArray 5)) := by
  have hi := info8x
  cases hq : Try.prog.info? 5 with
  | none => rw [hq] at hi; cases hi
  | some i =>
    rw [hq] at hi
    simp only [Option.map_some, Option.some.injEq, Prod.mk.injEq] at hi
    obtain ⟨h1, h2, h3⟩ := hi
    have h := run_make (P := Try.prog) V 30 5 i _ Try.underlying30 hq h1 .i64 .i64 n n (by omega) (by omega) (by rw [h3]; omega) (by omega)
    have hm : madeCells (Value.int .u8 0).cells n = (arL n fun _ => 0).toArray := by
      rw [arL_zero]
      unfold madeCells
      apply Array.ext_getElem?
      intro j
      rcases Nat.lt_or_ge j n with hj | hj
      · simp [hj, Value.cells, Nat.mod_one]
      · simp [hj]
    rw [h, h2, Int.toNat_natCast, Nat.mul_one, hm]

set_option maxHeartbeats 800000 in
theorem bclone (A : Option Addr) (n c : Nat) (l : List UInt8) (w : World) (h : Sl w w.heap.size A n l) (hn : n ≤ 1000000) :
    Calls Try.prog 26 #[.slice A n c] w fun e w' => e = .returned (.slice (some ⟨w.heap.size, 0, none⟩) n n) ∧ Ar w' w.heap.size n (lF l) ∧ w.heap.size < w'.heap.size ∧ Below w.heap.size w w' := by
  have hmk := make8 n hn
  have hlen := h.len
  obtain ⟨w1, hw1⟩ : ∃ V : World, V = w.alloc (.cells (arL n fun _ => 0).toArray 5) := ⟨_, rfl⟩
  have hW1 : Wb w1 w.heap.size n (fun _ => 0) 5 := by rw [hw1]; exact Wb.new w n _ _
  have hb1 : Below w.heap.size w w1 := by rw [hw1]; exact (Below.refl _ _).alloc (Nat.le_refl _) _
  have hS1 : Sl w1 w.heap.size A n l := h.below hb1
  have hl1 := hW1.lt
  obtain ⟨g, hg⟩ : ∃ g : Nat, w.heap.size = g := ⟨_, rfl⟩
  have hsrc := Lib.hid (fun h0 => hS1.src h0)
  have hcs := map_lF l n hlen
  have HMi := Lib.hid (show (l.map b8).length = Nat.min n n by simp [hlen])
  have HFi := Lib.hid (show 0 + (l.map b8).length ≤ (arL n fun _ => 0).length by rw [arL_len]; simp [hlen])
  have HLE := Lib.hid (show ∀ h : 0 < (l.map b8).length, 0 < n by intro h; simpa [hlen] using h)
  obtain ⟨cs, hcse⟩ : ∃ cs : List Value, l.map b8 = cs := ⟨_, rfl⟩
  have h1c := Lib.hid (one_b8 l)
  rw [hcse] at hsrc HMi HFi HLE hcs h1c
  have hspl := Lib.hid (show splice (arL n fun _ => 0) 0 cs = arL n (lF l) by
    rw [hcs, splice_ar n n _ _ 0 (by omega)]
    exact arL_ext (fun j hj => by rw [if_pos (by omega), Nat.sub_zero]))
  obtain ⟨Z, hZ⟩ : ∃ Z : List Value, arL n (fun _ => 0) = Z := ⟨_, rfl⟩
  have HW := Lib.hid (show w1.heap[g]? = some (.cells Z.toArray 5 (0, 0)) by rw [← hg, ← hZ]; exact hW1)
  rw [hZ] at HFi hspl hw1
  have hmk2 : ∀ V : World, (Instr.makeSlice 30 (.int .i64 (n : Int)) (.int .i64 (n : Int))).run Try.prog V = .ok (.slice (some ⟨V.heap.size, 0, none⟩) n n) (V.alloc (.cells Z.toArray 5)) := by rw [← hZ]; exact hmk
  have hcn : (cs.length : Int) = (n : Int) := by have := HMi.out; simp at this; omega
  clear hmk hW1 hS1 h hcs hcse hZ
  go_enter Try.func26, Try.ntmps26
  go_upto_region 2 with fail
  try rw [hg]
  rw [← hw1]
  clear hw1
  go_wp2_with (refine wpList_copy_splice rfl (.tmp 7) (.tmp 8) 30 30 rfl 5 Try.sl8 Try.sz8 _ _ _ _ _ _ rfl rfl g 0 Z 5 HW.out cs HMi.out (fun h => ⟨rfl, hsrc.out (HLE.out h)⟩) HFi.out h1c.out g w1 (Below.refl _ _) (Nat.le_refl _) ?_; intro w2 hW2 hb2)
  go_ret
  have h2 : Wb w2 g n (lF l) 5 := by
    have := hW2.out
    rw [hspl.out] at this
    exact this
  subst hg
  refine ⟨rfl, h2.ar, ?_, hb1.trans (hb2.mono (by omega))⟩
  have := hb2.size; omega
end Go.Proofs.Ytejgeefhnpeejaa
