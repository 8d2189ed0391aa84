/-
  Addresses as strings: which are right (okA); which string is before another one (lessA). Contracts of what package peer and the reference package of layer 21 ask of strings, each by a walk through its text; of strings.ContainsRune for every rune that a string may give. What was there stays as it was.
-/
import Derived.Test.YtfpniipbdkdhlaaShelf
import Derived.Test.YtfpniipbdkdhlaaFre
import Derived.Test.YtfpniipbdkdhlaaArg
import Derived.Laws.IdiomStrings
import Derived.Laws.Concat
import Derived.Laws.Runes
import Derived.Laws.RangeAny
import Derived.Lib.OthersKept
import Derived.WalkMore
import Derived.WalkSmall
import Derived.BigQuiet
namespace Go.Proofs.Ytfpniipbdkdhlaa
open Go.RowKit
set_option linter.unusedVariables false
set_option linter.unusedSimpArgs false
set_option maxRecDepth 100000

theorem ret_bool {a b : Bool} (h : a = b) : Ending.returned (.bool a) = .returned (.bool b) := by rw [h]
/-- The byte at a place, as a number. -/
def chN (s : ByteArray) (i : Nat) : Nat := (s.data.toList.getD i 0).toNat
theorem chN_lt (s : ByteArray) (i : Nat) : chN s i < 256 := UInt8.toNat_lt _
theorem chN_at (s : ByteArray) (i : Nat) (h : i < s.size) : (s[i]'h).toNat = chN s i := by
  unfold chN
  have h2 : i < s.data.toList.length := by simpa using h
  rw [List.getD_eq_getElem?_getD, List.getElem?_eq_getElem h2]
  simp [ByteArray.getElem_eq_getElem_data]
theorem run_ix (s : ByteArray) (i : Nat) (h : i < s.size) (w : World) : (Instr.index 9 (.string s) (.int .i64 (i : Int))).run Try.prog w = .ok (.int .u8 (chN s i : Nat)) w := by
  rw [run_index_string w 9 s .i64 (i : Int) Try.underlying9]
  have h1 : (0 : Int) ≤ (i : Int) ∧ (i : Int) < (s.size : Int) := ⟨by omega, by omega⟩
  rw [dif_pos h1]
  simp only [Int.toNat_natCast]
  rw [chN_at s i h]
theorem eq_str (a b : ByteArray) : (a.toList == b.toList) = decide (a = b) := by
  rw [Lib.toList_data, Lib.toList_data]
  by_cases h : a = b
  · subst h; simp
  · rw [decide_eq_false h, beq_eq_false_iff_ne]
    intro e
    exact h (by cases a; cases b; simp at e; rw [ByteArray.mk.injEq]; exact e)
theorem nil_of {a : ByteArray} (h : a.size = 0) : a = ⟨#[]⟩ := by
  cases a with | mk d => rw [ByteArray.mk.injEq]; exact Array.eq_empty_of_size_eq_zero h
theorem emp_yes {a : ByteArray} (h : a.size = 0) : a.toList = [] ∧ a.toList.isEmpty = true := by
  rw [nil_of h]
  exact ⟨ByteArray.toList_mk [], by rw [show (⟨#[]⟩ : ByteArray).toList = [] from ByteArray.toList_mk []]; rfl⟩
theorem emp_no {a : ByteArray} (h : ¬ a.size = 0) : ¬ a.toList = [] ∧ a.toList.isEmpty = false := by
  have e : ¬ a.toList = [] := fun e => h (by rw [Lib.toList_data] at e; have : a.data.toList.length = 0 := by rw [e]; rfl
                                             simpa using this)
  exact ⟨e, by rw [List.isEmpty_eq_false_iff]; exact e⟩
/-- A letter, a digit, a dot, a colon or a hyphen. -/
def goodB (c : Nat) : Bool := (decide (65 ≤ c) && decide (c ≤ 90)) || (decide (97 ≤ c) && decide (c ≤ 122)) || (decide (48 ≤ c) && decide (c ≤ 57)) || decide (c = 46) || decide (c = 58) || decide (c = 45)
/-- A right address. -/
def okA (s : ByteArray) : Bool := decide (1 ≤ s.size) && (decide (s.size ≤ 100) && decide (∀ i, i < s.size → goodB (chN s i) = true))
theorem okA_size {s : ByteArray} (h : okA s = true) : 1 ≤ s.size ∧ s.size ≤ 100 := by
  unfold okA at h
  simp only [Bool.and_eq_true, decide_eq_true_eq] at h
  exact ⟨h.1, h.2.1⟩
theorem okA_nil {s : ByteArray} (h : s.size = 0) : okA s = false := by unfold okA; rw [decide_eq_false (show ¬ 1 ≤ s.size by omega)]; rfl
theorem okA_long {s : ByteArray} (h : 100 < s.size) : okA s = false := by unfold okA; rw [decide_eq_false (show ¬ s.size ≤ 100 by omega)]; simp
theorem okA_all {s : ByteArray} (h1 : 1 ≤ s.size) (h2 : s.size ≤ 100) (h : ∀ i, i < s.size → goodB (chN s i) = true) : okA s = true := by unfold okA; rw [decide_eq_true h1, decide_eq_true h2, decide_eq_true h]; rfl
theorem okA_no {s : ByteArray} {i : Nat} (hi : i < s.size) (h : goodB (chN s i) = false) : okA s = false := by
  unfold okA
  rw [decide_eq_false (show ¬ ∀ i, i < s.size → goodB (chN s i) = true from fun k => by rw [k i hi] at h; cases h)]
  simp
/-- The address of what is placed: the string, or nobody's. -/
def plA (s : ByteArray) : ByteArray := if okA s then s else ⟨#[]⟩
theorem plA_ok {s : ByteArray} (h : okA s = true) : plA s = s := if_pos h
theorem plA_no {s : ByteArray} (h : okA s = false) : plA s = ⟨#[]⟩ := if_neg (by rw [h]; decide)
theorem plA_nil (s : ByteArray) : decide (plA s = ⟨#[]⟩) = !okA s := by
  cases h : okA s with
  | false => rw [plA_no h]; rfl
  | true =>
    rw [plA_ok h]
    have := okA_size h
    exact decide_eq_false (fun e => by rw [e] at this; exact absurd this.1 (by decide))
/-! ### Runes -/
theorem dec_low (s : ByteArray) (pos : Nat) (h : pos < s.size) (hc : chN s pos < 128) : Utf8.decode s pos = (chN s pos, 1) := by
  rw [decode_ascii s pos h (by rw [chN_at]; exact hc), chN_at]
theorem dec_high (s : ByteArray) (pos : Nat) (h : pos < s.size) (hc : 128 ≤ chN s pos) : 128 ≤ (Utf8.decode s pos).1 ∧ (Utf8.decode s pos).1 ≤ 1114111 ∧ Utf8.valid ((Utf8.decode s pos).1 : Nat) = true := by
  have h0 := (decode_high s pos h (by rw [chN_at]; exact hc)).1
  have hb : ∀ k, (s.get! (pos + k)).toNat < 256 := fun k => (s.get! (pos + k)).toNat_lt
  refine ⟨h0, ?_⟩
  have h1 := hb 0; have h2 := hb 1; have h3 := hb 2; have h4 := hb 3
  simp only [Utf8.decode] at h0 ⊢
  split
  · rename_i h5; rw [if_pos h5] at h0; simp at h0 h5; omega
  · split
    · split
      · simp only [Utf8.valid, Bool.or_eq_true, Bool.and_eq_true, decide_eq_true_eq]; omega
      · exact ⟨by decide, by decide⟩
    · split
      · split
        · rename_i h6; simp only [Bool.and_eq_true, decide_eq_true_eq] at h6; refine ⟨?_, h6.2⟩; simp only; omega
        · exact ⟨by decide, by decide⟩
      · split
        · split
          · rename_i h6; simp only [Bool.and_eq_true, decide_eq_true_eq, Utf8.valid, Bool.or_eq_true] at h6 ⊢; omega
          · exact ⟨by decide, by decide⟩
        · exact ⟨by decide, by decide⟩

set_option maxHeartbeats 1600000 in
theorem pwithin (a b r : Int) (p : Nat) (z : Bool) (w : World) (hp : w.cell? ⟨p, 0, none⟩ = some (.int .i32 r)) (hz : (decide (a ≤ r) && decide (r ≤ b)) = z) :
    Calls Try.prog 24 #[.int .i32 a, .int .i32 b, .pointer (some ⟨p, 0, none⟩)] w fun e w' => e = .returned (.bool z) ∧ w' = w := by
  by_cases h1 : a ≤ r
  · by_cases h2 : r ≤ b
    · obtain rfl : z = true := by rw [← hz, decide_eq_true h1, decide_eq_true h2]; rfl
      clear hz
      go_enter Try.func24, Try.ntmps24
      go_wp2_with fail
      go_ret
      exact ⟨rfl, rfl⟩
    · obtain rfl : z = false := by rw [← hz, decide_eq_false h2]; simp
      clear hz
      go_enter Try.func24, Try.ntmps24
      go_wp2_with fail
      go_ret
      exact ⟨rfl, rfl⟩
  · obtain rfl : z = false := by rw [← hz, decide_eq_false h1]; rfl
    clear hz
    go_enter Try.func24, Try.ntmps24
    go_wp2_with fail
    go_ret
    exact ⟨rfl, rfl⟩

/-- The marks. -/
def mkB : ByteArray := ⟨#[46, 58, 45]⟩
theorem mk_low : ∀ c, c < 128 → decide (0 ≤ Lib.indexByte mkB.data.toList ((c : Nat) : Int).toNat.toUInt8) = (decide (c = 46) || decide (c = 58) || decide (c = 45)) := by decide +kernel
theorem mk_dec : ∀ i, i < 3 → Utf8.decode mkB i = (chN mkB i, 1) ∧ chN mkB i ≠ 65533 := by decide +kernel
theorem mk_no (x : Nat) (h1 : 128 ≤ x) (h2 : x < 256) : Lib.indexByte [45] (x : Int).toNat.toUInt8 = -1 ∧ Lib.indexByte [] (x : Int).toNat.toUInt8 = -1 := by
  refine ⟨?_, rfl⟩
  have : ∀ x, x < 256 → 128 ≤ x → Lib.indexByte [45] ((x : Nat) : Int).toNat.toUInt8 = -1 := by decide +kernel
  exact this x h2 h1

set_option maxHeartbeats 1600000 in
theorem sindex (r : Nat) (w : World) (h0 : 128 ≤ r) (h1 : r ≤ 1114111) (hv : Utf8.valid (r : Int) = true) :
    Calls Try.prog 28 #[.string ⟨#[46, 58, 45]⟩, .int .i32 (r : Int)] w fun e w' => e = .returned (.int .i64 (-1)) ∧ Below w.heap.size w w' := by
  have i1 : ¬ (r : Int) < 128 := by omega
  have i1d : decide ((r : Int) < 128) = false := decide_eq_false i1
  have i0 : (0 : Int) ≤ (r : Int) := by omega
  by_cases he : r = 65533
  · subst he
    clear h0 h1 hv i1 i0 i1d
    go_enter Try.func28, Try.ntmps28
    go_wp2_with fail
    go_loopw [5] (fun _ wr => ∃ pos : Nat, pos ≤ 3 ∧ wr.heap[w.heap.size]? = some (.stringIter mkB pos) ∧ Below w.heap.size w wr) (fun _ wr => 3 - wr.iterPos w.heap.size)
    case atStart => exact ⟨0, by omega, World.iter_heap w mkB 0, (Below.refl _ _).alloc (Nat.le_refl _) _⟩
    case round =>
      obtain ⟨pos, hpos, hit, hB⟩ := hrel
      have hip := iterPos_of hit
      by_cases hlt : pos < 3
      · have hnx : ∀ ty, (Instr.next (.pointer (some ⟨w.heap.size, 0, none⟩)) true ty).run Try.prog wr = _ := fun ty => Lib.run_next_any_at wr w.heap.size mkB pos ty hit hlt
        rw [(mk_dec pos hlt).1] at hnx
        have hne : (((chN mkB pos : Nat) : Int) == 65533) = false := by have := (mk_dec pos hlt).2; simp; omega
        have hit2 := Lib.iterAt_heap wr w.heap.size mkB pos (pos + 1) hit
        have hB2 := Lib.below_iterAt hB (k := w.heap.size) (Nat.le_refl _) mkB (pos + 1)
        obtain ⟨c, hc⟩ : ∃ c, chN mkB pos = c := ⟨_, rfl⟩
        rw [hc] at hnx hne
        dsimp only at hnx
        obtain ⟨W1, hW1⟩ : ∃ V : World, V = wr.iterAt w.heap.size mkB (pos + 1) := ⟨_, rfl⟩
        rw [← hW1] at hnx hit2 hB2
        clear hW1 hit hB hc
        go_wp2_with fail
        go_roundw
        case rel => exact ⟨pos + 1, by omega, hit2, hB2⟩
        case measure => rw [iterPos_of hit2, hip]; omega
      · have hnx : ∀ ty, (Instr.next (.pointer (some ⟨w.heap.size, 0, none⟩)) true ty).run Try.prog wr = _ := fun ty => Lib.run_next_end_at wr w.heap.size mkB pos ty hit hlt
        go_wp2_with fail
        go_ret
        exact ⟨rfl, hB⟩
  · have i2 : ((r : Int) == 65533) = false := by simp; omega
    obtain ⟨hs2, hs4, hlast0⟩ := encode_facts (r : Int) hv (by omega)
    have HVR := Lib.hid (show Lib.validRune (r : Int) = true by unfold Lib.validRune; unfold Utf8.valid at hv; simp only [Bool.or_eq_true, Bool.and_eq_true, decide_eq_true_eq] at hv; exact decide_eq_true (by omega))
    have hconv : ∀ V, (convert 21 9 (.int .i32 (r : Int))).run Try.prog V = .ok (.string (Utf8.encode (r : Int))) V := fun V => run_convert_int_string V _ _ _ _ (by rw [Try.underlying21]; rfl) Try.underlying9
    obtain ⟨E, hE⟩ : ∃ E, Utf8.encode (r : Int) = E := ⟨_, rfl⟩
    rw [hE] at hconv hs2 hs4 hlast0
    have hlast : ∀ k, k + 1 = E.size → 128 ≤ chN E k := fun k hk => by
      have e := hlast0 (by omega)
      rw [chN_at E (E.size - 1) (by omega)] at e
      rw [show k = E.size - 1 by omega]; exact e
    clear hlast0 hE hv he h0 h1
    have h234 : E.size = 2 ∨ E.size = 3 ∨ E.size = 4 := by omega
    rcases h234 with h2 | h3 | h4
    · have hsz : E.size = 2 := h2
      have hx := Lib.hid (hlast 1 (by omega))
      obtain ⟨x, hx9⟩ : ∃ x, chN E 1 = x := ⟨_, rfl⟩
      have hxl : x < 256 := by rw [← hx9]; exact chN_lt _ _
      have hixE : ∀ V, (Instr.index 9 (.string E) (.int .i64 1)).run Try.prog V = .ok (.int .u8 (x : Int)) V := fun V => by rw [← hx9]; exact run_ix E 1 (by omega) V
      rw [hx9] at hx
      clear hx9
      have HL := Lib.hid hxl
      have hixS : ∀ V, (Instr.index 9 (.string ⟨#[46, 58, 45]⟩) (.int .i64 1)).run Try.prog V = .ok (.int .u8 58) V := fun V => run_ix mkB 1 (by decide) V
      have hne : ((58 : Int) != (x : Int)) = true := by have := hx.out; simp; omega
      have hsl : ∀ V, (Instr.sliceAt 9 (.string ⟨#[46, 58, 45]⟩) (some (.int .i64 2)) none none).run Try.prog V = .ok (.string ⟨#[45]⟩) V := fun V => by rw [run_sliceAt_string V 9 _ _ _ _ Try.underlying9, run_slice_string_l V 9 _ Try.underlying9 .i64 2 (by decide) (by decide)]; rfl
      clear hlast hs2 hs4 h2 hxl
      go_enter Try.func28, Try.ntmps28
      go_wp2_with fail
      refine (Try.utf8_ValidRune _ _).mono ?_
      rintro e w1 ⟨rfl, rfl⟩
      rw [HVR.out]
      go_wp2_with fail
      go_step3
      go_wp2_with fail
      go_loopw [9] (fun i wr => i = .int .i64 1 ∧ wr = w1) (fun _ _ => 0)
      case atStart => exact ⟨rfl, rfl⟩
      case round =>
        obtain ⟨rfl, rfl⟩ := hrel
        have HI := Lib.hid (fun V : World => (Try.strings_IndexByte ⟨#[45]⟩ (x : Int) V).mono fun e w' h => (by rw [show Lib.indexByte (⟨#[45]⟩ : ByteArray).data.toList (x : Int).toNat.toUInt8 = -1 from (mk_no x hx.out HL.out).1] at h; exact h : e = .returned (.int .i64 (-1)) ∧ w' = V))
        have hw2 : IntKind.i64.wrap 2 = 2 := by decide +kernel
        have HB := Lib.hid (Below.refl wr.heap.size wr)
        go_wp2_with fail
        go_step3
        go_wp2_with fail
        go_quiet (fail)
        have HB2 := Lib.hid (below_drewN HB.out nq)
        generalize wr.drewN nq = W2 at *
        go_wp2_with fail
        go_quiet ((exact Calls.quiet_of_same (HI.out _)))
        go_wp2_with fail
        dsimp +zetaDelta only [Exit.inBlock, Exit.noGoto, Exit.then]
        go_ret
        exact ⟨rfl, by have := HB2.out; exact below_drewN this _⟩
    · have hsz : E.size = 3 := h3
      have hx := Lib.hid (hlast 2 (by omega))
      obtain ⟨x, hx9⟩ : ∃ x, chN E 2 = x := ⟨_, rfl⟩
      have hxl : x < 256 := by rw [← hx9]; exact chN_lt _ _
      have hixE : ∀ V, (Instr.index 9 (.string E) (.int .i64 2)).run Try.prog V = .ok (.int .u8 (x : Int)) V := fun V => by rw [← hx9]; exact run_ix E 2 (by omega) V
      rw [hx9] at hx
      clear hx9
      have HL := Lib.hid hxl
      have hixS : ∀ V, (Instr.index 9 (.string ⟨#[46, 58, 45]⟩) (.int .i64 2)).run Try.prog V = .ok (.int .u8 45) V := fun V => run_ix mkB 2 (by decide) V
      have hne : ((45 : Int) != (x : Int)) = true := by have := hx.out; simp; omega
      have hsl : ∀ V, (Instr.sliceAt 9 (.string ⟨#[46, 58, 45]⟩) (some (.int .i64 3)) none none).run Try.prog V = .ok (.string ⟨#[]⟩) V := fun V => by rw [run_sliceAt_string V 9 _ _ _ _ Try.underlying9, run_slice_string_l V 9 _ Try.underlying9 .i64 3 (by decide) (by decide)]; rfl
      clear hlast hs2 hs4 h3 hxl
      go_enter Try.func28, Try.ntmps28
      go_wp2_with fail
      refine (Try.utf8_ValidRune _ _).mono ?_
      rintro e w1 ⟨rfl, rfl⟩
      rw [HVR.out]
      go_wp2_with fail
      go_step3
      go_wp2_with fail
      go_loopw [9] (fun i wr => i = .int .i64 2 ∧ wr = w1) (fun _ _ => 0)
      case atStart => exact ⟨rfl, rfl⟩
      case round =>
        obtain ⟨rfl, rfl⟩ := hrel
        have HI := Lib.hid (fun V : World => (Try.strings_IndexByte ⟨#[]⟩ (x : Int) V).mono fun e w' h => (by rw [show Lib.indexByte (⟨#[]⟩ : ByteArray).data.toList (x : Int).toNat.toUInt8 = -1 from (mk_no x hx.out HL.out).2] at h; exact h : e = .returned (.int .i64 (-1)) ∧ w' = V))
        have hw2 : IntKind.i64.wrap 3 = 3 := by decide +kernel
        have HB := Lib.hid (Below.refl wr.heap.size wr)
        go_wp2_with fail
        go_step3
        go_wp2_with fail
        go_quiet (fail)
        have HB2 := Lib.hid (below_drewN HB.out nq)
        generalize wr.drewN nq = W2 at *
        go_wp2_with fail
        go_quiet ((exact Calls.quiet_of_same (HI.out _)))
        go_wp2_with fail
        dsimp +zetaDelta only [Exit.inBlock, Exit.noGoto, Exit.then]
        go_ret
        exact ⟨rfl, by have := HB2.out; exact below_drewN this _⟩
    · have hsz : E.size = 4 := h4
      have hx := Lib.hid (hlast 3 (by omega))
      obtain ⟨x, hx9⟩ : ∃ x, chN E 3 = x := ⟨_, rfl⟩
      have hxl : x < 256 := by rw [← hx9]; exact chN_lt _ _
      have hixE : ∀ V, (Instr.index 9 (.string E) (.int .i64 3)).run Try.prog V = .ok (.int .u8 (x : Int)) V := fun V => by rw [← hx9]; exact run_ix E 3 (by omega) V
      rw [hx9] at hx
      clear hx9
      have HL := Lib.hid hxl
      clear hlast hs2 hs4 h4 hxl
      go_enter Try.func28, Try.ntmps28
      go_wp2_with fail
      refine (Try.utf8_ValidRune _ _).mono ?_
      rintro e w1 ⟨rfl, rfl⟩
      rw [HVR.out]
      go_wp2_with fail
      go_step3
      go_wp2_with fail
      go_loopw [9] (fun i wr => i = .int .i64 3 ∧ wr = w1) (fun _ _ => 0)
      case atStart => exact ⟨rfl, rfl⟩
      case round =>
        obtain ⟨rfl, rfl⟩ := hrel
        go_wp2_with fail
        rw [Exit.noGoto_ret]
        go_ret
        exact ⟨rfl, Below.refl _ _⟩

set_option maxHeartbeats 1600000 in
theorem shigh (r : Nat) (w : World) (h0 : 128 ≤ r) (h1 : r ≤ 1114111) (hv : Utf8.valid (r : Int) = true) :
    Calls Try.prog 25 #[.string ⟨#[46, 58, 45]⟩, .int .i32 (r : Int)] w fun e w' => e = .returned (.bool false) ∧ Below w.heap.size w w' := by
  go_enter Try.func25, Try.ntmps25
  go_wp2_with fail
  refine (sindex r _ h0 h1 hv).mono ?_
  rintro e w1 ⟨rfl, hB⟩
  go_wp2_with fail
  go_ret
  exact ⟨rfl, hB⟩

set_option maxHeartbeats 1600000 in
theorem slow (r : Nat) (w : World) (h1 : r < 128) :
    Calls Try.prog 25 #[.string ⟨#[46, 58, 45]⟩, .int .i32 (r : Int)] w fun e w' => e = .returned (.bool (decide (r = 46) || decide (r = 58) || decide (r = 45))) ∧ Below w.heap.size w w' := by
  refine (Try.strings_ContainsRune_ascii mkB (r : Int) w (by omega) (by omega)).mono ?_
  rintro e w1 ⟨rfl, rfl⟩
  rw [mk_low r h1]
  exact ⟨rfl, Below.refl _ _⟩
/-- May the rune of a character be part of a right address? -/
def goodR (r : Nat) : Bool := decide (r < 128) && goodB r
theorem smark (r : Nat) (z : Bool) (w : World) (h : r < 128 ∨ 128 ≤ r ∧ r ≤ 1114111 ∧ Utf8.valid (r : Int) = true) (hz : (decide (r = 46) || decide (r = 58) || decide (r = 45)) = z) :
    Calls Try.prog 25 #[.string ⟨#[46, 58, 45]⟩, .int .i32 (r : Int)] w fun e w' => e = .returned (.bool z) ∧ Below w.heap.size w w' := by
  rcases h with h | ⟨h0, h1, hv⟩
  · exact hz ▸ slow r w h
  · have e : z = false := by rw [← hz, decide_eq_false (show ¬ r = 46 by omega), decide_eq_false (show ¬ r = 58 by omega), decide_eq_false (show ¬ r = 45 by omega)]; rfl
    rw [e]
    exact shigh r w h0 h1 hv
theorem dec_all (s : ByteArray) (pos : Nat) (h : pos < s.size) : ∃ r k, Utf8.decode s pos = (r, k) ∧ (r < 128 ∨ 128 ≤ r ∧ r ≤ 1114111 ∧ Utf8.valid (r : Int) = true) ∧ (r < 128 → r = chN s pos ∧ k = 1) ∧ (128 ≤ r → goodB (chN s pos) = false) := by
  rcases Nat.lt_or_ge (chN s pos) 128 with hc | hc
  · exact ⟨_, _, dec_low s pos h hc, .inl hc, fun _ => ⟨rfl, rfl⟩, fun h2 => absurd hc (by omega)⟩
  · have h2 := dec_high s pos h hc
    obtain ⟨⟨r, k⟩, hd⟩ : ∃ d, Utf8.decode s pos = d := ⟨_, rfl⟩
    rw [hd] at h2 ⊢
    dsimp only at h2
    refine ⟨r, k, rfl, .inr h2, fun h3 => absurd h2.1 (by omega), fun _ => ?_⟩
    have : ∀ c, c < 256 → 128 ≤ c → goodB c = false := by decide +kernel
    exact this _ (chN_lt _ _) hc
/-- The five ways of a rune. -/
theorem five (r : Nat) : (65 ≤ r ∧ r ≤ 90) ∨ (¬ (65 ≤ r ∧ r ≤ 90) ∧ (97 ≤ r ∧ r ≤ 122)) ∨ (¬ (65 ≤ r ∧ r ≤ 90) ∧ ¬ (97 ≤ r ∧ r ≤ 122) ∧ (48 ≤ r ∧ r ≤ 57)) ∨ (¬ (65 ≤ r ∧ r ≤ 90) ∧ ¬ (97 ≤ r ∧ r ≤ 122) ∧ ¬ (48 ≤ r ∧ r ≤ 57) ∧ (r = 46 ∨ r = 58 ∨ r = 45)) ∨ (¬ (65 ≤ r ∧ r ≤ 90) ∧ ¬ (97 ≤ r ∧ r ≤ 122) ∧ ¬ (48 ≤ r ∧ r ≤ 57) ∧ ¬ (r = 46 ∨ r = 58 ∨ r = 45)) := by omega
theorem dec2 {a b r : Nat} {z : Bool} (h : if z = true then a ≤ r ∧ r ≤ b else ¬ (a ≤ r ∧ r ≤ b)) : (decide ((a : Int) ≤ (r : Int)) && decide ((r : Int) ≤ (b : Int))) = z := by
  cases z with
  | true => simp only [if_true] at h; rw [decide_eq_true (by omega), decide_eq_true (by omega)]; rfl
  | false =>
    simp only [Bool.false_eq_true, if_false] at h
    by_cases h1 : a ≤ r
    · rw [decide_eq_false (show ¬ (r : Int) ≤ (b : Int) by omega)]; simp
    · rw [decide_eq_false (show ¬ (a : Int) ≤ (r : Int) by omega)]; rfl

set_option maxHeartbeats 4000000 in
theorem pright (s : ByteArray) (w : World) :
    Calls Try.prog 18 #[.string s] w fun e w' => e = .returned (.bool (okA s)) ∧ Below w.heap.size w w' := by
  by_cases h0 : s.size = 0
  · rw [okA_nil h0]
    obtain ⟨e0, e1⟩ := emp_yes h0
    clear h0
    go_enter Try.func18, Try.ntmps18
    go_wp2_with fail
    go_ret
    exact ⟨rfl, Below.refl _ _⟩
  obtain ⟨e0, e1⟩ := emp_no h0
  by_cases h1 : 100 < s.size
  · rw [okA_long h1]
    have i1 : (s.size : Int) > 100 := by omega
    clear h0 h1
    go_enter Try.func18, Try.ntmps18
    go_wp2_with fail
    go_ret
    exact ⟨rfl, Below.refl _ _⟩
  have i1 : ¬ (s.size : Int) > 100 := by omega
  have i1d : decide ((s.size : Int) > 100) = false := decide_eq_false i1
  have H0 := Lib.hid (show 1 ≤ s.size by omega)
  have H1 := Lib.hid (show s.size ≤ 100 by omega)
  clear h0 h1
  go_enter Try.func18, Try.ntmps18
  go_wp2_with fail
  clear e0 e1 i1 i1d
  go_loopw [4] (fun _ wr => ∃ pos : Nat, pos ≤ s.size ∧ wr.heap[w.heap.size]? = some (.stringIter s pos) ∧ Hid (∀ i, i < pos → goodB (chN s i) = true) ∧ Below w.heap.size w wr) (fun _ wr => s.size - wr.iterPos w.heap.size)
  case atStart => exact ⟨0, by omega, World.iter_heap w s 0, Lib.hid (fun i hi => by omega), (Below.refl _ _).alloc (Nat.le_refl _) _⟩
  case round =>
    obtain ⟨pos, hpos, hit, HA, hB⟩ := hrel
    have hip := iterPos_of hit
    by_cases hlt : pos < s.size
    · obtain ⟨r, k, hdec, hR, hC1, hC2⟩ := dec_all s pos hlt
      have HR := Lib.hid hR
      have HC := Lib.hid (And.intro hC1 hC2)
      clear hR hC1 hC2
      have HP := Lib.hid hlt
      have hnx : ∀ ty, (Instr.next (.pointer (some ⟨w.heap.size, 0, none⟩)) true ty).run Try.prog wr = _ := fun ty => Lib.run_next_any_at wr w.heap.size s pos ty hit hlt
      rw [hdec] at hnx
      dsimp only at hnx
      clear hdec
      have hit2 := Lib.iterAt_heap wr w.heap.size s pos (pos + k) hit
      have hB2 := Lib.below_iterAt hB (k := w.heap.size) (Nat.le_refl _) s (pos + k)
      obtain ⟨W1, hW1⟩ : ∃ V : World, V = wr.iterAt w.heap.size s (pos + k) := ⟨_, rfl⟩
      rw [← hW1] at hnx hit2 hB2
      have HLT1 := Lib.hid (Array.getElem?_eq_some_iff.1 hit2).1
      obtain ⟨W2, hW2⟩ : ∃ V : World, V = W1.alloc (.cells #[.int .i32 (r : Int)] 21) := ⟨_, rfl⟩
      obtain ⟨p, hp9⟩ : ∃ p, W1.heap.size = p := ⟨_, rfl⟩
      have hp : W2.cell? ⟨p, 0, none⟩ = some (.int .i32 (r : Int)) := by rw [hW2, ← hp9]; exact World.cell?_alloc_at _ _ _ _ rfl
      have hq1 : Below W1.heap.size W1 W2 := by rw [hW2]; exact (Below.refl _ _).alloc (Nat.le_refl _) _
      replace hit2 := (hq1.block _ HLT1.out).trans hit2
      replace hB2 := hB2.trans (hq1.mono hB2.size)
      have HLT := Lib.hid (Array.getElem?_eq_some_iff.1 hit2).1
      clear hW1 hit hB hlt hq1 HLT1
      go_wp2_with fail
      try rw [← hW2]
      try rw [hp9]
      clear hp9
      rcases five r with hA | ⟨hA, hC⟩ | ⟨hA, hC, hE⟩ | ⟨hA, hC, hE, hF⟩ | ⟨hA, hC, hE, hF⟩
      · go_wp2_with fail
        try rw [← hW2]
        try clear hW2
        refine (pwithin 65 90 (r : Int) p true W2 hp (dec2 (a := 65) (b := 90) (z := true) (by simp; omega))).mono ?_
        rintro e w9 ⟨rfl, hw9⟩
        rw [hw9]
        clear hw9 w9
        have hk : W2.heap[w.heap.size]? = some (.stringIter s (pos + k)) ∧ Below w.heap.size w W2 := ⟨hit2, hB2⟩
        have hlr : r < 128 := by omega
        obtain ⟨hrc, rfl⟩ := HC.out.1 hlr
        have HA2 := Lib.hid (show ∀ i, i < pos + 1 → goodB (chN s i) = true from fun i hi => by
          rcases Nat.lt_or_ge i pos with h | h
          · exact HA.out i h
          · obtain rfl : i = pos := by omega
            rw [← hrc]; unfold goodB; simp; omega)
        clear hrc HA
        go_wp2_with fail
        go_roundw
        case rel => exact ⟨pos + 1, by have := HP.out; omega, hk.1, Lib.hid HA2.out, hk.2⟩
        case measure => rw [iterPos_of hk.1, hip]; have := HP.out; omega
      · go_wp2_with fail
        try rw [← hW2]
        try clear hW2
        refine (pwithin 65 90 (r : Int) p false W2 hp (dec2 (a := 65) (b := 90) (z := false) (by simp; omega))).mono ?_
        rintro e w9 ⟨rfl, hw9⟩
        rw [hw9]
        clear hw9 w9
        go_wp2_with fail
        try rw [← hW2]
        try clear hW2
        refine (pwithin 97 122 (r : Int) p true W2 hp (dec2 (a := 97) (b := 122) (z := true) (by simp; omega))).mono ?_
        rintro e w9 ⟨rfl, hw9⟩
        rw [hw9]
        clear hw9 w9
        have hk : W2.heap[w.heap.size]? = some (.stringIter s (pos + k)) ∧ Below w.heap.size w W2 := ⟨hit2, hB2⟩
        have hlr : r < 128 := by omega
        obtain ⟨hrc, rfl⟩ := HC.out.1 hlr
        have HA2 := Lib.hid (show ∀ i, i < pos + 1 → goodB (chN s i) = true from fun i hi => by
          rcases Nat.lt_or_ge i pos with h | h
          · exact HA.out i h
          · obtain rfl : i = pos := by omega
            rw [← hrc]; unfold goodB; simp; omega)
        clear hrc HA
        go_wp2_with fail
        go_roundw
        case rel => exact ⟨pos + 1, by have := HP.out; omega, hk.1, Lib.hid HA2.out, hk.2⟩
        case measure => rw [iterPos_of hk.1, hip]; have := HP.out; omega
      · go_wp2_with fail
        try rw [← hW2]
        try clear hW2
        refine (pwithin 65 90 (r : Int) p false W2 hp (dec2 (a := 65) (b := 90) (z := false) (by simp; omega))).mono ?_
        rintro e w9 ⟨rfl, hw9⟩
        rw [hw9]
        clear hw9 w9
        go_wp2_with fail
        try rw [← hW2]
        try clear hW2
        refine (pwithin 97 122 (r : Int) p false W2 hp (dec2 (a := 97) (b := 122) (z := false) (by simp; omega))).mono ?_
        rintro e w9 ⟨rfl, hw9⟩
        rw [hw9]
        clear hw9 w9
        go_wp2_with fail
        try rw [← hW2]
        try clear hW2
        refine (pwithin 48 57 (r : Int) p true W2 hp (dec2 (a := 48) (b := 57) (z := true) (by simp; omega))).mono ?_
        rintro e w9 ⟨rfl, hw9⟩
        rw [hw9]
        clear hw9 w9
        have hk : W2.heap[w.heap.size]? = some (.stringIter s (pos + k)) ∧ Below w.heap.size w W2 := ⟨hit2, hB2⟩
        have hlr : r < 128 := by omega
        obtain ⟨hrc, rfl⟩ := HC.out.1 hlr
        have HA2 := Lib.hid (show ∀ i, i < pos + 1 → goodB (chN s i) = true from fun i hi => by
          rcases Nat.lt_or_ge i pos with h | h
          · exact HA.out i h
          · obtain rfl : i = pos := by omega
            rw [← hrc]; unfold goodB; simp; omega)
        clear hrc HA
        go_wp2_with fail
        go_roundw
        case rel => exact ⟨pos + 1, by have := HP.out; omega, hk.1, Lib.hid HA2.out, hk.2⟩
        case measure => rw [iterPos_of hk.1, hip]; have := HP.out; omega
      · go_wp2_with fail
        try rw [← hW2]
        try clear hW2
        refine (pwithin 65 90 (r : Int) p false W2 hp (dec2 (a := 65) (b := 90) (z := false) (by simp; omega))).mono ?_
        rintro e w9 ⟨rfl, hw9⟩
        rw [hw9]
        clear hw9 w9
        go_wp2_with fail
        try rw [← hW2]
        try clear hW2
        refine (pwithin 97 122 (r : Int) p false W2 hp (dec2 (a := 97) (b := 122) (z := false) (by simp; omega))).mono ?_
        rintro e w9 ⟨rfl, hw9⟩
        rw [hw9]
        clear hw9 w9
        go_wp2_with fail
        try rw [← hW2]
        try clear hW2
        refine (pwithin 48 57 (r : Int) p false W2 hp (dec2 (a := 48) (b := 57) (z := false) (by simp; omega))).mono ?_
        rintro e w9 ⟨rfl, hw9⟩
        rw [hw9]
        clear hw9 w9
        go_wp2_with fail
        refine (smark r true W2 HR.out (by rcases hF with rfl | rfl | rfl <;> rfl)).mono ?_
        rintro e W3 ⟨rfl, hq⟩
        have hk : W3.heap[w.heap.size]? = some (.stringIter s (pos + k)) ∧ Below w.heap.size w W3 := ⟨(hq.block _ HLT.out).trans hit2, hB2.trans (hq.mono hB2.size)⟩
        clear hq
        have hlr : r < 128 := by omega
        obtain ⟨hrc, rfl⟩ := HC.out.1 hlr
        have HA2 := Lib.hid (show ∀ i, i < pos + 1 → goodB (chN s i) = true from fun i hi => by
          rcases Nat.lt_or_ge i pos with h | h
          · exact HA.out i h
          · obtain rfl : i = pos := by omega
            rw [← hrc]; unfold goodB; simp; omega)
        clear hrc HA
        go_wp2_with fail
        go_roundw
        case rel => exact ⟨pos + 1, by have := HP.out; omega, hk.1, Lib.hid HA2.out, hk.2⟩
        case measure => rw [iterPos_of hk.1, hip]; have := HP.out; omega
      · go_wp2_with fail
        try rw [← hW2]
        try clear hW2
        refine (pwithin 65 90 (r : Int) p false W2 hp (dec2 (a := 65) (b := 90) (z := false) (by simp; omega))).mono ?_
        rintro e w9 ⟨rfl, hw9⟩
        rw [hw9]
        clear hw9 w9
        go_wp2_with fail
        try rw [← hW2]
        try clear hW2
        refine (pwithin 97 122 (r : Int) p false W2 hp (dec2 (a := 97) (b := 122) (z := false) (by simp; omega))).mono ?_
        rintro e w9 ⟨rfl, hw9⟩
        rw [hw9]
        clear hw9 w9
        go_wp2_with fail
        try rw [← hW2]
        try clear hW2
        refine (pwithin 48 57 (r : Int) p false W2 hp (dec2 (a := 48) (b := 57) (z := false) (by simp; omega))).mono ?_
        rintro e w9 ⟨rfl, hw9⟩
        rw [hw9]
        clear hw9 w9
        go_wp2_with fail
        refine (smark r false W2 HR.out (by rw [decide_eq_false (by omega), decide_eq_false (by omega), decide_eq_false (by omega)]; rfl)).mono ?_
        rintro e W3 ⟨rfl, hq⟩
        have hk : W3.heap[w.heap.size]? = some (.stringIter s (pos + k)) ∧ Below w.heap.size w W3 := ⟨(hq.block _ HLT.out).trans hit2, hB2.trans (hq.mono hB2.size)⟩
        clear hq
        have HN := Lib.hid (show goodB (chN s pos) = false from by
          rcases Nat.lt_or_ge r 128 with h | h
          · rw [← (HC.out.1 h).1]; unfold goodB; simp; omega
          · exact HC.out.2 h)
        go_wp2_with fail
        go_ret
        exact ⟨ret_bool (okA_no HP.out HN.out).symm, hk.2⟩
    · have hnx : ∀ ty, (Instr.next (.pointer (some ⟨w.heap.size, 0, none⟩)) true ty).run Try.prog wr = _ := fun ty => Lib.run_next_end_at wr w.heap.size s pos ty hit hlt
      go_wp2_with fail
      go_ret
      exact ⟨ret_bool (okA_all H0.out H1.out (fun i hi => HA.out i (by omega))).symm, hB⟩
/-- The tests of the reference, on a byte. -/
theorem good_three (c : Nat) : goodB c = ((decide (c ≥ 97) && decide (c ≤ 122) || decide (c ≥ 65) && decide (c ≤ 90)) || !(decide (c < 48) || decide (c > 57)) || !(!decide (c = 46) && !decide (c = 58) && !decide (c = 45))) := by
  unfold goodB
  by_cases h1 : 65 ≤ c ∧ c ≤ 90
  · simp [h1.1, h1.2]
  · by_cases h2 : 97 ≤ c ∧ c ≤ 122
    · simp [h2.1, h2.2]
    · by_cases h3 : 48 ≤ c ∧ c ≤ 57
      · simp [h3.1, h3.2]
      · have e1 : (decide (65 ≤ c) && decide (c ≤ 90)) = false := by simp; omega
        have e2 : (decide (97 ≤ c) && decide (c ≤ 122)) = false := by simp; omega
        have e3 : (decide (48 ≤ c) && decide (c ≤ 57)) = false := by simp; omega
        have e4 : (decide (c < 48) || decide (c > 57)) = true := by simp; omega
        have e1' : (decide (c ≥ 65) && decide (c ≤ 90)) = false := e1
        have e2' : (decide (c ≥ 97) && decide (c ≤ 122)) = false := e2
        first | rw [e1, e2, e3, e1', e2', e4] | rw [e1, e2, e3, e4]
        simp

set_option maxHeartbeats 4000000 in
theorem rright (s : ByteArray) (w : World) (hlen : s.size ≤ 9223372036854775807) :
    Calls Try.prog 12 #[.string s] w fun e w' => e = .returned (.bool (okA s)) ∧ Below w.heap.size w w' := by
  go_enter Try.func12, Try.ntmps12
  go_wp2_with fail
  go_loopw [3] (fun i wr => ∃ k : Nat, k ≤ s.size ∧ i = .int .i64 k ∧ Hid (∀ i, i < k → goodB (chN s i) = true) ∧ Below w.heap.size w wr) (fun i _ => s.size - (intOf i).toNat)
  case atStart => exact ⟨0, Nat.zero_le _, rfl, Lib.hid (fun i hi => by omega), Below.refl _ _⟩
  case round =>
    obtain ⟨k, hk, rfl, HA, hB⟩ := hrel
    by_cases hlt : k < s.size
    · have i1 : (k : Int) < (s.size : Int) := by omega
      have hix := run_ix s k hlt
      obtain ⟨c, hc⟩ : ∃ c, chN s k = c := ⟨_, rfl⟩
      have hcl := chN_lt s k
      rw [hc] at hix hcl
      have HP := Lib.hid hlt
      clear hlt hk
      have hv9 : (0 ≤ c ∧ c < 45) ∨ (45 ≤ c ∧ c < 46) ∨ (46 ≤ c ∧ c < 47) ∨ (47 ≤ c ∧ c < 48) ∨ (48 ≤ c ∧ c < 58) ∨ (58 ≤ c ∧ c < 59) ∨ (59 ≤ c ∧ c < 65) ∨ (65 ≤ c ∧ c < 91) ∨ (91 ≤ c ∧ c < 97) ∨ (97 ≤ c ∧ c < 123) ∨ (123 ≤ c ∧ c < 256) := by omega
      rcases hv9 with hv | hv | hv | hv | hv | hv | hv | hv | hv | hv | hv
      · obtain ⟨hv1, hv2⟩ := hv
        have HN := Lib.hid (okA_no HP.out (show goodB (chN s k) = false by rw [hc]; unfold goodB; simp; omega))
        have tg97 : decide ((c : Int) ≥ 97) = false := decide_eq_false (by omega)
        have tl122 : decide ((c : Int) ≤ 122) = true := decide_eq_true (by omega)
        have tg65 : decide ((c : Int) ≥ 65) = false := decide_eq_false (by omega)
        have tl90 : decide ((c : Int) ≤ 90) = true := decide_eq_true (by omega)
        have ts48 : decide ((c : Int) < 48) = true := decide_eq_true (by omega)
        have tb57 : decide ((c : Int) > 57) = false := decide_eq_false (by omega)
        have e46 : ((c : Int) != 46) = true := by simp; omega
        have e58 : ((c : Int) != 58) = true := by simp; omega
        have e45 : ((c : Int) != 45) = true := by simp; omega
        clear hc hv1 hv2
        go_wp2_with fail
        go_ret
        exact ⟨ret_bool HN.out.symm, hB⟩
      · obtain ⟨hv1, hv2⟩ := hv
        have HA2 := Lib.hid (show ∀ i, i < k + 1 → goodB (chN s i) = true from fun i hi => by
          rcases Nat.lt_or_ge i k with h | h
          · exact HA.out i h
          · obtain rfl : i = k := by omega
            rw [hc]; unfold goodB; simp; omega)
        have tg97 : decide ((c : Int) ≥ 97) = false := decide_eq_false (by omega)
        have tl122 : decide ((c : Int) ≤ 122) = true := decide_eq_true (by omega)
        have tg65 : decide ((c : Int) ≥ 65) = false := decide_eq_false (by omega)
        have tl90 : decide ((c : Int) ≤ 90) = true := decide_eq_true (by omega)
        have ts48 : decide ((c : Int) < 48) = true := decide_eq_true (by omega)
        have tb57 : decide ((c : Int) > 57) = false := decide_eq_false (by omega)
        have e46 : ((c : Int) != 46) = true := by simp; omega
        have e58 : ((c : Int) != 58) = true := by simp; omega
        have e45 : ((c : Int) != 45) = false := by rw [show (c : Int) = 45 by omega]; rfl
        clear hc hv1 hv2
        go_wp2_with fail
        go_roundw
        case rel => exact ⟨k + 1, by have := HP.out; omega, by go_num, HA2, hB⟩
        case measure => have := HP.out; simp [intOf]; omega
      · obtain ⟨hv1, hv2⟩ := hv
        have HA2 := Lib.hid (show ∀ i, i < k + 1 → goodB (chN s i) = true from fun i hi => by
          rcases Nat.lt_or_ge i k with h | h
          · exact HA.out i h
          · obtain rfl : i = k := by omega
            rw [hc]; unfold goodB; simp; omega)
        have tg97 : decide ((c : Int) ≥ 97) = false := decide_eq_false (by omega)
        have tl122 : decide ((c : Int) ≤ 122) = true := decide_eq_true (by omega)
        have tg65 : decide ((c : Int) ≥ 65) = false := decide_eq_false (by omega)
        have tl90 : decide ((c : Int) ≤ 90) = true := decide_eq_true (by omega)
        have ts48 : decide ((c : Int) < 48) = true := decide_eq_true (by omega)
        have tb57 : decide ((c : Int) > 57) = false := decide_eq_false (by omega)
        have e46 : ((c : Int) != 46) = false := by rw [show (c : Int) = 46 by omega]; rfl
        have e58 : ((c : Int) != 58) = true := by simp; omega
        have e45 : ((c : Int) != 45) = true := by simp; omega
        clear hc hv1 hv2
        go_wp2_with fail
        go_roundw
        case rel => exact ⟨k + 1, by have := HP.out; omega, by go_num, HA2, hB⟩
        case measure => have := HP.out; simp [intOf]; omega
      · obtain ⟨hv1, hv2⟩ := hv
        have HN := Lib.hid (okA_no HP.out (show goodB (chN s k) = false by rw [hc]; unfold goodB; simp; omega))
        have tg97 : decide ((c : Int) ≥ 97) = false := decide_eq_false (by omega)
        have tl122 : decide ((c : Int) ≤ 122) = true := decide_eq_true (by omega)
        have tg65 : decide ((c : Int) ≥ 65) = false := decide_eq_false (by omega)
        have tl90 : decide ((c : Int) ≤ 90) = true := decide_eq_true (by omega)
        have ts48 : decide ((c : Int) < 48) = true := decide_eq_true (by omega)
        have tb57 : decide ((c : Int) > 57) = false := decide_eq_false (by omega)
        have e46 : ((c : Int) != 46) = true := by simp; omega
        have e58 : ((c : Int) != 58) = true := by simp; omega
        have e45 : ((c : Int) != 45) = true := by simp; omega
        clear hc hv1 hv2
        go_wp2_with fail
        go_ret
        exact ⟨ret_bool HN.out.symm, hB⟩
      · obtain ⟨hv1, hv2⟩ := hv
        have HA2 := Lib.hid (show ∀ i, i < k + 1 → goodB (chN s i) = true from fun i hi => by
          rcases Nat.lt_or_ge i k with h | h
          · exact HA.out i h
          · obtain rfl : i = k := by omega
            rw [hc]; unfold goodB; simp; omega)
        have tg97 : decide ((c : Int) ≥ 97) = false := decide_eq_false (by omega)
        have tl122 : decide ((c : Int) ≤ 122) = true := decide_eq_true (by omega)
        have tg65 : decide ((c : Int) ≥ 65) = false := decide_eq_false (by omega)
        have tl90 : decide ((c : Int) ≤ 90) = true := decide_eq_true (by omega)
        have ts48 : decide ((c : Int) < 48) = false := decide_eq_false (by omega)
        have tb57 : decide ((c : Int) > 57) = false := decide_eq_false (by omega)
        have e46 : ((c : Int) != 46) = true := by simp; omega
        have e58 : ((c : Int) != 58) = true := by simp; omega
        have e45 : ((c : Int) != 45) = true := by simp; omega
        clear hc hv1 hv2
        go_wp2_with fail
        go_roundw
        case rel => exact ⟨k + 1, by have := HP.out; omega, by go_num, HA2, hB⟩
        case measure => have := HP.out; simp [intOf]; omega
      · obtain ⟨hv1, hv2⟩ := hv
        have HA2 := Lib.hid (show ∀ i, i < k + 1 → goodB (chN s i) = true from fun i hi => by
          rcases Nat.lt_or_ge i k with h | h
          · exact HA.out i h
          · obtain rfl : i = k := by omega
            rw [hc]; unfold goodB; simp; omega)
        have tg97 : decide ((c : Int) ≥ 97) = false := decide_eq_false (by omega)
        have tl122 : decide ((c : Int) ≤ 122) = true := decide_eq_true (by omega)
        have tg65 : decide ((c : Int) ≥ 65) = false := decide_eq_false (by omega)
        have tl90 : decide ((c : Int) ≤ 90) = true := decide_eq_true (by omega)
        have ts48 : decide ((c : Int) < 48) = false := decide_eq_false (by omega)
        have tb57 : decide ((c : Int) > 57) = true := decide_eq_true (by omega)
        have e46 : ((c : Int) != 46) = true := by simp; omega
        have e58 : ((c : Int) != 58) = false := by rw [show (c : Int) = 58 by omega]; rfl
        have e45 : ((c : Int) != 45) = true := by simp; omega
        clear hc hv1 hv2
        go_wp2_with fail
        go_roundw
        case rel => exact ⟨k + 1, by have := HP.out; omega, by go_num, HA2, hB⟩
        case measure => have := HP.out; simp [intOf]; omega
      · obtain ⟨hv1, hv2⟩ := hv
        have HN := Lib.hid (okA_no HP.out (show goodB (chN s k) = false by rw [hc]; unfold goodB; simp; omega))
        have tg97 : decide ((c : Int) ≥ 97) = false := decide_eq_false (by omega)
        have tl122 : decide ((c : Int) ≤ 122) = true := decide_eq_true (by omega)
        have tg65 : decide ((c : Int) ≥ 65) = false := decide_eq_false (by omega)
        have tl90 : decide ((c : Int) ≤ 90) = true := decide_eq_true (by omega)
        have ts48 : decide ((c : Int) < 48) = false := decide_eq_false (by omega)
        have tb57 : decide ((c : Int) > 57) = true := decide_eq_true (by omega)
        have e46 : ((c : Int) != 46) = true := by simp; omega
        have e58 : ((c : Int) != 58) = true := by simp; omega
        have e45 : ((c : Int) != 45) = true := by simp; omega
        clear hc hv1 hv2
        go_wp2_with fail
        go_ret
        exact ⟨ret_bool HN.out.symm, hB⟩
      · obtain ⟨hv1, hv2⟩ := hv
        have HA2 := Lib.hid (show ∀ i, i < k + 1 → goodB (chN s i) = true from fun i hi => by
          rcases Nat.lt_or_ge i k with h | h
          · exact HA.out i h
          · obtain rfl : i = k := by omega
            rw [hc]; unfold goodB; simp; omega)
        have tg97 : decide ((c : Int) ≥ 97) = false := decide_eq_false (by omega)
        have tl122 : decide ((c : Int) ≤ 122) = true := decide_eq_true (by omega)
        have tg65 : decide ((c : Int) ≥ 65) = true := decide_eq_true (by omega)
        have tl90 : decide ((c : Int) ≤ 90) = true := decide_eq_true (by omega)
        have ts48 : decide ((c : Int) < 48) = false := decide_eq_false (by omega)
        have tb57 : decide ((c : Int) > 57) = true := decide_eq_true (by omega)
        have e46 : ((c : Int) != 46) = true := by simp; omega
        have e58 : ((c : Int) != 58) = true := by simp; omega
        have e45 : ((c : Int) != 45) = true := by simp; omega
        clear hc hv1 hv2
        go_wp2_with fail
        go_roundw
        case rel => exact ⟨k + 1, by have := HP.out; omega, by go_num, HA2, hB⟩
        case measure => have := HP.out; simp [intOf]; omega
      · obtain ⟨hv1, hv2⟩ := hv
        have HN := Lib.hid (okA_no HP.out (show goodB (chN s k) = false by rw [hc]; unfold goodB; simp; omega))
        have tg97 : decide ((c : Int) ≥ 97) = false := decide_eq_false (by omega)
        have tl122 : decide ((c : Int) ≤ 122) = true := decide_eq_true (by omega)
        have tg65 : decide ((c : Int) ≥ 65) = true := decide_eq_true (by omega)
        have tl90 : decide ((c : Int) ≤ 90) = false := decide_eq_false (by omega)
        have ts48 : decide ((c : Int) < 48) = false := decide_eq_false (by omega)
        have tb57 : decide ((c : Int) > 57) = true := decide_eq_true (by omega)
        have e46 : ((c : Int) != 46) = true := by simp; omega
        have e58 : ((c : Int) != 58) = true := by simp; omega
        have e45 : ((c : Int) != 45) = true := by simp; omega
        clear hc hv1 hv2
        go_wp2_with fail
        go_ret
        exact ⟨ret_bool HN.out.symm, hB⟩
      · obtain ⟨hv1, hv2⟩ := hv
        have HA2 := Lib.hid (show ∀ i, i < k + 1 → goodB (chN s i) = true from fun i hi => by
          rcases Nat.lt_or_ge i k with h | h
          · exact HA.out i h
          · obtain rfl : i = k := by omega
            rw [hc]; unfold goodB; simp; omega)
        have tg97 : decide ((c : Int) ≥ 97) = true := decide_eq_true (by omega)
        have tl122 : decide ((c : Int) ≤ 122) = true := decide_eq_true (by omega)
        have tg65 : decide ((c : Int) ≥ 65) = true := decide_eq_true (by omega)
        have tl90 : decide ((c : Int) ≤ 90) = false := decide_eq_false (by omega)
        have ts48 : decide ((c : Int) < 48) = false := decide_eq_false (by omega)
        have tb57 : decide ((c : Int) > 57) = true := decide_eq_true (by omega)
        have e46 : ((c : Int) != 46) = true := by simp; omega
        have e58 : ((c : Int) != 58) = true := by simp; omega
        have e45 : ((c : Int) != 45) = true := by simp; omega
        clear hc hv1 hv2
        go_wp2_with fail
        go_roundw
        case rel => exact ⟨k + 1, by have := HP.out; omega, by go_num, HA2, hB⟩
        case measure => have := HP.out; simp [intOf]; omega
      · obtain ⟨hv1, hv2⟩ := hv
        have HN := Lib.hid (okA_no HP.out (show goodB (chN s k) = false by rw [hc]; unfold goodB; simp; omega))
        have tg97 : decide ((c : Int) ≥ 97) = true := decide_eq_true (by omega)
        have tl122 : decide ((c : Int) ≤ 122) = false := decide_eq_false (by omega)
        have tg65 : decide ((c : Int) ≥ 65) = true := decide_eq_true (by omega)
        have tl90 : decide ((c : Int) ≤ 90) = false := decide_eq_false (by omega)
        have ts48 : decide ((c : Int) < 48) = false := decide_eq_false (by omega)
        have tb57 : decide ((c : Int) > 57) = true := decide_eq_true (by omega)
        have e46 : ((c : Int) != 46) = true := by simp; omega
        have e58 : ((c : Int) != 58) = true := by simp; omega
        have e45 : ((c : Int) != 45) = true := by simp; omega
        clear hc hv1 hv2
        go_wp2_with fail
        go_ret
        exact ⟨ret_bool HN.out.symm, hB⟩
    · have i1 : ¬ (k : Int) < (s.size : Int) := by omega
      have HD := Lib.hid (show ∀ i, i < s.size → goodB (chN s i) = true from fun i hi => HA.out i (by omega))
      clear hlt hk HA
      by_cases h1 : 1 ≤ s.size
      · have j1 : (s.size : Int) ≥ 1 := by omega
        by_cases h2 : s.size ≤ 100
        · have j2 : (s.size : Int) ≤ 100 := by omega
          have HN := Lib.hid (okA_all h1 h2 HD.out)
          clear h1 h2
          go_wp2_with fail
          go_ret
          exact ⟨ret_bool HN.out.symm, hB⟩
        · have j2 : ¬ (s.size : Int) ≤ 100 := by omega
          have HN := Lib.hid (okA_long (show 100 < s.size by omega))
          clear h1 h2
          go_wp2_with fail
          go_ret
          exact ⟨ret_bool HN.out.symm, hB⟩
      · have j1 : ¬ (s.size : Int) ≥ 1 := by omega
        have HN := Lib.hid (okA_nil (show s.size = 0 by omega))
        clear h1
        go_wp2_with fail
        go_ret
        exact ⟨ret_bool HN.out.symm, hB⟩

set_option maxHeartbeats 1600000 in
theorem rfirst (s : ByteArray) (w : World) (hlen : s.size ≤ 9223372036854775807) :
    Calls Try.prog 11 #[.string s] w fun e w' => e = .returned (.string (plA s)) ∧ Below w.heap.size w w' := by
  have HLN := Lib.hid hlen
  obtain ⟨z, hz⟩ : ∃ z, okA s = z := ⟨_, rfl⟩
  have HZ := Lib.hid hz
  clear hz hlen
  cases z with
  | true =>
    rw [plA_ok HZ.out]
    go_enter Try.func11, Try.ntmps11
    go_wp2_with fail
    refine (rright s _ HLN.out).mono ?_
    rintro e w1 ⟨rfl, hB⟩
    rw [HZ.out]
    go_wp2_with fail
    go_ret
    exact ⟨rfl, hB⟩
  | false =>
    rw [plA_no HZ.out]
    go_enter Try.func11, Try.ntmps11
    go_wp2_with fail
    refine (rright s _ HLN.out).mono ?_
    rintro e w1 ⟨rfl, hB⟩
    rw [HZ.out]
    go_wp2_with fail
    go_ret
    exact ⟨rfl, hB⟩

set_option maxHeartbeats 1600000 in
theorem pcompare (a b : ByteArray) (w : World) :
    Calls Try.prog 17 #[.string a, .string b] w fun e w' => e = .returned (.int .i64 (Lib.compareBytes a.data.toList b.data.toList)) ∧ w' = w := by
  go_enter Try.func17, Try.ntmps17
  go_wp2_with fail
  refine (Try.strings_Compare a b _).mono ?_
  rintro e w1 ⟨rfl, rfl⟩
  go_wp2_with fail
  go_ret
  exact ⟨rfl, rfl⟩
/-- The order of strings: that of their bytes. -/
theorem cmp_range : ∀ (a b : List UInt8), Lib.compareBytes a b = -1 ∨ Lib.compareBytes a b = 0 ∨ Lib.compareBytes a b = 1
  | [], [] => .inr (.inl rfl)
  | [], _ :: _ => .inl rfl
  | _ :: _, [] => .inr (.inr rfl)
  | a :: u, b :: v => by
    unfold Lib.compareBytes
    split
    · exact .inl rfl
    · split
      · exact .inr (.inr rfl)
      · exact cmp_range u v
theorem cmp_swap : ∀ (a b : List UInt8), Lib.compareBytes b a = - Lib.compareBytes a b
  | [], [] => rfl
  | [], _ :: _ => rfl
  | _ :: _, [] => rfl
  | a :: u, b :: v => by
    unfold Lib.compareBytes
    by_cases h1 : a < b
    · have h2 : ¬ b < a := fun h => by
        have := UInt8.lt_iff_toNat_lt.1 h1; have := UInt8.lt_iff_toNat_lt.1 h; omega
      rw [if_pos h1, if_neg h2, if_pos h1]; rfl
    · by_cases h2 : b < a
      · simp [h1, h2]
      · rw [if_neg h1, if_neg h2, if_neg h2, if_neg h1]
        exact cmp_swap u v
/-- Is a before b? -/
def lessA (a b : ByteArray) : Bool := decide (Lib.compareBytes a.data.toList b.data.toList < 0)
theorem cmp_drop (a b : ByteArray) (i : Nat) (ha : i < a.size) (hb : i < b.size) : Lib.compareBytes (a.data.toList.drop i) (b.data.toList.drop i) = if chN a i < chN b i then -1 else if chN b i < chN a i then 1 else Lib.compareBytes (a.data.toList.drop (i + 1)) (b.data.toList.drop (i + 1)) := by
  have h1 : i < a.data.toList.length := by simpa using ha
  have h2 : i < b.data.toList.length := by simpa using hb
  rw [List.drop_eq_getElem_cons h1, List.drop_eq_getElem_cons h2]
  have e : ∀ (s : ByteArray) (h : i < s.data.toList.length), (s.data.toList[i]).toNat = chN s i := fun s h => by unfold chN; rw [List.getD_eq_getElem?_getD, List.getElem?_eq_getElem h]; rfl
  rw [show ∀ (x y : UInt8) (u v : List UInt8), Lib.compareBytes (x :: u) (y :: v) = if x < y then -1 else if y < x then 1 else Lib.compareBytes u v from fun _ _ _ _ => by rw [Lib.compareBytes]]
  simp only [UInt8.lt_iff_toNat_lt, e a h1, e b h2]
theorem cmp_end (a b : ByteArray) (i : Nat) (hi : i = a.size ∧ i ≤ b.size ∨ i = b.size ∧ i ≤ a.size) : decide (Lib.compareBytes (a.data.toList.drop i) (b.data.toList.drop i) < 0) = decide (a.size < b.size) := by
  have la : a.data.toList.length = a.size := by simp
  have lb : b.data.toList.length = b.size := by simp
  rcases hi with ⟨rfl, h⟩ | ⟨rfl, h⟩
  · rw [List.drop_eq_nil_of_le (show a.data.toList.length ≤ a.size by omega)]
    rcases Nat.lt_or_ge a.size b.size with h1 | h1
    · rw [List.drop_eq_getElem_cons (show a.size < b.data.toList.length by omega), decide_eq_true (show a.size < b.size by omega)]; rfl
    · rw [List.drop_eq_nil_of_le (show b.data.toList.length ≤ a.size by omega), decide_eq_false (show ¬ a.size < b.size by omega)]; rfl
  · rw [List.drop_eq_nil_of_le (show b.data.toList.length ≤ b.size by omega), decide_eq_false (show ¬ a.size < b.size by omega)]
    rcases Nat.lt_or_ge b.size a.size with h1 | h1
    · rw [List.drop_eq_getElem_cons (show b.size < a.data.toList.length by omega)]; rfl
    · rw [List.drop_eq_nil_of_le (show a.data.toList.length ≤ b.size by omega)]; rfl

set_option maxHeartbeats 4000000 in
theorem rless (a b : ByteArray) (w : World) (hlen : a.size ≤ 9223372036854775807) :
    Calls Try.prog 19 #[.string a, .string b] w fun e w' => e = .returned (.bool (lessA a b)) ∧ Below w.heap.size w w' := by
  go_enter Try.func19, Try.ntmps19
  go_wp2_with fail
  go_loopw [5] (fun i wr => ∃ k : Nat, (k ≤ a.size ∧ k ≤ b.size) ∧ i = .int .i64 k ∧ Hid (lessA a b = decide (Lib.compareBytes (a.data.toList.drop k) (b.data.toList.drop k) < 0)) ∧ Below w.heap.size w wr) (fun i _ => a.size - (intOf i).toNat)
  case atStart => exact ⟨0, ⟨Nat.zero_le _, Nat.zero_le _⟩, rfl, Lib.hid rfl, Below.refl _ _⟩
  case round =>
    obtain ⟨k, hk, rfl, HA, hB⟩ := hrel
    have HK := Lib.hid hk
    by_cases ha : k < a.size
    · have i1 : (k : Int) < (a.size : Int) := by omega
      by_cases hb : k < b.size
      · have i2 : (k : Int) < (b.size : Int) := by omega
        have hixa := run_ix a k ha
        have hixb := run_ix b k hb
        have HP := Lib.hid (And.intro ha hb)
        obtain ⟨x, hx⟩ : ∃ x, chN a k = x := ⟨_, rfl⟩
        obtain ⟨y, hy⟩ : ∃ y, chN b k = y := ⟨_, rfl⟩
        have HC := Lib.hid (cmp_drop a b k ha hb)
        rw [hx, hy] at HC
        rw [hx] at hixa
        rw [hy] at hixb
        clear hk ha hb hx hy
        by_cases he : x = y
        · subst he
          have HC2 := Lib.hid (HA.out.trans (by rw [HC.out, if_neg (Nat.lt_irrefl _), if_neg (Nat.lt_irrefl _)]))
          clear HC HA
          go_wp2_with fail
          go_quiet (fail)
          have hB2 := below_drewN hB nq
          generalize wr.drewN nq = W2 at *
          go_wp2_with fail
          go_roundw
          case rel => exact ⟨k + 1, by have := HP.out; omega, by go_num, HC2, hB2⟩
          case measure => have := HP.out; simp [intOf]; omega
        · have j1 : ((x : Int) != (y : Int)) = true := by simp; omega
          have j2 : (x : Int) ≠ (y : Int) := by omega
          obtain ⟨z, hz⟩ : ∃ z, decide (x < y) = z := ⟨_, rfl⟩
          have HZ := Lib.hid (show lessA a b = z from by
            rw [HA.out, HC.out, ← hz]
            by_cases h : x < y
            · rw [if_pos h, decide_eq_true h]; rfl
            · rw [if_neg h, if_pos (by omega), decide_eq_false h]; rfl)
          skip
          clear HC HA he
          go_wp2_with fail
          go_quiet (fail)
          have hB2 := below_drewN hB nq
          generalize wr.drewN nq = W2 at *
          go_wp2_with fail
          go_quiet (fail)
          have hB3 := below_drewN hB2 nq
          generalize W2.drewN nq = W3 at *
          go_wp2_with fail
          go_ret
          exact ⟨ret_bool (by rw [HZ.out]), hB3⟩
      · have i2 : ¬ (k : Int) < (b.size : Int) := by omega
        have HN := Lib.hid (HA.out.trans (cmp_end a b k (by omega)))
        clear hk ha hb HA
        go_wp2_with fail
        go_ret
        exact ⟨ret_bool HN.out.symm, hB⟩
    · have i1 : ¬ (k : Int) < (a.size : Int) := by omega
      have HN := Lib.hid (HA.out.trans (cmp_end a b k (by omega)))
      clear hk ha HA
      go_wp2_with fail
      go_ret
      exact ⟨ret_bool HN.out.symm, hB⟩
end Go.Proofs.Ytfpniipbdkdhlaa
