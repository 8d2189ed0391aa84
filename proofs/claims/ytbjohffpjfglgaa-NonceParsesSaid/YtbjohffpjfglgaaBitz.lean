/-
  Contracts of the functions of package bits and of the reference package of layer 1 that make bytes, each by a walk through its text: what it returns, in memory of its own; none writes what was there.
-/
import Derived.Test.YtbjohffpjfglgaaBits
namespace Go.Proofs.Ytbjohffpjfglgaa
open Go.RowKit
set_option linter.unusedVariables false

theorem info8 : (Try.prog.info? 5).map (fun i => (i.zero, i.size, i.bytes)) = some (some (.int .u8 0), 1, 1) := by kernel_rfl

/-- A slice of bytes that the call made itself. -/
def Own (w : World) (B : Nat) (A : Option Addr) (n c : Nat) (l : List UInt8) : Prop := w.ownsRow B 5 1 (.slice A n c) n (l.map b8)
theorem Own.sl {w : World} {B : Nat} {A : Option Addr} {n c : Nat} {l : List UInt8} (h : Own w B A n c l) : Sl w w.heap.size A n l := Sl.of_own h
theorem Own.cap {w : World} {B : Nat} {A : Option Addr} {n c : Nat} {l : List UInt8} (h : Own w B A n c l) : n ≤ c ∧ c ≤ maxLen := own_cap h

theorem conv8 (y : Nat) : ((y : Int) % 256) = ((UInt8.ofNat y).toNat : Int) := by
  have e : (UInt8.ofNat y).toNat = y % 256 := UInt8.toNat_ofNat'
  rw [e]; omega

theorem refBytes_step {w wr w1 : World} {B x k c : Nat} {A : Option Addr} {v1 : Value} {q : Int} (hq : q = ((UInt8.ofNat (x / 256 ^ k)).toNat : Int))
    (hown : Own wr B A k c (byt x k)) (hbel : Below B w wr) (hB : B ≤ wr.heap.size)
    (hown1 : w1.ownsRow B 5 1 v1 (1 + k) (#[Value.int .u8 q].toList ++ (byt x k).map b8))
    (hg1 : (wr.alloc (.cells #[Value.int .u8 q] 5)).grownBy w1 (Value.slice (some ⟨wr.heap.size, 0, none⟩) 1 1).ownBlock) :
    ∃ (A1 : Option Addr) (c1 : Nat), v1 = .slice A1 (k + 1) c1 ∧ Own w1 B A1 (k + 1) c1 (byt x (k + 1)) ∧ Below B w w1 := by
  rw [Nat.add_comm 1 k] at hown1
  obtain ⟨A1, c1, rfl⟩ := own_shape hown1
  refine ⟨A1, c1, rfl, ?_, (hbel.alloc hB _).grown hg1 (by simp; omega) (fun g hg => ?_)⟩
  · subst hq
    exact hown1
  · simp [Value.ownBlock] at hg
    omega

set_option maxHeartbeats 800000 in
theorem refBytes (x : Nat) (m : Int) (w : World) (hx : x < 18446744073709551616) (hm : -9223372036854775808 ≤ m ∧ m ≤ 9223372036854775807) :
    Calls Try.prog 22 #[.int .u64 x, .int .i64 m] w fun e w' =>
      ∃ A c, e = .returned (.slice A (min m.toNat 8) c) ∧ Own w' w.heap.size A (min m.toNat 8) c (byt x (min m.toNat 8)) ∧ Below w.heap.size w w' := by
  obtain ⟨i0, hi0, hz0, hz1, hz2⟩ := info_parts info8
  have hzs : (Value.int .u8 0).cells.size = 1 := rfl
  generalize ht : min m.toNat 8 = t
  have Ht := Lib.hid ht
  clear ht
  go_enter Try.func22, Try.ntmps22
  go_wp2
  go_loopw [0, 5, 6] (fun y v i wr => ∃ (k q : Nat) (A : Option Addr) (c : Nat), k ≤ t ∧ i = .int .i64 k ∧ y = .int .u64 (q : Int) ∧ Hid (q = x / 256 ^ k) ∧ q < 18446744073709551616 ∧ v = .slice A k c ∧ Own wr w.heap.size A k c (byt x k) ∧ Below w.heap.size w wr) (fun _ _ i _ => 8 - (intOf i).toNat)
  case atStart => exact ⟨0, x, none, 0, Nat.zero_le _, rfl, rfl, Lib.hid (by simp), hx, rfl, World.ownsRow_nil _ _ _ _, Below.refl _ _⟩
  case round =>
    obtain ⟨k, q, A, c, hk, rfl, rfl, hq, hq2, rfl, hown, hbel⟩ := hrel
    have hsl := hown.sl
    by_cases hlt : k < t
    · have hk1 : (k : Int) < m := by have := Ht.out; omega
      have hk2 : (k : Int) < 8 := by have := Ht.out; omega
      have hc := Lib.hid (conv8 q)
      have hB := hbel.size
      clear hx hm
      go_wp2_with (at_builtin
                   refine wpList_append_sl _ rfl (.tmp 19) (.tmp 20) _ rfl w.heap.size 5 i0 _ Try.underlying33 hi0 hz0 hz1 hz2 hzs _ 1 _ rfl (World.ownsRow_lit wr _ 1 hB (by simp [maxLen]) rfl) wr.heap.size A k c (byt x k) rfl (hsl.alloc (Nat.le_refl _) _) (by omega) (by simp; omega) ?_
                   intro v1 w1 hown1 hg1 hat1)
      obtain ⟨A1, c1, rfl, hown2, hbel2⟩ := refBytes_step (hc.out.trans (by rw [hq.out])) hown hbel hB hown1 hg1
      go_roundw
      case rel => exact ⟨k + 1, q / 256, A1, c1, by omega, by go_num, by simp, Lib.hid (by rw [Nat.pow_succ, ← Nat.div_div_eq_div_mul, ← hq.out]), by omega, rfl, hown2, hbel2⟩
      case measure => simp [intOf]; omega
    · obtain rfl : k = t := by omega
      by_cases hm8 : m ≤ 8
      · have hk1 : ¬ (k : Int) < m := by have := Ht.out; omega
        go_wp2
        go_ret
        exact ⟨A, c, rfl, hown, hbel⟩
      · have hk1 : (k : Int) < m := by have := Ht.out; omega
        have hk2 : ¬ (k : Int) < 8 := by have := Ht.out; omega
        go_wp2
        go_ret
        exact ⟨A, c, rfl, hown, hbel⟩


theorem shr8 (q k : Nat) : (q : Int) / 2 ^ (8 * k) % 256 = ((UInt8.ofNat (q / 256 ^ k)).toNat : Int) := by
  have e : (UInt8.ofNat (q / 256 ^ k)).toNat = q / 256 ^ k % 256 := UInt8.toNat_ofNat'
  have h : (2 : Int) ^ (8 * k) = ((256 ^ k : Nat) : Int) := by
    rw [Int.natCast_pow, Int.pow_mul]
    congr 1
  rw [e, h, Int.natCast_emod, Int.natCast_ediv]; rfl

/-- A row of n bytes at the head of a block of the call's own. -/
def Row8 (w : World) (B : Nat) (a : Addr) (n : Nat) (l : List UInt8) : Prop := w.ownsRow B 5 1 (.slice (some ⟨a.block, 0, none⟩) n n) n (l.map b8)
theorem Row8.cell {w : World} {B g n : Nat} {l : List UInt8} (h : Row8 w B ⟨g, 0, none⟩ n l) (j : Nat) (hj : j < n) : ∃ u, w.cell? ⟨g, j, none⟩ = some u := by
  have h1 : (l.map b8).length = n := by simpa using h.1
  refine ⟨(l.map b8)[j]'(by omega), ?_⟩
  rw [World.ownsRow.cellAt h j (by omega), List.getElem?_eq_getElem]
theorem Row8.frozen {w : World} {B g n : Nat} {l : List UInt8} (h : Row8 w B ⟨g, 0, none⟩ n l) (j : Nat) : w.frozen? ⟨g, j, none⟩ = false := World.ownsRow.frozenAt h j
theorem Row8.own {w : World} {B g n : Nat} {l : List UInt8} (h : Row8 w B ⟨g, 0, none⟩ n l) : Own w B (some ⟨g, 0, none⟩) n n l := h
theorem Row8.made {w : World} {B g n : Nat} (h : w.ownsRow B 5 1 (.slice (some ⟨g, 0, none⟩) n n) n (madeCells (Value.int .u8 0).cells (n * 1)).toList) : Row8 w B ⟨g, 0, none⟩ n (List.replicate n 0) := by
  have e : (madeCells (Value.int .u8 0).cells (n * 1)).toList = (List.replicate n (0 : UInt8)).map b8 := by
    rw [show (Value.int .u8 0).cells = #[Value.int .u8 0] from rfl, Nat.mul_one, toList_madeCells_one, List.map_replicate]; rfl
  rw [e] at h
  exact h
theorem Row8.store {w : World} {B g n : Nat} {l : List UInt8} (h : Row8 w B ⟨g, 0, none⟩ n l) (j : Nat) (u : UInt8) : Row8 (w.setCell ⟨g, j, none⟩ (b8 u)) B ⟨g, 0, none⟩ n (l.set j u) := by
  have := (World.ownsRow.stored h j (b8 u)).1
  unfold Row8
  rw [List.map_set]
  exact this

theorem byt_store (x t k : Nat) (hk : k < t) : (List.replicate (t - k) (0 : UInt8) ++ byt x k).set (t - 1 - k) (UInt8.ofNat (x / 256 ^ k)) = List.replicate (t - (k + 1)) 0 ++ byt x (k + 1) := by
  have e : t - k = (t - (k + 1)) + 1 := by omega
  rw [e, List.replicate_succ', List.append_assoc, List.set_append_right _ _ (by simp; omega)]
  simp only [List.length_replicate, byt]
  rw [show t - 1 - k - (t - (k + 1)) = 0 by omega]
  rfl

set_option maxHeartbeats 800000 in
theorem bytes_mid (x t : Nat) (w : World) (hx : x < 18446744073709551616) (ht0 : 0 < t) (ht : t ≤ 8) :
    Calls Try.prog 20 #[.int .u64 x, .int .i64 t] w fun e w' =>
      ∃ A c, e = .returned (.slice A t c) ∧ Own w' w.heap.size A t c (byt x t) ∧ Below w.heap.size w w' := by
  obtain ⟨i0, hi0, hz0, hz1, hz2⟩ := info_parts info8
  have hz := Lib.hid (fun w1 => @Row8.made w1 w.heap.size w.heap.size t)
  go_enter Try.func20, Try.ntmps20
  go_wp2_with (at_make; refine wpList_make_full _ rfl _ _ _ rfl w.heap.size 5 i0 _ 1 Try.underlying33 hi0 hz0 hz1 _ _ _ _ t rfl rfl rfl rfl (by rw [hz2]; omega) (by simp only [maxLen]; omega) (Nat.le_refl _) ?_
               intro w1 hown hg1)
  have hown0 := hz.out _ hown
  clear hown
  go_loopw [13] (fun i wr => ∃ k : Nat, k ≤ t ∧ i = .int .i64 k ∧ Row8 wr w.heap.size ⟨w.heap.size, 0, none⟩ t (List.replicate (t - k) 0 ++ byt x k) ∧ Below w.heap.size w wr) (fun i _ => t - (intOf i).toNat)
  case atStart => exact ⟨0, Nat.zero_le _, rfl, by simpa [byt] using hown0, (Below.refl _ _).grown hg1 (Nat.le_refl _) (fun _ h => by cases h)⟩
  case round =>
    obtain ⟨k, hk, rfl, hrow, hbel⟩ := hrel
    by_cases hlt : k < t
    · obtain ⟨u, hcell⟩ := hrow.cell (t - 1 - k) (by omega)
      have hfr := hrow.frozen (t - 1 - k)
      have hs := Lib.hid (shr8 x k)
      go_wp2
      go_roundw
      case rel =>
        have h2 := hrow.store (t - 1 - k) (UInt8.ofNat (x / 256 ^ k))
        rw [byt_store _ _ _ hlt] at h2
        unfold b8 at h2
        rw [← hs.out] at h2
        exact ⟨k + 1, by omega, by go_num, h2, hbel.setCell (Nat.le_refl _) _⟩
      case measure => simp [intOf]; omega
    · obtain rfl : k = t := by omega
      go_wp2
      go_ret
      have hrow := hrow.own
      rw [Nat.sub_self, List.replicate_zero, List.nil_append] at hrow
      exact ⟨_, _, rfl, hrow, hbel⟩

set_option maxHeartbeats 800000 in
theorem bytes_full (x : Nat) (m : Int) (w : World) (hx : x < 18446744073709551616) (hm : 8 < m) (hm2 : m ≤ 9223372036854775807) :
    Calls Try.prog 20 #[.int .u64 x, .int .i64 m] w fun e w' =>
      ∃ A c, e = .returned (.slice A 8 c) ∧ Own w' w.heap.size A 8 c (byt x 8) ∧ Below w.heap.size w w' := by
  obtain ⟨i0, hi0, hz0, hz1, hz2⟩ := info_parts info8
  have hz := Lib.hid (fun w1 => @Row8.made w1 w.heap.size w.heap.size 8)
  go_enter Try.func20, Try.ntmps20
  go_wp2_with (at_make; refine wpList_make_full _ rfl _ _ _ rfl w.heap.size 5 i0 _ 1 Try.underlying33 hi0 hz0 hz1 _ _ _ _ 8 rfl rfl rfl rfl (by rw [hz2]; omega) (by simp only [maxLen]; omega) (Nat.le_refl _) ?_
               intro w1 hown hg1)
  have hown0 := hz.out _ hown
  clear hown
  go_loopw [13] (fun i wr => ∃ k : Nat, k ≤ 8 ∧ i = .int .i64 k ∧ Row8 wr w.heap.size ⟨w.heap.size, 0, none⟩ 8 (List.replicate (8 - k) 0 ++ byt x k) ∧ Below w.heap.size w wr) (fun i _ => 8 - (intOf i).toNat)
  case atStart => exact ⟨0, Nat.zero_le _, rfl, by simpa [byt] using hown0, (Below.refl _ _).grown hg1 (Nat.le_refl _) (fun _ h => by cases h)⟩
  case round =>
    obtain ⟨k, hk, rfl, hrow, hbel⟩ := hrel
    by_cases hlt : k < 8
    · obtain ⟨u, hcell⟩ := hrow.cell (8 - 1 - k) (by omega)
      have hfr := hrow.frozen (8 - 1 - k)
      have hs := Lib.hid (shr8 x k)
      go_wp2
      go_roundw
      case rel =>
        have h2 := hrow.store (8 - 1 - k) (UInt8.ofNat (x / 256 ^ k))
        rw [byt_store _ _ _ hlt] at h2
        unfold b8 at h2
        rw [← hs.out] at h2
        exact ⟨k + 1, by omega, by go_num, h2, hbel.setCell (Nat.le_refl _) _⟩
      case measure => simp [intOf]; omega
    · obtain rfl : k = 8 := by omega
      go_wp2
      go_ret
      have hrow := hrow.own
      rw [Nat.sub_self, List.replicate_zero, List.nil_append] at hrow
      exact ⟨_, _, rfl, hrow, hbel⟩

set_option maxHeartbeats 800000 in
theorem bytes_none (x : Nat) (m : Int) (w : World) (hm : m ≤ 0) :
    Calls Try.prog 20 #[.int .u64 x, .int .i64 m] w fun e w' =>
      ∃ A c, e = .returned (.slice A 0 c) ∧ Own w' w.heap.size A 0 c (byt x 0) ∧ Below w.heap.size w w' := by
  obtain ⟨i0, hi0, hz0, hz1, hz2⟩ := info_parts info8
  have hz := Lib.hid (fun w1 => @Row8.made w1 w.heap.size w.heap.size 0)
  rcases Int.lt_or_eq_of_le hm with hm | rfl
  all_goals
    go_enter Try.func20, Try.ntmps20
    go_wp2_with (at_make; refine wpList_make_full _ rfl _ _ _ rfl w.heap.size 5 i0 _ 1 Try.underlying33 hi0 hz0 hz1 _ _ _ _ 0 rfl rfl rfl rfl (by rw [hz2]; omega) (by simp only [maxLen]; omega) (Nat.le_refl _) ?_
                 intro w1 hown hg1)
    have hown0 := hz.out _ hown
    clear hown
    refine wp_loop_rounds 1 ?_
    rw [rounds_succ]
    go_wp2
    go_ret
    exact ⟨_, _, rfl, hown0, (Below.refl _ _).grown hg1 (Nat.le_refl _) (fun _ h => by cases h)⟩

theorem bytes (x : Nat) (m : Int) (w : World) (hx : x < 18446744073709551616) (hm : -9223372036854775808 ≤ m ∧ m ≤ 9223372036854775807) :
    Calls Try.prog 20 #[.int .u64 x, .int .i64 m] w fun e w' =>
      ∃ A c, e = .returned (.slice A (min m.toNat 8) c) ∧ Own w' w.heap.size A (min m.toNat 8) c (byt x (min m.toNat 8)) ∧ Below w.heap.size w w' := by
  by_cases h0 : m ≤ 0
  · have e : min m.toNat 8 = 0 := by omega
    rw [e]; exact bytes_none x m w h0
  · by_cases h8 : 8 < m
    · have e : min m.toNat 8 = 8 := by omega
      rw [e]; exact bytes_full x m w hx h8 hm.2
    · obtain ⟨t, rfl⟩ := Int.eq_ofNat_of_zero_le (show 0 ≤ m by omega)
      have e : min ((t : Int)).toNat 8 = t := by omega
      rw [e]; exact bytes_mid x t w hx (by omega) (by omega)

end Go.Proofs.Ytbjohffpjfglgaa
