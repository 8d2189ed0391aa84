/-
  Contracts of package bits and of the reference package of layer 1, by walks through their texts, one after the other; what was there stays as it was.
-/
import Derived.Test.YtmfmcbghofcafaaRows
import Derived.Test.YtmfmcbghofcafaaFre
import Derived.WalkSpells
import Derived.Deep.QuietTactic
import Derived.BigQuiet
import Derived.RegionTactic
namespace Go.Proofs.Ytmfmcbghofcafaa

/-! Contracts of the functions of package bits and of the reference package of layer 1, each by a walk through its text: what it returns for slices of bytes of less than 2^47 bytes and for any words; none writes what was there. -/
section
open Go.RowKit
set_option linter.unusedVariables false

theorem ret_of {k : IntKind} {a b : Int} (h : a = b) : Ending.returned (.int k a) = .returned (.int k b) := by rw [h]
theorem ret_bool {a b : Bool} (h : a = b) : Ending.returned (.bool a) = .returned (.bool b) := by rw [h]
theorem val_of {k : IntKind} {a b : Int} (h : a = b) : Value.int k a = .int k b := by rw [h]

theorem take_snoc (l : List UInt8) (k : Nat) (h : k < l.length) : l.take (k + 1) = l.take k ++ [l[k]?.getD 0] := by
  rw [List.take_succ_eq_append_getElem h]; simp [List.getElem?_eq_getElem h]

/-! ### Numbers -/
theorem step_num (x : Nat) (b : UInt8) (hx : x < 18446744073709551616) : IntKind.u64.wrap (IntKind.u64.wrap ((x : Int) * 256) + IntKind.u64.wrap (b.toNat : Int)) = ((x * 256 + b.toNat) % 18446744073709551616 : Nat) := by
  have := b.toNat_lt
  simp only [IntKind.wrap_u64]
  omega

theorem step_num8 (x : Nat) (b : UInt8) (hx : x < 18446744073709551616) : bits .or .u64 (IntKind.u64.wrap ((x : Int) * 256)) (IntKind.u64.wrap (b.toNat : Int)) = ((x * 256 + b.toNat) % 18446744073709551616 : Nat) := by
  have hb := b.toNat_lt
  have e1 : IntKind.u64.wrap ((x : Int) * 256) = ((x * 256 % 18446744073709551616 : Nat) : Int) := by rw [IntKind.wrap_u64]; omega
  have e2 : IntKind.u64.wrap (b.toNat : Int) = (b.toNat : Int) := by rw [IntKind.wrap_u64]; omega
  rw [e1, e2, or_u64 _ _ (Nat.mod_lt _ (by decide)) (by omega)]
  have e3 : x * 256 % 18446744073709551616 = 2 ^ 8 * (x % 72057594037927936) := by
    rw [show 18446744073709551616 = 256 * 72057594037927936 by decide, Nat.mul_comm x, Nat.mul_mod_mul_left]
  rw [e3, ← Nat.two_pow_add_eq_or_of_lt (by simpa using hb)]
  congr 1
  rw [← e3]
  omega

end

/-! Contracts of the functions of package bits and of the reference package of layer 1 that make bytes, each by a walk through its text: what it returns, in memory of its own; none writes what was there. -/
section
open Go.RowKit
set_option linter.unusedVariables false
set_option maxRecDepth 100000

theorem info8 : (Try.prog.info? 5).map (fun i => (i.zero, i.size, i.bytes)) = some (some (.int .u8 0), 1, 1) := by kernel_rfl

/-- A slice of bytes that the call made itself. -/
def Own (w : World) (B : Nat) (A : Option Addr) (n c : Nat) (l : List UInt8) : Prop := w.ownsRow B 5 1 (.slice A n c) n (l.map b8)
theorem Own.sl {w : World} {B : Nat} {A : Option Addr} {n c : Nat} {l : List UInt8} (h : Own w B A n c l) : Sl w w.heap.size A n l := Sl.of_own h
theorem Own.cap {w : World} {B : Nat} {A : Option Addr} {n c : Nat} {l : List UInt8} (h : Own w B A n c l) : n ≤ c ∧ c ≤ maxLen := own_cap h

theorem conv8 (y : Nat) : ((y : Int) % 256) = ((UInt8.ofNat y).toNat : Int) := by
  have e : (UInt8.ofNat y).toNat = y % 256 := UInt8.toNat_ofNat'
  rw [e]; omega

theorem refBytes_step {w wr w1 : World} {B x k c : Nat} {A : Option Addr} {v1 : Value} {q : Int} (hq : q = ((UInt8.ofNat (x / 256 ^ k)).toNat : Int))
    (hown : Own wr B A k c (byt x k)) (hbel : Below B w wr) (hB : B ≤ wr.heap.size)
    (hown1 : w1.ownsRow B 5 1 v1 (1 + k) (#[Value.int .u8 q].toList ++ (byt x k).map b8))
    (hg1 : (wr.alloc (.cells #[Value.int .u8 q] 5)).grownBy w1 (Value.slice (some ⟨wr.heap.size, 0, none⟩) 1 1).ownBlock) :
    ∃ (A1 : Option Addr) (c1 : Nat), v1 = .slice A1 (k + 1) c1 ∧ Own w1 B A1 (k + 1) c1 (byt x (k + 1)) ∧ Below B w w1 := by
  rw [Nat.add_comm 1 k] at hown1
  obtain ⟨A1, c1, rfl⟩ := own_shape hown1
  refine ⟨A1, c1, rfl, ?_, (hbel.alloc hB _).grown hg1 (by simp; omega) (fun g hg => ?_)⟩
  · subst hq
    exact hown1
  · simp [Value.ownBlock] at hg
    omega

theorem shr8 (q k : Nat) : (q : Int) / 2 ^ (8 * k) % 256 = ((UInt8.ofNat (q / 256 ^ k)).toNat : Int) := by
  have e : (UInt8.ofNat (q / 256 ^ k)).toNat = q / 256 ^ k % 256 := UInt8.toNat_ofNat'
  have h : (2 : Int) ^ (8 * k) = ((256 ^ k : Nat) : Int) := by
    rw [Int.natCast_pow, Int.pow_mul]
    congr 1
  rw [e, h, Int.natCast_emod, Int.natCast_ediv]; rfl

/-- A row of n bytes at the head of a block of the call's own. -/
def Row8 (w : World) (B : Nat) (a : Addr) (n : Nat) (l : List UInt8) : Prop := w.ownsRow B 5 1 (.slice (some ⟨a.block, 0, none⟩) n n) n (l.map b8)
theorem Row8.cell {w : World} {B g n : Nat} {l : List UInt8} (h : Row8 w B ⟨g, 0, none⟩ n l) (j : Nat) (hj : j < n) : ∃ u, w.cell? ⟨g, j, none⟩ = some u := by
  have h1 : (l.map b8).length = n := by simpa using h.1
  refine ⟨(l.map b8)[j]'(by omega), ?_⟩
  rw [World.ownsRow.cellAt h j (by omega), List.getElem?_eq_getElem]
theorem Row8.frozen {w : World} {B g n : Nat} {l : List UInt8} (h : Row8 w B ⟨g, 0, none⟩ n l) (j : Nat) : w.frozen? ⟨g, j, none⟩ = false := World.ownsRow.frozenAt h j
theorem Row8.own {w : World} {B g n : Nat} {l : List UInt8} (h : Row8 w B ⟨g, 0, none⟩ n l) : Own w B (some ⟨g, 0, none⟩) n n l := h
theorem Row8.made {w : World} {B g n : Nat} (h : w.ownsRow B 5 1 (.slice (some ⟨g, 0, none⟩) n n) n (madeCells (Value.int .u8 0).cells (n * 1)).toList) : Row8 w B ⟨g, 0, none⟩ n (List.replicate n 0) := by
  have e : (madeCells (Value.int .u8 0).cells (n * 1)).toList = (List.replicate n (0 : UInt8)).map b8 := by
    rw [show (Value.int .u8 0).cells = #[Value.int .u8 0] from rfl, Nat.mul_one, toList_madeCells_one, List.map_replicate]; rfl
  rw [e] at h
  exact h
theorem Row8.store {w : World} {B g n : Nat} {l : List UInt8} (h : Row8 w B ⟨g, 0, none⟩ n l) (j : Nat) (u : UInt8) : Row8 (w.setCell ⟨g, j, none⟩ (b8 u)) B ⟨g, 0, none⟩ n (l.set j u) := by
  have := (World.ownsRow.stored h j (b8 u)).1
  unfold Row8
  rw [List.map_set]
  exact this

theorem byt_store (x t k : Nat) (hk : k < t) : (List.replicate (t - k) (0 : UInt8) ++ byt x k).set (t - 1 - k) (UInt8.ofNat (x / 256 ^ k)) = List.replicate (t - (k + 1)) 0 ++ byt x (k + 1) := by
  have e : t - k = (t - (k + 1)) + 1 := by omega
  rw [e, List.replicate_succ', List.append_assoc, List.set_append_right _ _ (by simp; omega)]
  simp only [List.length_replicate, byt]
  rw [show t - 1 - k - (t - (k + 1)) = 0 by omega]
  rfl

end

/-! Contracts of the functions of package bits and of the reference package of layer 1 that only read: rotations, comparing, zeros, a bit; each by a walk through its text, for slices of bytes of less than 2^47 bytes and for any words. -/
section
open Go.RowKit
set_option linter.unusedVariables false

/-! ### Rotations -/
theorem step_rot (x : Nat) (hx : x < 4294967296) : (x : Int) * 2 % 4294967296 + (x : Int) / 2147483648 = ((rot1 x : Nat) : Int) := by
  unfold rot1
  omega

/-! ### Comparing -/
theorem xor_eq_zero (a b : UInt8) : (a ^^^ b).toNat = 0 ↔ a = b := by
  constructor
  · intro h
    have h1 : a ^^^ b = 0 := UInt8.toNat_inj.1 (by simpa using h)
    have h2 : (a ^^^ b) ^^^ b = 0 ^^^ b := by rw [h1]
    simpa [UInt8.xor_assoc] using h2
  · rintro rfl; simp

theorem diff_step (d : Nat) (a b : UInt8) (hd : d < 256) : ∃ d' : Nat, d' < 256 ∧ bits .or .u8 (d : Int) (bits .xor .u8 (a.toNat : Int) (b.toNat : Int)) = (d' : Int) ∧ (d' = 0 ↔ d = 0 ∧ a = b) := by
  have hx := (a ^^^ b).toNat_lt
  refine ⟨d ||| (a ^^^ b).toNat, Nat.or_lt_two_pow (n := 8) hd hx, ?_, ?_⟩
  · rw [xor_u8, or_u8 _ _ hd hx]
  · rw [Nat.or_eq_zero_iff, xor_eq_zero]

/-! ### Zeros and a bit -/
theorem lowbit (x k : Nat) (hx : x < 18446744073709551616) : bits .and .u64 ((x : Int) / 2 ^ k) 1 = ((x / 2 ^ k % 2 : Nat) : Int) := by
  have e : (x : Int) / 2 ^ k = ((x / 2 ^ k : Nat) : Int) := by simp
  rw [e, and1_u64 _ (Nat.lt_of_le_of_lt (Nat.div_le_self _ _) hx)]

theorem and1_shift (y : UInt8) (j : Nat) : bits .and .i64 ((y.toNat : Int) / 2 ^ j) 1 = ((y.toNat / 2 ^ j % 2 : Nat) : Int) := by
  have hy := y.toNat_lt
  have e : (y.toNat : Int) / 2 ^ j = ((y.toNat / 2 ^ j : Nat) : Int) := by simp
  rw [e, and1_i64 _ (Nat.lt_of_le_of_lt (Nat.div_le_self _ _) (by omega))]
theorem wrap_shift (y : UInt8) (j : Nat) : wrap64 ((y.toNat : Int) / 2 ^ j) = (y.toNat : Int) / 2 ^ j := by
  have hy := y.toNat_lt
  have e : (y.toNat : Int) / 2 ^ j = ((y.toNat / 2 ^ j : Nat) : Int) := by simp
  have := Nat.div_le_self y.toNat (2 ^ j)
  rw [e]
  generalize y.toNat / 2 ^ j = q at *
  exact IntWalk.wrap64_in _ (by omega)

end
end Go.Proofs.Ytmfmcbghofcafaa
