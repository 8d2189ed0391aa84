/-
  Stamps as functions on numbers, and contracts of package stamp and of the reference package of layer 16, each by a walk through its text. No condition but that each number is one of its type.
-/
import Derived.Test.YtkmpdkkggdcpbaaBits
import Derived.Deep.RegionHeld3
namespace Go.Proofs.Ytkmpdkkggdcpbaa
open Go.RowKit
set_option linter.unusedVariables false
set_option linter.unusedSimpArgs false
set_option maxRecDepth 100000

def dfN (a b : Nat) : Nat := (a + 65536 - b) % 65536
def adN (a : Nat) (n : Int) : Nat := (((a : Int) + n) % 65536).toNat
def ecN (a h : Nat) : Nat := if 1000 < h then 65535 else (a + h) % 65536
def bfN (a b : Nat) : Bool := decide (1 ≤ dfN b a ∧ dfN b a ≤ 32767)
def smN (x e : Nat) : Nat := if e = 65535 then 0 else dfN x e

theorem dfN_lt (a b : Nat) : dfN a b < 65536 := Nat.mod_lt _ (by decide)
theorem adN_lt (a : Nat) (n : Int) : adN a n < 65536 := by unfold adN; omega
theorem ecN_lt (a h : Nat) : ecN a h < 65536 := by unfold ecN; split <;> omega
theorem smN_lt (x e : Nat) : smN x e < 65536 := by unfold smN dfN; split <;> omega
theorem dfN_wrap {a b : Nat} (ha : a < 65536) (hb : b < 65536) : IntKind.u16.wrap ((a : Int) - b) = ((dfN a b : Nat) : Int) := by
  unfold dfN; rw [IntKind.wrap_u16]; omega
theorem adN_wrap {a : Nat} {n : Int} : IntKind.u16.wrap ((a : Int) + IntKind.u16.wrap n) = ((adN a n : Nat) : Int) := by
  unfold adN; rw [IntKind.wrap_u16, IntKind.wrap_u16]; omega
theorem stN_wrap (a : Nat) : IntKind.u16.wrap (a : Int) = ((a % 65536 : Nat) : Int) := by rw [IntKind.wrap_u16]; omega

theorem stof (a : Nat) (w : World) (ha : a < 18446744073709551616) :
    Calls Try.prog 10 #[.int .u64 (a : Int)] w fun e w' => e = .returned (.int .u16 (a % 65536 : Nat)) ∧ w' = w := by
  have h := Lib.hid (stN_wrap a)
  go_enter Try.func10, Try.ntmps10
  go_wp2
  go_ret
  exact ⟨ret_of h.out, rfl⟩
theorem rstof (a : Nat) (w : World) (ha : a < 18446744073709551616) :
    Calls Try.prog 11 #[.int .u64 (a : Int)] w fun e w' => e = .returned (.int .i64 (a % 65536 : Nat)) ∧ w' = w := by
  go_enter Try.func11, Try.ntmps11
  go_wp2
  go_ret
  exact ⟨ret_of (by omega), rfl⟩
theorem stdiff (a b : Nat) (w : World) (ha : a < 65536) (hb : b < 65536) :
    Calls Try.prog 12 #[.int .u16 (a : Int), .int .u16 (b : Int)] w fun e w' => e = .returned (.int .u16 (dfN a b : Nat)) ∧ w' = w := by
  have h := Lib.hid (dfN_wrap ha hb)
  go_enter Try.func12, Try.ntmps12
  go_wp2
  go_ret
  exact ⟨ret_of h.out, rfl⟩
theorem rstdiff (a b : Nat) (w : World) (ha : a < 65536) (hb : b < 65536) :
    Calls Try.prog 13 #[.int .i64 (a : Int), .int .i64 (b : Int)] w fun e w' => e = .returned (.int .i64 (dfN a b : Nat)) ∧ w' = w := by
  have h := Lib.hid (show ((a : Int) - b + 65536) % 65536 = ((dfN a b : Nat) : Int) by unfold dfN; omega)
  go_enter Try.func13, Try.ntmps13
  go_wp2
  go_ret
  exact ⟨ret_of h.out, rfl⟩
theorem stadd (a : Nat) (n : Int) (w : World) (ha : a < 65536) (hn : -9223372036854775808 ≤ n ∧ n ≤ 9223372036854775807) :
    Calls Try.prog 14 #[.int .u16 (a : Int), .int .i64 n] w fun e w' => e = .returned (.int .u16 (adN a n : Nat)) ∧ w' = w := by
  have h := Lib.hid (adN_wrap (a := a) (n := n))
  go_enter Try.func14, Try.ntmps14
  go_wp2
  go_ret
  exact ⟨ret_of h.out, rfl⟩
theorem stecho (a x : Nat) (w : World) (ha : a < 65536) (hx : x < 18446744073709551616) :
    Calls Try.prog 15 #[.int .u16 (a : Int), .int .u64 (x : Int)] w fun e w' => e = .returned (.int .u16 (ecN a x : Nat)) ∧ w' = w := by
  by_cases hc : 1000 < x
  · have e : ecN a x = 65535 := by unfold ecN; rw [if_pos hc]
    rw [e]
    clear e
    go_enter Try.func15, Try.ntmps15
    go_wp2_with fail
    go_ret
    exact ⟨rfl, rfl⟩
  · have e : IntKind.u16.wrap ((a : Int) + ((x % 65536 : Nat) : Int)) = ((ecN a x : Nat) : Int) := by unfold ecN; rw [if_neg hc, IntKind.wrap_u16]; omega
    have h := Lib.hid e
    clear e
    go_enter Try.func15, Try.ntmps15
    go_wp2_with fail
    refine (stof x _ hx).mono ?_
    rintro e w' ⟨rfl, rfl⟩
    go_wp2_with fail
    go_ret
    exact ⟨ret_of h.out, rfl⟩
theorem rstecho (a x : Nat) (w : World) (ha : a < 65536) (hx : x < 18446744073709551616) :
    Calls Try.prog 16 #[.int .i64 (a : Int), .int .u64 (x : Int)] w fun e w' => e = .returned (.int .i64 (ecN a x : Nat)) ∧ w' = w := by
  by_cases hc : 1000 < x
  · have e : ecN a x = 65535 := by unfold ecN; rw [if_pos hc]
    rw [e]
    clear e
    go_enter Try.func16, Try.ntmps16
    go_wp2_with fail
    go_ret
    exact ⟨rfl, rfl⟩
  · have h := Lib.hid (show ((a : Int) + (x : Int)) % 65536 = ((ecN a x : Nat) : Int) by unfold ecN; rw [if_neg hc]; omega)
    go_enter Try.func16, Try.ntmps16
    go_wp2_with fail
    go_ret
    exact ⟨ret_of h.out, rfl⟩
theorem stbefore (a b : Nat) (w : World) (ha : a < 65536) (hb : b < 65536) :
    Calls Try.prog 19 #[.int .u16 (a : Int), .int .u16 (b : Int)] w fun e w' => e = .returned (.bool (bfN a b)) ∧ w' = w := by
  have h := Lib.hid (show decide (IntKind.i16.wrap ((dfN b a : Nat) : Int) > 0) = bfN a b by
    have := dfN_lt b a
    unfold bfN
    generalize dfN b a = d at *
    apply decide_eq_decide.2
    simp only [IntKind.wrap, IntKind.bits, IntKind.signed]
    simp
    omega)
  go_enter Try.func19, Try.ntmps19
  go_wp2_with fail
  refine (stdiff b a _ hb ha).mono ?_
  rintro e w' ⟨rfl, rfl⟩
  go_wp2_with fail
  go_ret
  exact ⟨ret_bool h.out, rfl⟩
theorem rstsample (x e : Nat) (w : World) (hx : x < 65536) (he : e < 65536) :
    Calls Try.prog 18 #[.int .i64 (x : Int), .int .i64 (e : Int)] w fun r w' => r = .returned (.int .i64 (if e = 65535 then -1 else (dfN x e : Nat))) ∧ w' = w := by
  by_cases h0 : e = 65535
  · subst h0
    rw [if_pos rfl]
    go_enter Try.func18, Try.ntmps18
    go_wp2_with fail
    go_ret
    exact ⟨rfl, rfl⟩
  · rw [if_neg h0]
    go_enter Try.func18, Try.ntmps18
    go_wp2_with fail
    refine (rstdiff x e _ hx he).mono ?_
    rintro r w' ⟨rfl, rfl⟩
    go_wp2_with fail
    go_ret
    exact ⟨rfl, rfl⟩
end Go.Proofs.Ytkmpdkkggdcpbaa
