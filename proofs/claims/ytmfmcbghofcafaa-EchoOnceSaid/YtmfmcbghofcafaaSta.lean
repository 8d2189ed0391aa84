/-
  Stamps as functions on numbers, and contracts of package stamp and of the reference package of layer 16, each by a walk through its text. No condition but that each number is one of its type.
-/
import Derived.Test.YtmfmcbghofcafaaGbt
import Derived.Deep.RegionHeld3
namespace Go.Proofs.Ytmfmcbghofcafaa
open Go.RowKit
set_option linter.unusedVariables false
set_option linter.unusedSimpArgs false
set_option maxRecDepth 100000

def dfN (a b : Nat) : Nat := (a + 65536 - b) % 65536
def adN (a : Nat) (n : Int) : Nat := (((a : Int) + n) % 65536).toNat
def ecN (a h : Nat) : Nat := if 1000 < h then 65535 else (a + h) % 65536
def bfN (a b : Nat) : Bool := decide (1 ≤ dfN b a ∧ dfN b a ≤ 32767)
def smN (x e : Nat) : Nat := if e = 65535 then 0 else dfN x e

theorem dfN_lt (a b : Nat) : dfN a b < 65536 := Nat.mod_lt _ (by decide)
theorem adN_lt (a : Nat) (n : Int) : adN a n < 65536 := by unfold adN; omega
theorem ecN_lt (a h : Nat) : ecN a h < 65536 := by unfold ecN; split <;> omega
theorem smN_lt (x e : Nat) : smN x e < 65536 := by unfold smN dfN; split <;> omega
theorem dfN_wrap {a b : Nat} (ha : a < 65536) (hb : b < 65536) : IntKind.u16.wrap ((a : Int) - b) = ((dfN a b : Nat) : Int) := by
  unfold dfN; rw [IntKind.wrap_u16]; omega
theorem adN_wrap {a : Nat} {n : Int} : IntKind.u16.wrap ((a : Int) + IntKind.u16.wrap n) = ((adN a n : Nat) : Int) := by
  unfold adN; rw [IntKind.wrap_u16, IntKind.wrap_u16]; omega
theorem stN_wrap (a : Nat) : IntKind.u16.wrap (a : Int) = ((a % 65536 : Nat) : Int) := by rw [IntKind.wrap_u16]; omega

theorem stof (a : Nat) (w : World) (ha : a < 18446744073709551616) :
    Calls Try.prog 23 #[.int .u64 (a : Int)] w fun e w' => e = .returned (.int .u16 (a % 65536 : Nat)) ∧ w' = w := by
  have h := Lib.hid (stN_wrap a)
  go_enter Try.func23, Try.ntmps23
  go_wp2
  go_ret
  exact ⟨ret_of h.out, rfl⟩
theorem stecho (a x : Nat) (w : World) (ha : a < 65536) (hx : x < 18446744073709551616) :
    Calls Try.prog 21 #[.int .u16 (a : Int), .int .u64 (x : Int)] w fun e w' => e = .returned (.int .u16 (ecN a x : Nat)) ∧ w' = w := by
  by_cases hc : 1000 < x
  · have e : ecN a x = 65535 := by unfold ecN; rw [if_pos hc]
    rw [e]
    clear e
    go_enter Try.func21, Try.ntmps21
    go_wp2_with fail
    go_ret
    exact ⟨rfl, rfl⟩
  · have e : IntKind.u16.wrap ((a : Int) + ((x % 65536 : Nat) : Int)) = ((ecN a x : Nat) : Int) := by unfold ecN; rw [if_neg hc, IntKind.wrap_u16]; omega
    have h := Lib.hid e
    clear e
    go_enter Try.func21, Try.ntmps21
    go_wp2_with fail
    refine (stof x _ hx).mono ?_
    rintro e w' ⟨rfl, rfl⟩
    go_wp2_with fail
    go_ret
    exact ⟨ret_of h.out, rfl⟩
theorem rstecho (a x : Nat) (w : World) (ha : a < 65536) (hx : x < 18446744073709551616) :
    Calls Try.prog 22 #[.int .i64 (a : Int), .int .u64 (x : Int)] w fun e w' => e = .returned (.int .i64 (ecN a x : Nat)) ∧ w' = w := by
  by_cases hc : 1000 < x
  · have e : ecN a x = 65535 := by unfold ecN; rw [if_pos hc]
    rw [e]
    clear e
    go_enter Try.func22, Try.ntmps22
    go_wp2_with fail
    go_ret
    exact ⟨rfl, rfl⟩
  · have h := Lib.hid (show ((a : Int) + (x : Int)) % 65536 = ((ecN a x : Nat) : Int) by unfold ecN; rw [if_neg hc]; omega)
    go_enter Try.func22, Try.ntmps22
    go_wp2_with fail
    go_ret
    exact ⟨ret_of h.out, rfl⟩
end Go.Proofs.Ytmfmcbghofcafaa
