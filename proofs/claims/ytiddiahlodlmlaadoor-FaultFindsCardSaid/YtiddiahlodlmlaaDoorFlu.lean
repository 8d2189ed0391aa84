/-
  Contracts of package fault, second part: Shift, Name, Text, and the text of an error. Condition: the package-level variables that they read hold what the program's text lays.
-/
import Derived.Test.YtiddiahlodlmlaaDoorFlt
import Derived.Test.YtiddiahlodlmlaaDoorDec
namespace Go.Proofs.YtiddiahlodlmlaaDoor
open Go.RowKit Go.Extern.Stop Go.Stop Go.Extern
set_option linter.unusedVariables false
set_option maxRecDepth 20000

/-! ### Shift -/
theorem codRes_some (c : Int) : codRes (some c) = .tuple #[.int .i64 c, .bool true] := rfl
theorem codRes_none : codRes none = .tuple #[.int .i64 0, .bool false] := rfl
set_option maxHeartbeats 1600000 in
theorem shift_some (e0 : Er) (c n a : Int) (w : World) (g : Gl w) (hc : e0.cod = some c) (ha : e0.off.getD 0 = a) (h : -9223372036854775808 ≤ a + n ∧ a + n ≤ 9223372036854775807) :
    Calls Tryd.prog 13 #[.iface e0.ty e0.pay, .int .i64 n] w fun e w' => e = .returned (.iface 50 (.agg #[.int .i64 c, .int .i64 (a + n)])) ∧ Below w.heap.size w w' := by
  have Hc := Lib.hid hc
  have Ha := Lib.hid ha
  clear hc ha
  have hw := IntWalk.i64_in _ h
  go_enter Tryd.func13, Tryd.ntmps13
  go_wp2_with fail
  refine (code e0 _ g.err).mono ?_
  rintro e w1 ⟨rfl, hb1⟩
  rw [Hc.out, codRes_some]
  have g1 := g.to hb1
  go_wp2_with fail
  refine (offs e0 _ g1.err).mono ?_
  rintro e w2 ⟨rfl, hb2⟩
  unfold codRes
  rw [Ha.out]
  go_wp2_with fail
  refine (new_ c (a + n) _).mono ?_
  rintro e w3 ⟨rfl, rfl⟩
  go_wp2_with fail
  go_ret
  exact ⟨rfl, hb1.trans (hb2.mono hb1.size)⟩
theorem shift_nil (n : Int) (w : World) (g : Gl w) :
    Calls Tryd.prog 13 #[.nilIface, .int .i64 n] w fun e w' => e = .returned .nilIface ∧ Below w.heap.size w w' := by
  go_enter Tryd.func13, Tryd.ntmps13
  go_wp2_with fail
  refine (code_nil _ g.err).mono ?_
  rintro e w1 ⟨rfl, hb1⟩
  rw [codRes_none]
  go_wp2_with fail
  go_ret
  exact ⟨rfl, hb1⟩

/-! ### Name -/
def nameOf (c : Int) : ByteArray := if 0 ≤ c ∧ c < 13 then nameB c.toNat else ⟨#[]⟩
theorem name (c : Int) (w : World) (g : Gl w) : Calls Tryd.prog 17 #[.int .i64 c] w fun e w' => e = .returned (.string (nameOf c)) ∧ w' = w := by
  by_cases h : 0 ≤ c ∧ c < 13
  · obtain ⟨n, rfl⟩ : ∃ n : Nat, c = n := ⟨c.toNat, by omega⟩
    have hn := g.names n (by omega)
    have e1 : Hid (nameOf (n : Int) = nameB n) := by unfold nameOf Hid; rw [if_pos h]; rfl
    obtain ⟨h0, h1⟩ := h
    have h2 : n < 13 := by omega
    clear g
    go_enter Tryd.func17, Tryd.ntmps17
    go_wp2_with fail
    go_ret
    exact ⟨str_of e1.out.symm, rfl⟩
  · have e1 : Hid (nameOf c = ⟨#[]⟩) := by unfold nameOf Hid; rw [if_neg h]
    clear g
    by_cases h0 : c < 0
    · go_enter Tryd.func17, Tryd.ntmps17
      go_wp2_with fail
      go_ret
      exact ⟨str_of e1.out.symm, rfl⟩
    · have h1 : ¬ c < 13 := by omega
      have h2 : 13 ≤ c := by omega
      clear h
      go_enter Tryd.func17, Tryd.ntmps17
      go_wp2_with fail
      go_ret
      exact ⟨str_of e1.out.symm, rfl⟩

/-! ### Text -/
theorem below_grow {w : World} (k : Nat) (os : Array Obj) : Below w.heap.size w (Go.Sort.grow (w.drewN k) os) :=
  ⟨rfl, rfl, rfl, by rw [Go.Sort.size_grow]; exact Nat.le_add_right _ _, fun i hi => Go.Sort.heap_grow_old (w.drewN k) os hi⟩

def toldOf (e : Er) : ByteArray :=
  match e.cod with
  | none => ⟨#[101, 114, 114, 111, 114]⟩
  | some c => match e.off with
    | none => nameOf c
    | some a => nameOf c ++ ⟨#[32]⟩ ++ itoaB a
theorem nameB_size (i : Nat) (h : i < 13) : (nameB i).size ≤ 9 := by
  have h1 : ∀ i : Fin 13, (nameB i.val).size ≤ 9 := by decide +kernel
  exact h1 ⟨i, h⟩
theorem nameOf_size (c : Int) : (nameOf c).size ≤ 9 := by
  unfold nameOf
  by_cases h : 0 ≤ c ∧ c < 13
  · rw [if_pos h]; exact nameB_size _ (by omega)
  · rw [if_neg h]; decide
def IntOf (e : Er) : Prop := ∀ a, e.off = some a → -9223372036854775808 ≤ a ∧ a ≤ 9223372036854775807
theorem itoa_ (n : Int) (w : World) (g : Gl w) (h0 : -9223372036854775808 ≤ n) (h1 : n ≤ 9223372036854775807) :
    Calls Tryd.prog 27 #[.int .i64 n] w fun e w' => e = .returned (.string (itoaB n)) ∧ Below w.heap.size w w' :=
  (Tryd.strconv_Itoa n h0 h1 w g.pow).mono fun e w' ⟨he, k, os, hw⟩ => ⟨he, by subst hw; exact below_grow k os⟩
set_option maxHeartbeats 1600000 in
theorem told_none (e0 : Er) (w : World) (g : Gl w) (hc : e0.cod = none) :
    Calls Tryd.prog 19 #[.iface e0.ty e0.pay] w fun e w' => e = .returned (.string ⟨#[101, 114, 114, 111, 114]⟩) ∧ Below w.heap.size w w' := by
  have Hc := Lib.hid hc
  clear hc
  have hne := nilEq
  go_enter Tryd.func19, Tryd.ntmps19
  go_wp2_with fail
  refine (code e0 _ g.err).mono ?_
  rintro e w1 ⟨rfl, hb1⟩
  rw [Hc.out, codRes_none]
  go_wp2_with fail
  go_ret
  exact ⟨rfl, hb1⟩
set_option maxHeartbeats 1600000 in
theorem told_code (e0 : Er) (c : Int) (w : World) (g : Gl w) (hc : e0.cod = some c) (ho : e0.off = none) :
    Calls Tryd.prog 19 #[.iface e0.ty e0.pay] w fun e w' => e = .returned (.string (nameOf c)) ∧ Below w.heap.size w w' := by
  have Hc := Lib.hid hc
  have Ho := Lib.hid ho
  clear hc ho
  have hne := nilEq
  go_enter Tryd.func19, Tryd.ntmps19
  go_wp2_with fail
  refine (code e0 _ g.err).mono ?_
  rintro e w1 ⟨rfl, hb1⟩
  rw [Hc.out, codRes_some]
  have g1 := g.to hb1
  go_wp2_with fail
  refine (offs e0 _ g1.err).mono ?_
  rintro e w2 ⟨rfl, hb2⟩
  rw [Ho.out, codRes_none]
  have g2 := g1.to hb2
  go_wp2_with fail
  refine (name c _ g2).mono ?_
  rintro e w3 ⟨rfl, rfl⟩
  go_wp2_with fail
  go_ret
  exact ⟨rfl, hb1.trans (hb2.mono hb1.size)⟩
set_option maxHeartbeats 1600000 in
theorem told_fault (e0 : Er) (c a : Int) (w : World) (g : Gl w) (hc : e0.cod = some c) (ho : e0.off = some a) (h0 : -9223372036854775808 ≤ a) (h1 : a ≤ 9223372036854775807) :
    Calls Tryd.prog 19 #[.iface e0.ty e0.pay] w fun e w' => e = .returned (.string (nameOf c ++ ⟨#[32]⟩ ++ itoaB a)) ∧ Below w.heap.size w w' := by
  have Hc := Lib.hid hc
  have Ho := Lib.hid ho
  clear hc ho
  have hne := nilEq
  have hs1 : ¬ 9223372036854775807 < (nameOf c).size + 1 := by have := nameOf_size c; omega
  have hs2 : ¬ 9223372036854775807 < (nameOf c).size + 1 + (itoaB a).size := by have := nameOf_size c; have := itoaB_size a h0 h1; omega
  have H0 := Lib.hid h0
  have H1 := Lib.hid h1
  clear h0 h1
  go_enter Tryd.func19, Tryd.ntmps19
  go_wp2_with fail
  refine (code e0 _ g.err).mono ?_
  rintro e w1 ⟨rfl, hb1⟩
  rw [Hc.out, codRes_some]
  have g1 := g.to hb1
  go_wp2_with fail
  refine (offs e0 _ g1.err).mono ?_
  rintro e w2 ⟨rfl, hb2⟩
  rw [Ho.out, show codRes (some a) = .tuple #[.int .i64 a, .bool true] from rfl]
  have g2 := g1.to hb2
  go_wp2_with fail
  refine (name c _ g2).mono ?_
  rintro e w3 ⟨rfl, rfl⟩
  go_wp2_with fail
  refine (itoa_ a _ g2 H0.out H1.out).mono ?_
  rintro e w4 ⟨rfl, hb4⟩
  go_wp2_with fail
  go_ret
  exact ⟨rfl, hb1.trans ((hb2.trans (hb4.mono hb2.size)).mono hb1.size)⟩
theorem told_nil (w : World) : Calls Tryd.prog 19 #[.nilIface] w fun e w' => e = .returned (.string ⟨#[111, 107]⟩) ∧ Below w.heap.size w w' := by
  go_enter Tryd.func19, Tryd.ntmps19
  go_wp2_with fail
  go_ret
  exact ⟨rfl, Below.refl _ _⟩
end Go.Proofs.YtiddiahlodlmlaaDoor
