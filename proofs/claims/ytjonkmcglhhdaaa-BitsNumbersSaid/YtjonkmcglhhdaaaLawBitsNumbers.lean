/-
  For every number x and every n, the law BitsNumbers of layer 1 returns true and leaves its arguments as they were. Condition: none but the form's own reach.
-/
import Derived.Test.YtjonkmcglhhdaaaRows
import Derived.WalkKit
import Derived.ProofKit
import Derived.OpenShut
import Derived.ShutString
import Derived.Test.YtjonkmcglhhdaaaAwake
namespace Go.Proofs.Ytjonkmcglhhdaaa.bitsNumbers
open Go.ChangeShapes Go.WideShapes Go.ChangeAt Go.RowKit
open Go.ChangeMaps (open_string shut_string)
set_option linter.unusedVariables false      -- a walk need not use every 'w<i>' (that an integer argument fits its kind)

theorem own : ownKnob Try.prog.godebug = none := by kernel_rfl

/-! ### The walk -/
set_option maxHeartbeats 1600000 in
theorem walk (a0 : Int) (a1 : Int) (w0 : (Lit.int .u64 a0).wf = true) (w1 : (Lit.int .i64 a1).wf = true) (w : World) :
    Calls Try.prog 4 #[.int .u64 a0, .int .i64 a1] w fun e w' => e = .returned (.bool true) ∧ Below w.heap.size w w' := by
  have hx : 0 ≤ a0 ∧ a0 ≤ 18446744073709551615 := by simpa [Lit.wf, IntKind.min, IntKind.max, IntKind.signed, IntKind.bits] using w0
  have hn : -9223372036854775808 ≤ a1 ∧ a1 ≤ 9223372036854775807 := by simpa [Lit.wf, IntKind.min, IntKind.max, IntKind.signed, IntKind.bits] using w1
  obtain ⟨x, rfl⟩ := Int.eq_ofNat_of_zero_le hx.1
  have hx2 : x < 18446744073709551616 := by omega
  clear w0 w1 hx
  go_enter Try.func4, Try.ntmps4
  go_wp2_with fail
  refine (awake _).mono ?_
  rintro e w1 ⟨rfl, hb1⟩
  go_wp2_with fail
  refine (bytes x a1 _ hx2 hn).mono ?_
  rintro e w2 ⟨A2, c2, rfl, hown2, hbel2⟩
  have hb2 : Below w.heap.size w w2 := hb1.trans (hbel2.mono hb1.size)
  have hs2 := hown2.sl
  have hcap := hown2.cap
  clear hown2 hbel2 hb1
  go_wp2_with fail
  refine (refBytes x a1 _ hx2 hn).mono ?_
  rintro e w3 ⟨A3, c3, rfl, hown3, hbel3⟩
  have hb3 : Below w.heap.size w w3 := hb2.trans (hbel3.mono hb2.size)
  have hs3 := hown3.sl
  have hs2' := hs2.now hbel3 hbel3.size
  clear hown3 hbel3 hb2 hs2
  generalize ht : min a1.toNat 8 = t at *
  have ht8 : t ≤ 8 := by omega
  clear ht
  go_wp2_with fail
  refine (same _ _ t t _ _ (byt x t) (byt x t) _ hs2' hs3 (by omega) (by omega)).mono ?_
  rintro e w4 ⟨rfl, hd⟩
  have hb4 : Below w.heap.size w w4 := hb3.trans (hd.below _)
  have hs4 := hs2'.now (hd.below _) (hd.below 0).size
  clear hd hb3 hs3 hs2'
  rw [show decide (byt x t = byt x t) = true from decide_eq_true rfl]
  have Hnum := Lib.hid (num_byt x t ht8)
  have hpow := Lib.hid (pow256_le t ht8)
  have hb := hb4
  have hnum := Lib.hid (fun q => number A2 t c2 (byt x t) (w4.drewN q) (hs4.drewN q) (by omega) hcap.1)
  clear hs4 hcap hpow hb4
  rcases (show t = 0 ∨ t = 1 ∨ t = 2 ∨ t = 3 ∨ t = 4 ∨ t = 5 ∨ t = 6 ∨ t = 7 ∨ t = 8 by omega) with rfl | rfl | rfl | rfl | rfl | rfl | rfl | rfl | rfl
  all_goals
    have hn2 := hnum.out
    rw [Hnum.out] at hn2
    simp only [Nat.reducePow] at hn2
    have Hn := Lib.hid hn2
    clear hn2 hnum Hnum ht8 hn
  case inr.inr.inr.inr.inr.inr.inr.inr =>
    have hx8 : x % 18446744073709551616 = x := Nat.mod_eq_of_lt hx2
    rw [hx8] at Hn
    clear hx8
    go_wp2
    go_quiet ((go_at_call 9; exact Calls.quiet_of_same (Hn.out _)))
    go_wp2
    go_ret
    exact ⟨rfl, hb.trans (Dr.below ⟨_, rfl⟩ _)⟩
  all_goals
    go_wp2
    go_quiet ((go_at_call 9; exact Calls.quiet_of_same (Hn.out _)))
    go_wp2
    go_ret
    exact ⟨rfl, hb.trans (Dr.below ⟨_, rfl⟩ _)⟩
  -- go_enter Try.func4, Try.ntmps4
  -- go_wp2
  -- go_ret
  -- exact ⟨rfl, by repeat (first | exact Grown.refl _ | apply Grown.drew | apply Grown.alloc)⟩

/-! ### THE ROW's STEP: by the guide's frame -/
set_option maxRecDepth 100000 in
theorem lifted (os : Os) (started : os.Started) (H : Type) (enc : TypeId × Value → H) :
    ReturnsInHanded {} Try.checked os 4 .any (Rows.bitsNumbersSpec.pre6 enc Try.prog Try.f4 Rows.bitsNumbersRow.domain false) (Rows.bitsNumbersSpec.post enc Try.prog Try.f4 false true false false) := by
  refine returnsInHanded_of_change (C := Try.checked) own started (by kernel_rfl) Try.func4
    (ChangeSpec.witness6 (enc := enc) (C := Try.checked) false ⟨#[], #[.int .u64 0, .int .i64 0], []⟩ 8 (by kernel_rfl) (by kernel_rfl) (by kernel_rfl) (by kernel_rfl)) ?_
  intro W base args ds gs before hval0 hW hcnd _
  have hval : ∀ (j : Nat) t v, Try.f4.params[j]? = some t → args[j]? = some v → Value.okWide Try.prog W .any base t v := hval0
  have hW' := hW
  obtain ⟨p, q, hA0, hV, rfl, hfz, hnd⟩ := hW
  have hA : DataW.TrodAll enc Try.prog W 0 (fun _ => true) true Try.f4.params.toList args.toList ds p := hA0
  rw [Try.params4] at hA hval
  obtain ⟨v0, vs0, d0, ds0, p0, q0, hargs, rfl, rfl, h0, r0⟩ := trodAll_cons hA
  obtain ⟨v1, vs1, d1, ds1, p1, q1, rfl, rfl, rfl, h1, r1⟩ := trodAll_cons r0
  obtain ⟨rfl, rfl, rfl⟩ := trodAll_nil r1
  obtain rfl : args = #[v0, v1] := by cases args; simp_all
  obtain ⟨rfl, rfl⟩ := trodVars_none hV
  obtain ⟨a0, rfl, rfl, rfl, w0⟩ := open_int Try.underlying24 (hval 0 24 v0 rfl rfl) h0
  obtain ⟨a1, rfl, rfl, rfl, w1⟩ := open_int Try.underlying3 (hval 1 3 v1 rfl rfl) h1
  clear hA0 hval0
  simp only [List.append_nil] at hW'
  refine (walk a0 a1 w0 w1 W).mono fun e W' ⟨he, hg⟩ => ?_
  subst he
  exact ⟨_, rfl, _, _, _, [], [], [], hW', (trodAll_cons_mk (shut_bool Try.underlying4 _) trodAll_mk0), (trodAll_cons_mk (shut_int Try.underlying24 w0) (trodAll_cons_mk (shut_int Try.underlying3 w1) trodAll_mk0)), rfl, hg.frame _, fun h => by cases h⟩

theorem over : Rows.bitsNumbersRow.holds Try.pinned (OpenSpec.ofChange Rows.bitsNumbersSpec) :=
  OpenClaim.holds_of_wide 4 Try.f4 rfl rfl rfl rfl rfl rfl rfl ⟨rfl, rfl, rfl, rfl, rfl⟩ rfl rfl rfl rfl rfl (by kernel_rfl) Try.func4 (by kernel_rfl)
    (of_decide_eq_true (by kernel_rfl)) (by unfold Func.isWrapper; first | (rw [if_pos (by decide +kernel)]; kernel_rfl) | (rw [if_neg (by decide +kernel)]; exact ⟨rfl, rfl⟩))
    (fun os started H enc _ => lifted os started H enc)

/-- The given statement. -/
theorem proved : Rows.BitsNumbersSaid :=
  over
#print axioms proved
end Go.Proofs.Ytjonkmcglhhdaaa.bitsNumbers
