/-
  For all bytes a, b and c, the law FieldLaws of layer 3 returns true and leaves its arguments as they were. Condition: none but the form's own reach.
-/
import Derived.Test.YtinbgmkgjgdgdaaRows
import Derived.WalkKit
import Derived.ProofKit
import Derived.OpenShut
import Derived.ShutString
import Derived.Test.YtinbgmkgjgdgdaaFaw
namespace Go.Proofs.Ytinbgmkgjgdgdaa.fieldLaws
open Go.ChangeShapes Go.WideShapes Go.ChangeAt Go.RowKit
open Go.ChangeMaps (open_string shut_string)
set_option linter.unusedVariables false      -- a walk need not use every 'w<i>' (that an integer argument fits its kind)

theorem own : ownKnob Try.prog.godebug = none := by kernel_rfl

/-! ### The walk -/
set_option maxRecDepth 100000 in
set_option maxHeartbeats 1600000 in
theorem walk (a0 : Int) (a1 : Int) (a2 : Int) (w0 : (Lit.int .u8 a0).wf = true) (w1 : (Lit.int .u8 a1).wf = true) (w2 : (Lit.int .u8 a2).wf = true) (w : World) :
    Calls Try.prog 4 #[.int .u8 a0, .int .u8 a1, .int .u8 a2] w fun e w' => e = .returned (.bool true) ∧ Below w.heap.size w w' := by
  have ha : 0 ≤ a0 ∧ a0 ≤ 255 := by simpa [Lit.wf, IntKind.min, IntKind.max, IntKind.signed, IntKind.bits] using w0
  have hb : 0 ≤ a1 ∧ a1 ≤ 255 := by simpa [Lit.wf, IntKind.min, IntKind.max, IntKind.signed, IntKind.bits] using w1
  have hc : 0 ≤ a2 ∧ a2 ≤ 255 := by simpa [Lit.wf, IntKind.min, IntKind.max, IntKind.signed, IntKind.bits] using w2
  obtain ⟨a, rfl⟩ := Int.eq_ofNat_of_zero_le ha.1
  obtain ⟨b, rfl⟩ := Int.eq_ofNat_of_zero_le hb.1
  obtain ⟨c, rfl⟩ := Int.eq_ofNat_of_zero_le hc.1
  have ha2 : a < 256 := by omega
  have hb2 : b < 256 := by omega
  have hc2 : c < 256 := by omega
  have hcomm := Lib.hid (mul_comm_ b a hb2 ha2)
  have hassoc := Lib.hid (mul_assoc_ a b c ha2 hb2 hc2)
  have hdist := Lib.hid (mul_right a b c)
  have hab := mul_lt a b ha2
  have hac := mul_lt a c ha2
  have hbc := mul_lt b c hb2
  have hxbc := xor_lt b c hb2 hc2
  have hx1 : bits BinOp.xor IntKind.u8 (b : Int) (c : Int) = ((b ^^^ c : Nat) : Int) := xor_n8 b c hb2 hc2
  have hx2 : bits BinOp.xor IntKind.u8 ((mul a b : Nat) : Int) ((mul a c : Nat) : Int) = ((mul a b ^^^ mul a c : Nat) : Int) := xor_n8 _ _ hab hac
  have hil := inv_lt a
  clear w0 w1 w2 ha hb hc
  go_enter Try.func4, Try.ntmps4
  go_wp2_with fail
  refine (fawake _).mono ?_
  rintro e w1 ⟨rfl, k1⟩
  go_wp2_with fail
  refine (fmul a b _ ha2 hb2).mono ?_
  rintro e w2 ⟨rfl, k2⟩
  have k2 := k1.trans (k2.mono k1.size)
  clear k1
  go_wp2_with fail
  refine (fmul b a _ hb2 ha2).mono ?_
  rintro e w3 ⟨rfl, k3⟩
  rw [hcomm.out]
  have k3 := k2.trans (k3.mono k2.size)
  clear k2
  go_wp2_with fail
  refine (fmul a b _ ha2 hb2).mono ?_
  rintro e w4 ⟨rfl, k4⟩
  have k4 := k3.trans (k4.mono k3.size)
  clear k3
  go_wp2_with fail
  refine (fmul (mul a b) c _ hab hc2).mono ?_
  rintro e w5 ⟨rfl, k5⟩
  rw [hassoc.out]
  have k5 := k4.trans (k5.mono k4.size)
  clear k4
  go_wp2_with fail
  refine (fmul b c _ hb2 hc2).mono ?_
  rintro e w6 ⟨rfl, k6⟩
  have k6 := k5.trans (k6.mono k5.size)
  clear k5
  go_wp2_with fail
  refine (fmul a (mul b c) _ ha2 hbc).mono ?_
  rintro e w7 ⟨rfl, k7⟩
  have k7 := k6.trans (k7.mono k6.size)
  clear k6
  go_wp2_with fail
  refine (fmul a (b ^^^ c) _ ha2 hxbc).mono ?_
  rintro e w8 ⟨rfl, k8⟩
  rw [hdist.out]
  have k8 := k7.trans (k8.mono k7.size)
  clear k7
  go_wp2_with fail
  refine (fmul a b _ ha2 hb2).mono ?_
  rintro e w9 ⟨rfl, k9⟩
  have k9 := k8.trans (k9.mono k8.size)
  clear k8
  go_wp2_with fail
  refine (fmul a c _ ha2 hc2).mono ?_
  rintro e w10 ⟨rfl, k10⟩
  have k10 := k9.trans (k10.mono k9.size)
  clear k9 hcomm hassoc hdist
  rcases Nat.eq_zero_or_pos a with rfl | h0
  · go_wp2_with fail
    go_ret
    exact ⟨rfl, k10⟩
  · have ha0 : ((a : Int) == 0) = false := by simp; omega
    have hi1 := Lib.hid (inv_mul a ha2 (by omega))
    have hi2 := Lib.hid (inv_inv a ha2 (by omega))
    have hi3 := Lib.hid (pwr_255 a ha2 (by omega))
    go_wp2_with fail
    refine (finv a _ ha2).mono ?_
    rintro e w11 ⟨rfl, k11⟩
    have k11 := k10.trans (k11.mono k10.size)
    clear k10
    go_wp2_with fail
    refine (fmul a (inv a) _ ha2 hil).mono ?_
    rintro e w12 ⟨rfl, k12⟩
    rw [hi1.out]
    have k12 := k11.trans (k12.mono k11.size)
    clear k11
    go_wp2_with fail
    refine (finv a _ ha2).mono ?_
    rintro e w13 ⟨rfl, k13⟩
    have k13 := k12.trans (k13.mono k12.size)
    clear k12
    go_wp2_with fail
    refine (finv (inv a) _ hil).mono ?_
    rintro e w14 ⟨rfl, k14⟩
    rw [hi2.out]
    have k14 := k13.trans (k14.mono k13.size)
    clear k13
    go_wp2_with fail
    refine (fpow a 255 _ ha2 (by omega)).mono ?_
    rintro e w15 ⟨rfl, k15⟩
    rw [hi3.out]
    have k15 := k14.trans (k15.mono k14.size)
    clear k14
    go_wp2_with fail
    go_ret
    exact ⟨rfl, k15⟩
  -- go_enter Try.func4, Try.ntmps4
  -- go_wp2
  -- go_ret
  -- exact ⟨rfl, by repeat (first | exact Grown.refl _ | apply Grown.drew | apply Grown.alloc)⟩

/-! ### THE ROW's STEP: by the guide's frame -/
set_option maxRecDepth 100000 in
theorem lifted (os : Os) (started : os.Started) (H : Type) (enc : TypeId × Value → H) :
    ReturnsInHanded {} Try.checked os 4 .any (Rows.fieldLawsSpec.pre6 enc Try.prog Try.f4 Rows.fieldLawsRow.domain false) (Rows.fieldLawsSpec.post enc Try.prog Try.f4 false true false false) := by
  refine returnsInHanded_of_change (C := Try.checked) own started (by kernel_rfl) Try.func4
    (ChangeSpec.witness6 (enc := enc) (C := Try.checked) false ⟨#[], #[.int .u8 0, .int .u8 0, .int .u8 0], []⟩ 8 (by kernel_rfl) (by kernel_rfl) (by kernel_rfl) (by kernel_rfl)) ?_
  intro W base args ds gs before hval0 hW hcnd _
  have hval : ∀ (j : Nat) t v, Try.f4.params[j]? = some t → args[j]? = some v → Value.okWide Try.prog W .any base t v := hval0
  have hW' := hW
  obtain ⟨p, q, hA0, hV, rfl, hfz, hnd⟩ := hW
  have hA : DataW.TrodAll enc Try.prog W 0 (fun _ => true) true Try.f4.params.toList args.toList ds p := hA0
  rw [Try.params4] at hA hval
  obtain ⟨v0, vs0, d0, ds0, p0, q0, hargs, rfl, rfl, h0, r0⟩ := trodAll_cons hA
  obtain ⟨v1, vs1, d1, ds1, p1, q1, rfl, rfl, rfl, h1, r1⟩ := trodAll_cons r0
  obtain ⟨v2, vs2, d2, ds2, p2, q2, rfl, rfl, rfl, h2, r2⟩ := trodAll_cons r1
  obtain ⟨rfl, rfl, rfl⟩ := trodAll_nil r2
  obtain rfl : args = #[v0, v1, v2] := by cases args; simp_all
  obtain ⟨rfl, rfl⟩ := trodVars_none hV
  obtain ⟨a0, rfl, rfl, rfl, w0⟩ := open_int Try.underlying5 (hval 0 5 v0 rfl rfl) h0
  obtain ⟨a1, rfl, rfl, rfl, w1⟩ := open_int Try.underlying5 (hval 1 5 v1 rfl rfl) h1
  obtain ⟨a2, rfl, rfl, rfl, w2⟩ := open_int Try.underlying5 (hval 2 5 v2 rfl rfl) h2
  clear hA0 hval0
  simp only [List.append_nil] at hW'
  refine (walk a0 a1 a2 w0 w1 w2 W).mono fun e W' ⟨he, hg⟩ => ?_
  subst he
  exact ⟨_, rfl, _, _, _, [], [], [], hW', (trodAll_cons_mk (shut_bool Try.underlying4 _) trodAll_mk0), (trodAll_cons_mk (shut_int Try.underlying5 w0) (trodAll_cons_mk (shut_int Try.underlying5 w1) (trodAll_cons_mk (shut_int Try.underlying5 w2) trodAll_mk0))), rfl, hg.frame _, fun h => by cases h⟩

theorem over : Rows.fieldLawsRow.holds Try.pinned (OpenSpec.ofChange Rows.fieldLawsSpec) :=
  OpenClaim.holds_of_wide 4 Try.f4 rfl rfl rfl rfl rfl rfl rfl ⟨rfl, rfl, rfl, rfl, rfl⟩ rfl rfl rfl rfl rfl (by kernel_rfl) Try.func4 (by kernel_rfl)
    (of_decide_eq_true (by kernel_rfl)) (by unfold Func.isWrapper; first | (rw [if_pos (by decide +kernel)]; kernel_rfl) | (rw [if_neg (by decide +kernel)]; exact ⟨rfl, rfl⟩))
    (fun os started H enc _ => lifted os started H enc)

/-- The given statement. -/
theorem proved : Rows.FieldLawsSaid :=
  over
#print axioms proved
end Go.Proofs.Ytinbgmkgjgdgdaa.fieldLaws
