/-
  For all strings a and b, the law BitsXors of layer 1 returns true and leaves its arguments as they were. Condition: none but the form's own reach.
-/
import Derived.Test.YtjonkmcglhhdaaaRows
import Derived.WalkKit
import Derived.ProofKit
import Derived.OpenShut
import Derived.ShutString
import Derived.ChangeOld
import Derived.Below
import Derived.Test.YtjonkmcglhhdaaaAwake
import Derived.Deep.RegionHeld3
namespace Go.Proofs.Ytjonkmcglhhdaaa.bitsXors
open Go.ChangeShapes Go.WideShapes Go.ChangeAt Go.RowKit
open Go.ChangeMaps (open_string shut_string)
set_option linter.unusedVariables false

theorem own : ownKnob Try.prog.godebug = none := by kernel_rfl
theorem laidOut : laidOutB Try.prog = true := by kernel_rfl

/-- WHAT THE WALK IS TOLD OF A SLICE OF INTEGERS THAT CAME IN: it is nil; or it leads to a row of 'cap' cells, the numbers 'zs' (the first 'len' are its elements, the rest its spare room), each fitting its kind. -/
def IsRow (k : IntKind) (w : World) (a : Option Addr) (len cap : Nat) (zs : List Int) : Prop :=
  (a = none ∧ len = 0 ∧ cap = 0 ∧ zs = []) ∨
  ∃ x, a = some x ∧ len ≤ cap ∧ cap ≤ maxLen ∧ zs.length = cap ∧ (∀ i, i < zs.length → w.cell? (x.add i) = some (.int k (zs.getD i 0))) ∧ ∀ n ∈ zs, (Lit.int k n).wf = true

/-! ### The walk -/
set_option maxRecDepth 100000 in
set_option maxHeartbeats 1600000 in
theorem walk (a0 : Option Addr) (len0 cap0 : Nat) (z0 : List Int) (a1 : Option Addr) (len1 cap1 : Nat) (z1 : List Int) (w : World) (w0 : IsRow .u8 w a0 len0 cap0 z0) (w1 : IsRow .u8 w a1 len1 cap1 z1) :
    Calls Try.prog 6 #[.slice a0 len0 cap0, .slice a1 len1 cap1] w fun e w' => e = .returned (.bool true) ∧ Below w.heap.size w w' := by
  obtain ⟨l, hs, hlc, hcm⟩ := Sl.of_row w0
  obtain ⟨r, hr, hrc, hrm⟩ := Sl.of_row w1
  clear w0 w1
  by_cases hlen : len0 ≤ 500
  · by_cases hlen1 : len1 ≤ 500
    · obtain ⟨i0, hi0, hz0, hz1, hz2⟩ := info_parts info8
      have hzs : (Value.int .u8 0).cells.size = 1 := rfl
      have hxl := xorL_len l r
      rw [hs.len, hr.len] at hxl
      have htw := Lib.hid (xorL_twice l r)
      rw [hs.len, hr.len] at htw
      obtain ⟨m, hmd, hm1, hm2⟩ : ∃ m, ((m = len0 ∧ len0 ≤ len1) ∨ (m = len1 ∧ len1 < len0)) ∧ m ≤ len0 ∧ m ≤ len1 := ⟨min len0 len1, by omega, by omega, by omega⟩
      rw [show min len0 len1 = m by omega] at hxl htw
      have Hmd := Lib.hid hmd
      have Hxl := Lib.hid hxl
      obtain ⟨q, hq⟩ : ∃ q, decide (l = r) = q := ⟨_, rfl⟩
      have Hq := Lib.hid hq
      have hqq : (q != q) = false := by simp
      clear hq hxl
      rcases hmd with ⟨rfl, hm⟩ | ⟨rfl, hm⟩
      all_goals
        go_enter Try.func6, Try.ntmps6
        go_wp2_with fail
        refine (awake _).mono ?_
        rintro e w1 ⟨rfl, hb1⟩
        have hs1 := hs.base hb1
        have hr1 := hr.base hb1
        go_wp2_with (at_builtin
                     go_must (refine wpList_append_sl _ rfl (.tmp 22) (.tmp 23) _ rfl w1.heap.size 5 i0 _ Try.underlying22 hi0 hz0 hz1 hz2 hzs _ 0 _ rfl (World.ownsRow_lit w1 _ 0 (Nat.le_refl _) (by simp [maxLen]) rfl) w1.heap.size _ _ _ l rfl (by exact hs1.alloc (Nat.le_refl _) _) (by omega) (by simp) ?_)
                     intro v1 w2 hown1 hg2 hat1
                     simp only [Nat.zero_add, List.nil_append] at hown1
                     obtain ⟨A1, c1, rfl⟩ := own_shape hown1)
        have hb2 : Base w1 w2 := Below.grown ((Base.refl w1).alloc _) hg2 (by simp) (fun g hg => by cases hg; exact Nat.le_refl _)
        have hown1 : Own w2 w1.heap.size A1 _ c1 l := hown1
        have hs2 := hs1.base hb2
        have hr2 := hr1.base hb2
        have hsk := hs2
        clear hg2 hat1 hs1 hr1
        refine (xor_ _ _ _ _ m _ _ l r _ hown1.sl hr2 (by omega) (by omega) (by have := Hmd.out; omega)).mono ?_
        rintro e w3 ⟨A3, c3, rfl, hown3, hb3⟩
        have hb3 : Base w2 w3 := hb3
        have hso3 := hown1.sl.base hb3
        have hs3 := hs2.base hb3
        have hr3 := hr2.base hb3
        have hx3 := hown3.sl
        clear hs2 hr2
        go_wp2_with fail
        refine (xor_ _ _ _ _ m _ _ (xorL l r) r _ hx3 hr3 (by omega) (by omega) (by omega)).mono ?_
        rintro e w4 ⟨A4, c4, rfl, hown4, hb4⟩
        have hb4 : Base w3 w4 := hb4
        rw [htw.out] at hown4
        have hy4 := hown4.sl
        have hyc := hown4.cap
        have hso4 := hso3.base hb4
        have hs4 := hs3.base hb4
        have hr4 := hr3.base hb4
        have hx4 := hx3.base hb4
        clear hs3 hr3 hown4 hx3 hso3
        go_wp2_with fail
        refine (refXor _ _ _ _ m _ _ l r _ hs4 hr4 (by omega) (by omega) (by have := Hmd.out; omega)).mono ?_
        rintro e w5 ⟨A5, c5, rfl, hown5, hb5⟩
        have hb5 : Base w4 w5 := hb5
        have hso5 := hso4.base hb5
        have hs5 := hs4.base hb5
        have hr5 := hr4.base hb5
        have hx5 := hx4.base hb5
        have hy5 := hy4.base hb5
        clear hs4 hr4 hx4 hy4 hso4
        go_wp2_with fail
        refine (same _ _ _ _ _ _ (xorL l r) (xorL l r) _ hx5 hown5.sl (by omega) (by omega)).mono ?_
        rintro e w6 ⟨rfl, hd6⟩
        rw [show decide (xorL l r = xorL l r) = true from decide_eq_true rfl]
        have hb6 : Base w5 w6 := Base.dr (Base.refl _) hd6
        have hso6 := hso5.base hb6
        have hs6 := hs5.base hb6
        have hr6 := hr5.base hb6
        have hy6 := hy5.base hb6
        clear hs5 hr5 hx5 hy5 hso5 hown5 hd6
        go_wp2_with fail
        refine (same _ _ _ _ _ _ (l.take m) (l.take m) _ hy6 (hs6.take (by omega)) (by omega) (by omega)).mono ?_
        rintro e w7 ⟨rfl, hd7⟩
        rw [show decide (l.take m = l.take m) = true from decide_eq_true rfl]
        have hb7 : Base w6 w7 := Base.dr (Base.refl _) hd7
        have hso7 := hso6.base hb7
        have hs7 := hs6.base hb7
        have hr7 := hr6.base hb7
        clear hs6 hr6 hy6 hso6 hd7
        go_wp2_with fail
        refine (equal _ _ _ _ _ _ l r _ hs7 hr7 (by omega) (by omega)).mono ?_
        rintro e w8 ⟨rfl, hd8⟩
        rw [Hq.out]
        have hb8 : Base w7 w8 := Base.dr (Base.refl _) hd8
        have hso8 := hso7.base hb8
        have hs8 := hs7.base hb8
        have hr8 := hr7.base hb8
        clear hs7 hr7 hso7 hd8
        go_wp2_with fail
        refine (same _ _ _ _ _ _ l r _ hs8 hr8 (by omega) (by omega)).mono ?_
        rintro e w9 ⟨rfl, hd9⟩
        rw [Hq.out]
        have hb9 : Base w8 w9 := Base.dr (Base.refl _) hd9
        have hso9 := hso8.base hb9
        have hs9 := hs8.base hb9
        clear hs8 hr8 hso8 hd9
        go_wp2_with fail
        refine (equal _ _ _ _ _ _ l l _ hs9 hso9 (by omega) (by omega)).mono ?_
        rintro e w10 ⟨rfl, hd10⟩
        rw [show decide (l = l) = true from decide_eq_true rfl]
        have hb10 : Base w9 w10 := Base.dr (Base.refl _) hd10
        clear hs9 hso9 hd10
        have hB3 : Base w3 w10 := (((((hb4.step hb5).step hb6).step hb7).step hb8).step hb9).step hb10
        have hB2 : Base w2 w10 := hb3.step hB3
        have hown10 := hown3.base hB3
        have hso10 := hown1.sl.below hB2
        have hs10 := hsk.below hB2
        have hz10 : w2.heap.size ≤ w10.heap.size := Below.size hB2
        have hB1 : Base w w10 := ((Base.of hb1).step hb2).step hB2
        have hz2w : w.heap.size ≤ w2.heap.size := Below.size (Base.step (Base.of hb1) hb2)
        clear hb1 hb2 hb3 hb4 hb5 hb6 hb7 hb8 hb9 hb10 hown3 hown1 hB3 hB2 hsk Hmd htw Hxl Hq
        go_wp2
        go_loopw [8] (fun i wr => ∃ (k : Nat) (l3 : List UInt8), k ≤ m ∧ i = .int .i64 k ∧ Own wr w2.heap.size A3 m c3 l3 ∧ Below w2.heap.size w10 wr) (fun i _ => m - (intOf i).toNat)
        case atStart => exact ⟨0, _, Nat.zero_le _, rfl, hown10, Below.refl _ _⟩
        case round =>
          obtain ⟨k, l3, hk, rfl, hown, hbel⟩ := hrel
          by_cases hlt : k < m
          · obtain ⟨g, rfl, hg, hcell, hfr, hset⟩ := hown.at_ hlt
            have Hset := Lib.hid (hset (l3[k]?.getD 0 + 1))
            have hinc := Lib.hid (inc8 (l3[k]?.getD 0))
            clear hset
            go_wp2
            go_roundw
            case rel =>
              have h2 := Hset.out
              unfold b8 at h2
              rw [← hinc.out] at h2
              exact ⟨k + 1, _, by omega, by go_num, h2, hbel.setCell hg _⟩
            case measure => simp [intOf]; omega
          · go_wp2_with fail
            refine (same _ _ _ _ _ _ l l _ ((hso10.below hbel).more (by have := hbel.size; omega)) ((hs10.below hbel).more (by have := hbel.size; omega)) (by omega) (by omega)).mono ?_
            rintro e w11 ⟨rfl, hd11⟩
            rw [show decide (l = l) = true from decide_eq_true rfl]
            go_wp2_with fail
            go_ret
            exact ⟨rfl, (Below.trans hB1 (hbel.mono hz2w)).trans (hd11.below _)⟩
    · have hgt : (500 : Int) < (len1 : Int) := by omega
      go_enter Try.func6, Try.ntmps6
      go_wp2_with fail
      refine (awake _).mono ?_
      rintro e w1 ⟨rfl, hb1⟩
      go_wp2_with fail
      refine (awake _).mono ?_
      rintro e w2 ⟨rfl, hb2⟩
      go_wp2_with fail
      go_ret
      exact ⟨rfl, hb1.trans (hb2.mono hb1.size)⟩
  · have hgt : (500 : Int) < (len0 : Int) := by omega
    go_enter Try.func6, Try.ntmps6
    go_wp2_with fail
    refine (awake _).mono ?_
    rintro e w1 ⟨rfl, hb1⟩
    go_wp2_with fail
    refine (awake _).mono ?_
    rintro e w2 ⟨rfl, hb2⟩
    go_wp2_with fail
    go_ret
    exact ⟨rfl, hb1.trans (hb2.mono hb1.size)⟩

/-! ### THE ROW's STEP: by the guide's frame -/
set_option maxRecDepth 100000 in
theorem lifted (os : Os) (started : os.Started) (H : Type) (enc : TypeId × Value → H) :
    ReturnsInHanded {} Try.checked os 6 .any (Rows.bitsXorsSpec.pre6 enc Try.prog Try.f6 Rows.bitsXorsRow.domain false) (Rows.bitsXorsSpec.post enc Try.prog Try.f6 false true false false) := by
  refine returnsInHanded_of_change (C := Try.checked) own started (by kernel_rfl) Try.func6
    (ChangeSpec.witness6 (enc := enc) (C := Try.checked) false ⟨#[], #[.slice none 0 0, .slice none 0 0], []⟩ 8 (by kernel_rfl) (by kernel_rfl) (by kernel_rfl) (by kernel_rfl)) ?_
  intro W base args ds gs before hval0 hW hcnd _
  have hval : ∀ (j : Nat) t v, Try.f6.params[j]? = some t → args[j]? = some v → Value.okWide Try.prog W .any base t v := hval0
  have hW' := hW
  obtain ⟨p, q, hA0, hV, rfl, hfz, hnd⟩ := hW
  have hA : DataW.TrodAll enc Try.prog W 0 (fun _ => true) true Try.f6.params.toList args.toList ds p := hA0
  rw [Try.params6] at hA hval
  obtain ⟨v0, vs0, d0, ds0, p0, q0, hargs, rfl, rfl, h0, r0⟩ := trodAll_cons hA
  obtain ⟨v1, vs1, d1, ds1, p1, q1, rfl, rfl, rfl, h1, r1⟩ := trodAll_cons r0
  obtain ⟨rfl, rfl, rfl⟩ := trodAll_nil r1
  obtain rfl : args = #[v0, v1] := by cases args; simp_all
  obtain ⟨rfl, rfl⟩ := trodVars_none hV
  obtain ⟨a0, len0, cap0, rfl⟩ := okWide_slice Try.underlying22 (hval 0 22 v0 rfl rfl)
  have k0 := h0
  have lt0 : ∀ x ∈ p0, x.block < W.heap.size := by obtain ⟨m, hm⟩ := k0; exact DataW.trod_lt m _ _ _ hm
  obtain ⟨z0, w0⟩ : ∃ zs, IsRow .u8 W a0 len0 cap0 zs := by
    obtain ⟨fuel, hf⟩ := h0
    rcases open_ints Try.underlying22 Try.underlying5 (by kernel_rfl) hf with ⟨hcs, _⟩ | ⟨x, l, c, zs, hcs, _, hl, hm, hz, _, hcell, hwz⟩
    · simp [Value.cells] at hcs
      obtain ⟨rfl, rfl, rfl⟩ := hcs
      exact ⟨[], .inl ⟨rfl, rfl, rfl, rfl⟩⟩
    · simp [Value.cells] at hcs
      obtain ⟨rfl, rfl, rfl⟩ := hcs
      exact ⟨zs, .inr ⟨_, rfl, hl, hm, by simpa using hz, hcell, hwz⟩⟩
  obtain ⟨a1, len1, cap1, rfl⟩ := okWide_slice Try.underlying22 (hval 1 22 v1 rfl rfl)
  have k1 := h1
  have lt1 : ∀ x ∈ p1, x.block < W.heap.size := by obtain ⟨m, hm⟩ := k1; exact DataW.trod_lt m _ _ _ hm
  obtain ⟨z1, w1⟩ : ∃ zs, IsRow .u8 W a1 len1 cap1 zs := by
    obtain ⟨fuel, hf⟩ := h1
    rcases open_ints Try.underlying22 Try.underlying5 (by kernel_rfl) hf with ⟨hcs, _⟩ | ⟨x, l, c, zs, hcs, _, hl, hm, hz, _, hcell, hwz⟩
    · simp [Value.cells] at hcs
      obtain ⟨rfl, rfl, rfl⟩ := hcs
      exact ⟨[], .inl ⟨rfl, rfl, rfl, rfl⟩⟩
    · simp [Value.cells] at hcs
      obtain ⟨rfl, rfl, rfl⟩ := hcs
      exact ⟨zs, .inr ⟨_, rfl, hl, hm, by simpa using hz, hcell, hwz⟩⟩
  clear hA0 hval0
  refine (walk a0 len0 cap0 z0 a1 len1 cap1 z1 W w0 w1).mono fun e W' ⟨he, bel⟩ => ?_
  subst he
  exact ⟨_, rfl, _, _, _, [], _, [], hW', trodAll_mk1 (shut_bool Try.underlying4 _), (trodAll_cons_mk (Below.trod laidOut (by kernel_rfl) (of_decide_eq_true (by kernel_rfl)) k0 bel lt0) (trodAll_cons_mk (Below.trod laidOut (by kernel_rfl) (of_decide_eq_true (by kernel_rfl)) k1 bel lt1) trodAll_mk0)), rfl, bel.frame _, fun h => by cases h⟩

theorem over : Rows.bitsXorsRow.holds Try.pinned (OpenSpec.ofChange Rows.bitsXorsSpec) :=
  OpenClaim.holds_of_wide 6 Try.f6 rfl rfl rfl rfl rfl rfl rfl ⟨rfl, rfl, rfl, rfl, rfl⟩ rfl rfl rfl rfl rfl (by kernel_rfl) Try.func6 (by kernel_rfl)
    (of_decide_eq_true (by kernel_rfl)) (by unfold Func.isWrapper; first | (rw [if_pos (by decide +kernel)]; kernel_rfl) | (rw [if_neg (by decide +kernel)]; exact ⟨rfl, rfl⟩))
    (fun os started H enc _ => lifted os started H enc)

/-- The given statement. -/
theorem proved : Rows.BitsXorsSaid := over
#print axioms proved
end Go.Proofs.Ytjonkmcglhhdaaa.bitsXors
