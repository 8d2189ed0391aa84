/-
  For every string b, the law BitsMatchesReference of layer 1 returns true and leaves its argument as it was. Condition: none but the form's own reach.
-/
import Derived.Test.YtjonkmcglhhdaaaRows
import Derived.WalkKit
import Derived.ProofKit
import Derived.OpenShut
import Derived.ShutString
import Derived.ChangeOld
import Derived.Below
import Derived.Test.YtjonkmcglhhdaaaAwake
import Derived.Deep.RegionHeld3
namespace Go.Proofs.Ytjonkmcglhhdaaa.bitsMatchesReference
open Go.ChangeShapes Go.WideShapes Go.ChangeAt Go.RowKit
open Go.ChangeMaps (open_string shut_string)
set_option linter.unusedVariables false

theorem own : ownKnob Try.prog.godebug = none := by kernel_rfl
theorem laidOut : laidOutB Try.prog = true := by kernel_rfl

/-- WHAT THE WALK IS TOLD OF A SLICE OF INTEGERS THAT CAME IN: it is nil; or it leads to a row of 'cap' cells, the numbers 'zs' (the first 'len' are its elements, the rest its spare room), each fitting its kind. -/
def IsRow (k : IntKind) (w : World) (a : Option Addr) (len cap : Nat) (zs : List Int) : Prop :=
  (a = none ∧ len = 0 ∧ cap = 0 ∧ zs = []) ∨
  ∃ x, a = some x ∧ len ≤ cap ∧ cap ≤ maxLen ∧ zs.length = cap ∧ (∀ i, i < zs.length → w.cell? (x.add i) = some (.int k (zs.getD i 0))) ∧ ∀ n ∈ zs, (Lit.int k n).wf = true

/-! ### The walk -/
set_option maxRecDepth 100000 in
set_option maxHeartbeats 1600000 in
theorem walk (a0 : Option Addr) (len0 cap0 : Nat) (z0 : List Int) (w : World) (w0 : IsRow .u8 w a0 len0 cap0 z0) :
    Calls Try.prog 3 #[.slice a0 len0 cap0] w fun e w' => e = .returned (.bool true) ∧ Below w.heap.size w w' := by
  obtain ⟨l, hs, hlc, hcm⟩ := Sl.of_row w0
  clear w0
  have hnb := Lib.hid (byt_num l)
  have hll := hs.len
  have Hll := Lib.hid hll
  clear hll
  by_cases hlen : len0 ≤ 1000
  · have hx := num_lt l
    by_cases h8 : len0 ≤ 8
    · have hby : Hid (byt (num l) (min ((len0 : Nat) : Int).toNat 8) = l ∧ min ((len0 : Nat) : Int).toNat 8 = len0) := by
        have h1 := hnb.out
        rw [Hll.out, Nat.min_eq_left h8, Nat.sub_self, List.drop_zero] at h1
        have h2 : min ((len0 : Nat) : Int).toNat 8 = len0 := by omega
        unfold Hid
        rw [h2]
        exact ⟨h1, rfl⟩
      clear hnb
      have hlc2 : (len0 : Int) ≤ (cap0 : Int) := by omega
      have hsub := hs
      by_cases hc0 : cap0 = 0
      · have hl0 : len0 = 0 := by omega
        subst hc0 hl0
        have hw0 : IntKind.i64.wrap 0 = 0 := rfl
        have hby : Hid (byt (num l) (min (0 : Int).toNat 8) = l ∧ min (0 : Int).toNat 8 = 0) := hby
        go_enter Try.func3, Try.ntmps3
        go_wp2_with fail
        refine (awake _).mono ?_
        rintro e w1 ⟨rfl, hb1⟩
        have hs1 := (hs.below hb1).more hb1.size
        go_wp2_with fail
        refine (number _ _ _ l _ hs1 (by omega) hlc).mono ?_
        rintro e w' ⟨rfl, rfl⟩
        go_wp2_with fail
        go_region_held3 (fun W => Base w' W)
          (first | assumption | exact (Base.refl _).drew | exact Base.step (by assumption) (by assumption) | exact Base.dr (by assumption) (by assumption))
          (first
          | (go_at_call 10
             refine (refNumber _ _ _ l _ (by exact hs1.base (by assumption)) (by omega)).mono ?_
             rintro e w' ⟨rfl, rfl⟩)
          | (go_at_call 12
             refine (bytes (num l) (0) _ hx (by omega)).mono ?_
             rintro e w2 ⟨A2, c2, rfl, hown2, hbel2⟩
             rw [hby.out.1, hby.out.2] at hown2
             rw [hby.out.2]
             have hs2 := hown2.sl)
          | (go_at_call 11
             refine (same _ _ 0 0 _ _ l l _ hs2 ((hsub.base (by exact Base.of hb1)).base (by assumption)) (by omega) (by omega)).mono ?_
             rintro e w3 ⟨rfl, hd3⟩
             rw [show decide (l = l) = true from decide_eq_true rfl]))
        rename_i hB3
        go_wp2
        go_ret
        exact ⟨rfl, hb1.trans (Below.mono hB3 hb1.size)⟩
      · have hcp : (0 : Int) < (cap0 : Int) := by omega
        have hw1 : IntKind.i64.wrap ((len0 : Int) - (len0 : Int)) = 0 := by rw [Int.sub_self]; rfl
        have hw0 : IntKind.i64.wrap 0 = 0 := rfl
        go_enter Try.func3, Try.ntmps3
        go_wp2_with fail
        refine (awake _).mono ?_
        rintro e w1 ⟨rfl, hb1⟩
        have hs1 := (hs.below hb1).more hb1.size
        go_wp2_with fail
        refine (number _ _ _ l _ hs1 (by omega) hlc).mono ?_
        rintro e w' ⟨rfl, rfl⟩
        go_wp2_with fail
        go_region_held3 (fun W => Base w' W)
          (first | assumption | exact (Base.refl _).drew | exact Base.step (by assumption) (by assumption) | exact Base.dr (by assumption) (by assumption))
          (first
          | (go_at_call 10
             refine (refNumber _ _ _ l _ (by exact hs1.base (by assumption)) (by omega)).mono ?_
             rintro e w' ⟨rfl, rfl⟩)
          | (go_at_call 12
             refine (bytes (num l) ((len0 : Int)) _ hx (by omega)).mono ?_
             rintro e w2 ⟨A2, c2, rfl, hown2, hbel2⟩
             rw [hby.out.1, hby.out.2] at hown2
             rw [hby.out.2]
             have hs2 := hown2.sl)
          | (go_at_call 11
             refine (same _ _ len0 len0 _ _ l l _ hs2 ((hsub.base (by exact Base.of hb1)).base (by assumption)) (by omega) (by omega)).mono ?_
             rintro e w3 ⟨rfl, hd3⟩
             rw [show decide (l = l) = true from decide_eq_true rfl]))
        rename_i hB3
        go_wp2
        go_ret
        exact ⟨rfl, hb1.trans (Below.mono hB3 hb1.size)⟩
    · obtain ⟨m, rfl⟩ : ∃ m, len0 = m + 8 := ⟨len0 - 8, by omega⟩
      obtain ⟨b, off, rfl, hb, hcells⟩ := hs.2 (by omega)
      have hsub : Sl w w.heap.size (some ⟨b, off + m, none⟩) 8 (l.drop m) := by
        refine ⟨by have := Hll.out; simp; omega, fun _ => ⟨b, off + m, rfl, hb, fun j u hu => ?_⟩⟩
        rw [List.getElem?_drop] at hu
        rw [Nat.add_assoc]
        exact hcells _ u hu
      clear hcells
      have hby : Hid (byt (num l) (min (8 : Int).toNat 8) = l.drop m ∧ min (8 : Int).toNat 8 = 8) := by
        have h1 := hnb.out
        rw [Hll.out, show min (m + 8) 8 = 8 by omega, show m + 8 - 8 = m by omega] at h1
        exact ⟨h1, rfl⟩
      clear hnb
      generalize l.drop m = r at *
      have hm0 : (0 : Int) < (m : Int) := by omega
      have hc0 : ¬ cap0 = m := by omega
      have hm9 : ¬ m = 0 := by omega
      have hlc2 : (m : Int) + 8 ≤ (cap0 : Int) := by omega
      have hm2 := Lib.hid hm9
      have hle : (m : Int) ≤ 992 := by omega
      have Hlc := Lib.hid hlc
      have Hle := Lib.hid hlen
      clear hm9 h8 hlen hlc
      go_enter Try.func3, Try.ntmps3
      go_wp2_with fail
      refine (awake _).mono ?_
      rintro e w1 ⟨rfl, hb1⟩
      have hs1 := (hs.below hb1).more hb1.size
      go_wp2_with fail
      refine (number _ _ _ l _ hs1 (by omega) Hlc.out).mono ?_
      rintro e w' ⟨rfl, rfl⟩
      go_wp2_with fail
      have hw1 : IntKind.i64.wrap ((m : Int) + 8 - 8) = (m : Int) := by rw [show (m : Int) + 8 - 8 = m by omega]; exact IntWalk.i64_in _ (by omega)
      have hw2 : IntKind.i64.wrap (m : Int) = (m : Int) := IntWalk.i64_in _ (by omega)
      have hm9 := hm2.out
      have hz1 : (0 : Int) ≤ (m : Int) := by omega
      have hz2 : (m : Int) ≤ ((m + 8 : Nat) : Int) := by omega
      have hz3 : (m : Int) ≤ (m : Int) + 8 := by omega
      go_region_held3 (fun W => Base w' W)
        (first | assumption | exact (Base.refl _).drew | exact Base.step (by assumption) (by assumption) | exact Base.dr (by assumption) (by assumption))
        (first
        | (go_at_call 10
           refine (refNumber _ _ _ l _ (by exact hs1.base (by assumption)) (by omega)).mono ?_
           rintro e w' ⟨rfl, rfl⟩)
        | (go_at_call 12
           refine (bytes (num l) (8) _ hx (by omega)).mono ?_
           rintro e w2 ⟨A2, c2, rfl, hown2, hbel2⟩
           rw [hby.out.1, hby.out.2] at hown2
           rw [hby.out.2]
           have hs2 := hown2.sl)
        | (go_at_call 11
           refine (same _ _ 8 8 _ _ r r _ hs2 ((hsub.base (by exact Base.of hb1)).base (by assumption)) (by omega) (by omega)).mono ?_
           rintro e w3 ⟨rfl, hd3⟩
           rw [show decide (r = r) = true from decide_eq_true rfl]))
      rename_i hB3
      go_wp2
      go_ret
      exact ⟨rfl, hb1.trans (Below.mono hB3 hb1.size)⟩
  · have hgt : (1000 : Int) < (len0 : Int) := by omega
    go_enter Try.func3, Try.ntmps3
    go_wp2_with fail
    refine (awake _).mono ?_
    rintro e w1 ⟨rfl, hb1⟩
    go_wp2_with fail
    refine (awake _).mono ?_
    rintro e w2 ⟨rfl, hb2⟩
    go_wp2_with fail
    go_ret
    exact ⟨rfl, hb1.trans (hb2.mono hb1.size)⟩

/-! ### THE ROW's STEP: by the guide's frame -/
set_option maxRecDepth 100000 in
theorem lifted (os : Os) (started : os.Started) (H : Type) (enc : TypeId × Value → H) :
    ReturnsInHanded {} Try.checked os 3 .any (Rows.bitsMatchesReferenceSpec.pre6 enc Try.prog Try.f3 Rows.bitsMatchesReferenceRow.domain false) (Rows.bitsMatchesReferenceSpec.post enc Try.prog Try.f3 false true false false) := by
  refine returnsInHanded_of_change (C := Try.checked) own started (by kernel_rfl) Try.func3
    (ChangeSpec.witness6 (enc := enc) (C := Try.checked) false ⟨#[], #[.slice none 0 0], []⟩ 8 (by kernel_rfl) (by kernel_rfl) (by kernel_rfl) (by kernel_rfl)) ?_
  intro W base args ds gs before hval0 hW hcnd _
  have hval : ∀ (j : Nat) t v, Try.f3.params[j]? = some t → args[j]? = some v → Value.okWide Try.prog W .any base t v := hval0
  have hW' := hW
  obtain ⟨p, q, hA0, hV, rfl, hfz, hnd⟩ := hW
  have hA : DataW.TrodAll enc Try.prog W 0 (fun _ => true) true Try.f3.params.toList args.toList ds p := hA0
  rw [Try.params3] at hA hval
  obtain ⟨v0, vs0, d0, ds0, p0, q0, hargs, rfl, rfl, h0, r0⟩ := trodAll_cons hA
  obtain ⟨rfl, rfl, rfl⟩ := trodAll_nil r0
  obtain rfl : args = #[v0] := by cases args; simp_all
  obtain ⟨rfl, rfl⟩ := trodVars_none hV
  obtain ⟨a0, len0, cap0, rfl⟩ := okWide_slice Try.underlying22 (hval 0 22 v0 rfl rfl)
  have k0 := h0
  have lt0 : ∀ x ∈ p0, x.block < W.heap.size := by obtain ⟨m, hm⟩ := k0; exact DataW.trod_lt m _ _ _ hm
  obtain ⟨z0, w0⟩ : ∃ zs, IsRow .u8 W a0 len0 cap0 zs := by
    obtain ⟨fuel, hf⟩ := h0
    rcases open_ints Try.underlying22 Try.underlying5 (by kernel_rfl) hf with ⟨hcs, _⟩ | ⟨x, l, c, zs, hcs, _, hl, hm, hz, _, hcell, hwz⟩
    · simp [Value.cells] at hcs
      obtain ⟨rfl, rfl, rfl⟩ := hcs
      exact ⟨[], .inl ⟨rfl, rfl, rfl, rfl⟩⟩
    · simp [Value.cells] at hcs
      obtain ⟨rfl, rfl, rfl⟩ := hcs
      exact ⟨zs, .inr ⟨_, rfl, hl, hm, by simpa using hz, hcell, hwz⟩⟩
  clear hA0 hval0
  refine (walk a0 len0 cap0 z0 W w0).mono fun e W' ⟨he, bel⟩ => ?_
  subst he
  exact ⟨_, rfl, _, _, _, [], _, [], hW', trodAll_mk1 (shut_bool Try.underlying4 _), (trodAll_cons_mk (Below.trod laidOut (by kernel_rfl) (of_decide_eq_true (by kernel_rfl)) k0 bel lt0) trodAll_mk0), rfl, bel.frame _, fun h => by cases h⟩

theorem over : Rows.bitsMatchesReferenceRow.holds Try.pinned (OpenSpec.ofChange Rows.bitsMatchesReferenceSpec) :=
  OpenClaim.holds_of_wide 3 Try.f3 rfl rfl rfl rfl rfl rfl rfl ⟨rfl, rfl, rfl, rfl, rfl⟩ rfl rfl rfl rfl rfl (by kernel_rfl) Try.func3 (by kernel_rfl)
    (of_decide_eq_true (by kernel_rfl)) (by unfold Func.isWrapper; first | (rw [if_pos (by decide +kernel)]; kernel_rfl) | (rw [if_neg (by decide +kernel)]; exact ⟨rfl, rfl⟩))
    (fun os started H enc _ => lifted os started H enc)

/-- The given statement. -/
theorem proved : Rows.BitsMatchesReferenceSaid := over
#print axioms proved
end Go.Proofs.Ytjonkmcglhhdaaa.bitsMatchesReference
