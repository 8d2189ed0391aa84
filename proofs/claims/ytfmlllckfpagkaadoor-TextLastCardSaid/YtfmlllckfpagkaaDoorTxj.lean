/-
  The walk of the law TextLast of layer 14: for every key and every byte it returns true, and writes nothing that was there.
-/
import Derived.Test.YtfmlllckfpagkaaDoorTxf
import Derived.Test.YtfmlllckfpagkaaDoorArg
import Derived.Deep.RegionHeld3
import Derived.Laws.IdiomStrings
import Derived.Great.BuildSlice
namespace Go.Proofs.YtfmlllckfpagkaaDoor
open Go.RowKit
set_option linter.unusedVariables false
set_option maxRecDepth 100000
set_option linter.unusedSimpArgs false

theorem lfacts14 {v m r : Nat} (hv : v < 256) (hm : v % 64 = m) (hr : v % 16 = r) : ((v : Int).tmod 64 = (m : Int) ∧ (v : Int) % 64 = (m : Int)) ∧ ((v : Int).tmod 16 = (r : Int) ∧ (v : Int) % 16 = (r : Int)) ∧ IntKind.i64.wrap (v : Int) = (v : Int) ∧ IntKind.u8.wrap (r : Int) = (r : Int) ∧ m < 64 ∧ m % 16 = r := by
  refine ⟨⟨?_, by omega⟩, ⟨?_, by omega⟩, wraps_i64' _ (by omega) (by omega), ?_, by omega, by omega⟩
  · rw [Int.tmod_eq_emod_of_nonneg (by omega)]; omega
  · rw [Int.tmod_eq_emod_of_nonneg (by omega)]; omega
  · rw [IntKind.wrap_u8]; omega
/-- A text with another last character. -/
def txM (f : Nat → Nat) (m : Nat) : List UInt8 := (txL f).take 21 ++ [UInt8.ofNat (tcF m)]
theorem txM_len (f : Nat → Nat) (m : Nat) : (txM f m).length = 22 := by unfold txM; rw [List.length_append, List.length_take, txL_len]; rfl
theorem txM_val (f : Nat → Nat) (m : Nat) (hm : m < 64) (i : Nat) (hi : i < 22) : valF (txM f m) i = if i < 21 then (sxF f i : Int) else (m : Int) := by
  by_cases h : i < 21
  · rw [if_pos h, ← tx_val f i hi]
    unfold valF txM
    rw [List.getD, List.getD, List.getElem?_append_left (by rw [List.length_take, txL_len]; omega), List.getElem?_take, if_pos h]
  · obtain rfl : i = 21 := by omega
    rw [if_neg h]
    unfold valF txM
    rw [List.getD, List.getElem?_append_right (by rw [List.length_take, txL_len]; omega), List.length_take, txL_len, show ([UInt8.ofNat (tcF m)] : List UInt8)[21 - min 21 22]? = some (UInt8.ofNat (tcF m)) from rfl, Option.getD_some, UInt8.toNat_ofNat_of_lt' (by have := tcF_lt m hm; simpa using (show tcF m < 256 by omega))]
    exact tv_tc m hm
theorem txM_pa (f : Nat → Nat) (m : Nat) (hm : m < 64) : paC (txM f m) = if m % 16 = 0 then (0, 0) else (11, 21) := by
  have hj : ∀ j, j < 22 → 0 ≤ valF (txM f m) j := fun j hj => by rw [txM_val f m hm j hj]; split <;> omega
  have h21 : valF (txM f m) 21 = (m : Int) := by rw [txM_val f m hm 21 (by omega), if_neg (by omega)]
  by_cases h : m % 16 = 0
  · rw [if_pos h]; exact pa_ok (txM_len f m) hj (by rw [h21, Int.toNat_natCast]; exact h)
  · rw [if_neg h]; exact pa_last (txM_len f m) hj (by rw [h21, Int.toNat_natCast]; exact h)
theorem run_takel (l : List UInt8) (h : 21 ≤ l.length) (w : World) : (Instr.sliceAt 9 (.string (stB l)) none (some (.int .i64 21)) none).run Tryd.prog w = .ok (.string (stB (l.take 21))) w := by
  rw [run_sliceAt_string w 9 _ _ _ _ Tryd.underlying9, run_slice_string_h w 9 (stB l) Tryd.underlying9 .i64 21 (by omega) (by rw [stB_size]; omega)]
  have e : (stB l).extract 0 (Int.toNat 21) = stB (l.take 21) := by
    apply ByteArray.ext
    rw [ByteArray.data_extract]
    simp [stB]
  rw [e]
theorem run_take21 (f : Nat → Nat) (w : World) : (Instr.sliceAt 9 (.string (stB (txL f))) none (some (.int .i64 21)) none).run Tryd.prog w = .ok (.string (stB ((txL f).take 21))) w := run_takel (txL f) (by rw [txL_len]; omega) w
theorem txM_add (f : Nat → Nat) (y : Nat) : ¬ 9223372036854775807 < (stB ((txL f).take 21)).size + (stB [UInt8.ofNat y]).size := by
  rw [stB_size, stB_size, List.length_take, txL_len, List.length_singleton]; omega
theorem txM_join (f : Nat → Nat) (m : Nat) : stB (txM f m) = stB ((txL f).take 21) ++ stB [UInt8.ofNat (tcF m)] := by
  apply ByteArray.ext
  simp [stB, txM]
theorem wp_via14 {P : Program} {c : Code} {Q : Exit → Act → World → Prop} {a : Act} {w : World} {T : Nat → Act} (F : Nat → World → Prop) (h1 : Code.wp P c (fun e a w => e = .normal ∧ ∃ g, a = T g ∧ F g w) a w) (h2 : ∀ g w, F g w → Q .normal (T g) w) : Code.wp P c Q a w :=
  Code.wp_mono (fun e a w h => by obtain ⟨rfl, g, rfl, h⟩ := h; exact h2 g w h) h1
theorem wp_bs14 {P : Program} {o : Oper} {a : Act} {w w' : World} {K : Act → World → Prop} {Q : Exit → Act → World → Prop} (t : TypeId) (len : Nat) (parts : Array (Nat × Operand)) (ho : o.op = .buildSlice t len parts)
    (ps : List (Nat × Value)) (hps : parts.toList.map (fun p => (p.1, a.eval p.2)) = ps) (v : Value) (hb : (Instr.buildSlice t len ps.toArray).run P w = .ok v w') (h : K (a.put o.dst v) w') : o.wp P a w K Q := by
  have e : (parts.map fun (i, x) => (i, a.eval x)) = ps.toArray := by rw [← hps]; apply Array.toList_inj.1; simp
  unfold Oper.wp execOp
  simp only [ho, e, Sem.run_bind, hb, Result.andThen_ok]
  exact h
theorem wp_cv14 {P : Program} {o : Oper} {a : Act} {w : World} {K : Act → World → Prop} {Q : Exit → Act → World → Prop} (s d : TypeId) (x : Operand) (ho : o.op = .convert s d x) (V v : Value) (hx : a.eval x = V) (hb : (convert s d V).run P w = .ok v w) (h : K (a.put o.dst v) w) : o.wp P a w K Q := by
  subst hx
  unfold Oper.wp execOp
  simp only [ho, Sem.run_bind, hb, Result.andThen_ok]
  exact h
theorem built1 (y : Nat) (V : World) : (Instr.buildSlice 38 1 #[(0, .int .u8 (y : Int))]).run Tryd.prog V = .ok (.slice (some ⟨V.heap.size, 0, none⟩) 1 1) (V.alloc (.cells #[.int .u8 (y : Int)] 5)) := by
  obtain ⟨i0, hi0, hz0, hz1, hz2⟩ := info_parts info8x
  exact run_buildSlice (P := Tryd.prog) V 38 5 1 _ #[.int .u8 (y : Int)] i0 _ Tryd.underlying38 hi0 hz0 (by rw [hz1]; decide) (by rw [hz1]; decide) (by rw [hz1]; kernel_rfl)
theorem conv1 (g y : Nat) (w : World) (hy : y < 256) (h : w.cell? ⟨g, 0, none⟩ = some (.int .u8 (y : Nat))) : (convert 38 9 (.slice (some ⟨g, 0, none⟩) 1 1)).run Tryd.prog w = .ok (.string (stB [UInt8.ofNat y])) w := by
  have e := run_convert_bytes_back (P := Tryd.prog) w 38 9 5 ⟨g, 0, none⟩ 1 [UInt8.ofNat y] Tryd.underlying38 Tryd.underlying5 Tryd.underlying9 (fun j hj => by
    obtain rfl : j = 0 := by simp at hj; omega
    refine Eq.trans h ?_
    rw [show ([UInt8.ofNat y] : List UInt8)[0] = UInt8.ofNat y from rfl, UInt8.toNat_ofNat_of_lt' (by simpa using hy)])
  exact e

set_option maxHeartbeats 4000000 in
theorem tlast14 (f : Nat → Nat) (v : Nat) (w : World) (hf : ∀ j, j < 16 → f j < 256) (hv : v < 256) (hs : TxG w) :
    Calls Tryd.prog 6 #[.agg (arL 16 f).toArray, .int .u8 (v : Int)] w fun e w' => e = .returned (.bool true) ∧ Below w.heap.size w w' := by
  have HX := Lib.hid hs
  have hz := zero16x
  have z0 := run_zero16t
  have HV := Lib.hid hv
  clear hv
  have Hf := Lib.hid hf
  obtain ⟨kf, hkf⟩ : ∃ k : Array Value, (arL 16 f).toArray = k := ⟨_, rfl⟩
  obtain ⟨w1, hw1⟩ : ∃ V : World, V = w.alloc (.cells (arL 16 f).toArray 22) := ⟨_, rfl⟩
  have hs1 : w1.heap.size = w.heap.size + 1 := by rw [hw1]; simp
  have hBw1 : Below w.heap.size w w1 := by rw [hw1]; exact (Below.refl _ _).alloc (Nat.le_refl _) _
  have hfw1 : Ar w1 w.heap.size 16 f := by rw [hw1]; exact Ar.new w 16 f _
  rw [hkf] at hw1
  rw [hkf]
  clear hkf hs hf
  go_enter Tryd.func6, Tryd.ntmps6
  go_upto_region 1 with fail
  rw [← hw1]
  clear hw1
  try simp only [Nat.add_assoc, Nat.reduceAdd]
  obtain ⟨gf, hgf⟩ : ∃ g : Nat, w.heap.size = g := ⟨_, rfl⟩
  rw [hgf] at hfw1
  try simp only [hgf]
  have hlf : w.heap.size ≤ gf := by omega
  clear  hs1
  go_wp2_with fail
  refine (tawake _ (HX.out.keep hBw1)).mono ?_
  rintro e x1 ⟨rfl, hq⟩
  have hfx1 := (hfw1).to (by omega) hq
  have hBx1 := hBw1.trans (hq.mono hBw1.size)
  clear hq hfw1 hBw1
  obtain ⟨m, hm⟩ : ∃ m, v % 64 = m := ⟨_, rfl⟩
  obtain ⟨r, hr⟩ : ∃ r, v % 16 = r := ⟨_, rfl⟩
  obtain ⟨⟨u1, u2⟩, ⟨u3, u4⟩, u5, u6, u7, u8⟩ := lfacts14 HV.out hm hr
  have HM := Lib.hid u7
  have HMR := Lib.hid u8
  have U3 := Lib.hid u3
  have U4 := Lib.hid u4
  have U6 := Lib.hid u6
  clear hm hr u3 u4 u6 u7 u8
  go_wp2_with fail
  refine (tchar (m : Int) _ (by have := HM.out; omega) (HX.out.keep hBx1)).mono ?_
  rintro e x2 ⟨rfl, hq⟩
  rw [show decide ((0 : Int) ≤ (m : Int) ∧ (m : Int) < 64) = true from decide_eq_true ⟨by omega, by have := HM.out; omega⟩, show tchN (m : Int) = tcF m by unfold tchN; rw [if_pos ⟨by omega, by have := HM.out; omega⟩, Int.toNat_natCast]]
  have hfx2 := (hfx1).to (by omega) hq
  have hBx2 := hBx1.trans (hq.mono hBx1.size)
  clear hq hfx1 hBx1
  clear u1 u2 u5
  have HYB := Lib.hid (show tcF m < 256 by have := tcF_lt m HM.out; omega)
  have HPA := Lib.hid (txM_pa f m HM.out)
  have HML := Lib.hid (txM_len f m)
  have HTM := Lib.hid (txM_join f m)
  obtain ⟨L, hL⟩ : ∃ L, txM f m = L := ⟨_, rfl⟩
  rw [hL] at HPA HML HTM
  clear hL
  obtain ⟨y, hy⟩ : ∃ y, tcF m = y := ⟨_, rfl⟩
  rw [hy] at HYB HTM
  rw [hy]
  clear hy
  have HT21 := Lib.hid (run_take21 f)
  have HSZ := Lib.hid (txM_add f y)
  go_upto_region 4 with fail
  apply wp_via14 (F := fun gu W => Ar W gf 16 (f) ∧ Below w.heap.size w W)
  case h1 =>
    refine wp_region_noPanic ?_
    refine wp_region_held_drew (S := fun W => Ar W gf 16 (f) ∧ Below w.heap.size w W) (by kernel_rfl) ⟨hfx2.drew, hBx2.drew⟩ (fun hHeld => ?_)
    generalize World.drew x2 = qd at *
    refine wpAnyH_take (i := 0) (v := .agg (arL 16 (f)).toArray) rfl (by kernel_rfl) (by kernel_rfl) (by kernel_rfl) (fun _ _ _ h => h) (yieldsIf_load_mid (by rfl) _ _ rfl gf (0) rfl (arL 16 (f)) _ (fun W hSw => hSw.1.range) Tryd.arr16x rfl (size16x _)) (by assumption) ?_
    simp only [Act.put, List.setIfInBounds_toArray, List.set_cons_zero, List.set_cons_succ, List.getElem_toArray, List.getElem_cons_zero]
    refine wpAnyH_take (i := 3) (v := ?vq1) rfl (by kernel_rfl) (by kernel_rfl) (by kernel_rfl) (fun _ _ _ h => h) (Or.inl ⟨by rfl, ?hyq1⟩) (by assumption) ?restq1
    case hyq1 =>
      intro W hSw
      go_simp
      try with_reducible rfl
    simp only [Act.put, List.setIfInBounds_toArray, List.set_cons_zero, List.set_cons_succ, List.getElem_toArray, List.getElem_cons_zero, List.getElem_cons_succ]
    refine wpAnyH_ready (rs := [1, 4]) (by kernel_rfl) (by simp) ?_
    refine AllReadyH.cons rfl (fun K hK => ?_) (AllReadyH.cons rfl (fun K hK => ?_) AllReadyH.nil)
    · go_simp
      refine (rprint f _ Hf.out).mono ?_
      rintro e q2 ⟨rfl, hq⟩
      go_wp2_with fail
      refine hK.out _ _ ⟨(hHeld.1).to (by omega) hq, (hHeld.2).trans (hq.mono (hHeld.2).size)⟩ (fun hHeld2 => ?_)
      clear hK K hHeld hq
      have hHeld := hHeld2
      clear hHeld2
      try simp only [Act.put, List.setIfInBounds_toArray, List.set_cons_zero, List.set_cons_succ, List.getElem_toArray, List.getElem_cons_zero, List.getElem_cons_succ]
      refine wpAnyH_take (i := 2) (v := ?vq3) rfl (by kernel_rfl) (by kernel_rfl) (by kernel_rfl) (fun _ _ _ h => h) (Or.inl ⟨by rfl, ?hyq3⟩) (by assumption) ?restq3
      case hyq3 =>
        intro W hSw
        have ht := HT21.out
        go_simp
        try with_reducible rfl
      simp only [Act.put, List.setIfInBounds_toArray, List.set_cons_zero, List.set_cons_succ, List.getElem_toArray, List.getElem_cons_zero, List.getElem_cons_succ]
      refine wpAnyH_ready (rs := [4]) (by kernel_rfl) (by simp) ?_
      refine AllReadyH.cons rfl (fun K hK => ?_) AllReadyH.nil
      try rw [if_pos (by rfl)]
      refine wp_bs14 _ _ _ rfl [(0, .int .u8 (y : Nat))] rfl _ (built1 y _) ?_
      obtain ⟨gu, hgu⟩ : ∃ g : Nat, q2.heap.size = g := ⟨_, rfl⟩
      obtain ⟨q4, hwq4⟩ : ∃ V : World, V = q2.alloc (.cells #[.int .u8 (y : Nat)] 5) := ⟨_, rfl⟩
      have hq : Below q2.heap.size q2 q4 := by rw [hwq4]; exact (Below.refl _ _).alloc (Nat.le_refl _) _
      have hUq4 : q4.cell? ⟨gu, 0, none⟩ = some (.int .u8 (y : Nat)) := by rw [hwq4, ← hgu]; exact (World.cell?_alloc_mark _ _ _ _ 0).trans rfl
      rw [← hwq4]
      try rw [hgu]
      refine hK.out _ _ ⟨(hHeld.1).to (by omega) hq, (hHeld.2).trans (hq.mono (hHeld.2).size)⟩ (fun hHeld2 => ?_)
      clear hK K hHeld hq hwq4 hgu
      have hHeld := hHeld2
      clear hHeld2
      try simp only [Act.put, List.setIfInBounds_toArray, List.set_cons_zero, List.set_cons_succ, List.getElem_toArray, List.getElem_cons_zero, List.getElem_cons_succ]
      refine wpAnyH_ready (rs := [5]) (by kernel_rfl) (by simp) ?_
      refine AllReadyH.cons rfl (fun K hK => ?_) AllReadyH.nil
      try rw [if_pos (by rfl)]
      refine wp_cv14 _ _ _ rfl _ _ rfl (conv1 gu y _ HYB.out hUq4) ?_
      refine hK.out _ _ hHeld (fun hHeld2 => ?_)
      clear hK K hHeld
      have hHeld := hHeld2
      clear hHeld2
      try simp only [Act.put, List.setIfInBounds_toArray, List.set_cons_zero, List.set_cons_succ, List.getElem_toArray, List.getElem_cons_zero, List.getElem_cons_succ]
      refine wpAnyH_take (i := 6) (v := ?vq5) rfl (by kernel_rfl) (by kernel_rfl) (by kernel_rfl) (fun _ _ _ h => h) (Or.inl ⟨by rfl, ?hyq5⟩) (by assumption) ?restq5
      case hyq5 =>
        intro W hSw
        have ht := HSZ.out
        go_simp
        try with_reducible rfl
      simp only [Act.put, List.setIfInBounds_toArray, List.set_cons_zero, List.set_cons_succ, List.getElem_toArray, List.getElem_cons_zero, List.getElem_cons_succ]
      refine wpAnyH_take (i := 7) (v := ?vq6) rfl (by kernel_rfl) (by kernel_rfl) (by kernel_rfl) (fun _ _ _ h => h) (Or.inl ⟨by rfl, ?hyq6⟩) (by assumption) ?restq6
      case hyq6 =>
        intro W hSw
        go_simp
        try with_reducible rfl
      simp only [Act.put, List.setIfInBounds_toArray, List.set_cons_zero, List.set_cons_succ, List.getElem_toArray, List.getElem_cons_zero, List.getElem_cons_succ]
      refine wpAnyH_done (by kernel_rfl) ?_ _
      refine NoPanic.normal ?_
      exact ⟨rfl, gu, rfl, hHeld.1, hHeld.2⟩
    · try rw [if_pos (by rfl)]
      refine wp_bs14 _ _ _ rfl [(0, .int .u8 (y : Nat))] rfl _ (built1 y _) ?_
      obtain ⟨gu, hgu⟩ : ∃ g : Nat, qd.heap.size = g := ⟨_, rfl⟩
      obtain ⟨q7, hwq7⟩ : ∃ V : World, V = qd.alloc (.cells #[.int .u8 (y : Nat)] 5) := ⟨_, rfl⟩
      have hq : Below qd.heap.size qd q7 := by rw [hwq7]; exact (Below.refl _ _).alloc (Nat.le_refl _) _
      have hUq7 : q7.cell? ⟨gu, 0, none⟩ = some (.int .u8 (y : Nat)) := by rw [hwq7, ← hgu]; exact (World.cell?_alloc_mark _ _ _ _ 0).trans rfl
      rw [← hwq7]
      try rw [hgu]
      refine hK.out _ _ ⟨(hHeld.1).to (by omega) hq, (hHeld.2).trans (hq.mono (hHeld.2).size)⟩ (fun hHeld2 => ?_)
      clear hK K hHeld hq hwq7 hgu
      have hHeld := hHeld2
      clear hHeld2
      try simp only [Act.put, List.setIfInBounds_toArray, List.set_cons_zero, List.set_cons_succ, List.getElem_toArray, List.getElem_cons_zero, List.getElem_cons_succ]
      refine wpAnyH_ready (rs := [1, 5]) (by kernel_rfl) (by simp) ?_
      refine AllReadyH.cons rfl (fun K hK => ?_) (AllReadyH.cons rfl (fun K hK => ?_) AllReadyH.nil)
      · go_simp
        refine (rprint f _ Hf.out).mono ?_
        rintro e q8 ⟨rfl, hq⟩
        go_wp2_with fail
        have hUq8 := (hq.cell (p := ⟨gu, 0, none⟩) (block_lt hUq7)).trans hUq7
        refine hK.out _ _ ⟨(hHeld.1).to (by omega) hq, (hHeld.2).trans (hq.mono (hHeld.2).size)⟩ (fun hHeld2 => ?_)
        clear hK K hHeld hq hUq7
        have hHeld := hHeld2
        clear hHeld2
        try simp only [Act.put, List.setIfInBounds_toArray, List.set_cons_zero, List.set_cons_succ, List.getElem_toArray, List.getElem_cons_zero, List.getElem_cons_succ]
        refine wpAnyH_take (i := 2) (v := ?vq9) rfl (by kernel_rfl) (by kernel_rfl) (by kernel_rfl) (fun _ _ _ h => h) (Or.inl ⟨by rfl, ?hyq9⟩) (by assumption) ?restq9
        case hyq9 =>
          intro W hSw
          have ht := HT21.out
          go_simp
          try with_reducible rfl
        simp only [Act.put, List.setIfInBounds_toArray, List.set_cons_zero, List.set_cons_succ, List.getElem_toArray, List.getElem_cons_zero, List.getElem_cons_succ]
        refine wpAnyH_ready (rs := [5]) (by kernel_rfl) (by simp) ?_
        refine AllReadyH.cons rfl (fun K hK => ?_) AllReadyH.nil
        try rw [if_pos (by rfl)]
        refine wp_cv14 _ _ _ rfl _ _ rfl (conv1 gu y _ HYB.out hUq8) ?_
        refine hK.out _ _ hHeld (fun hHeld2 => ?_)
        clear hK K hHeld
        have hHeld := hHeld2
        clear hHeld2
        try simp only [Act.put, List.setIfInBounds_toArray, List.set_cons_zero, List.set_cons_succ, List.getElem_toArray, List.getElem_cons_zero, List.getElem_cons_succ]
        refine wpAnyH_take (i := 6) (v := ?vq10) rfl (by kernel_rfl) (by kernel_rfl) (by kernel_rfl) (fun _ _ _ h => h) (Or.inl ⟨by rfl, ?hyq10⟩) (by assumption) ?restq10
        case hyq10 =>
          intro W hSw
          have ht := HSZ.out
          go_simp
          try with_reducible rfl
        simp only [Act.put, List.setIfInBounds_toArray, List.set_cons_zero, List.set_cons_succ, List.getElem_toArray, List.getElem_cons_zero, List.getElem_cons_succ]
        refine wpAnyH_take (i := 7) (v := ?vq11) rfl (by kernel_rfl) (by kernel_rfl) (by kernel_rfl) (fun _ _ _ h => h) (Or.inl ⟨by rfl, ?hyq11⟩) (by assumption) ?restq11
        case hyq11 =>
          intro W hSw
          go_simp
          try with_reducible rfl
        simp only [Act.put, List.setIfInBounds_toArray, List.set_cons_zero, List.set_cons_succ, List.getElem_toArray, List.getElem_cons_zero, List.getElem_cons_succ]
        refine wpAnyH_done (by kernel_rfl) ?_ _
        refine NoPanic.normal ?_
        exact ⟨rfl, gu, rfl, hHeld.1, hHeld.2⟩
      · try rw [if_pos (by rfl)]
        refine wp_cv14 _ _ _ rfl _ _ rfl (conv1 gu y _ HYB.out hUq7) ?_
        refine hK.out _ _ hHeld (fun hHeld2 => ?_)
        clear hK K hHeld
        have hHeld := hHeld2
        clear hHeld2
        try simp only [Act.put, List.setIfInBounds_toArray, List.set_cons_zero, List.set_cons_succ, List.getElem_toArray, List.getElem_cons_zero, List.getElem_cons_succ]
        refine wpAnyH_ready (rs := [1]) (by kernel_rfl) (by simp) ?_
        refine AllReadyH.cons rfl (fun K hK => ?_) AllReadyH.nil
        go_simp
        refine (rprint f _ Hf.out).mono ?_
        rintro e q12 ⟨rfl, hq⟩
        go_wp2_with fail
        have hUq12 := (hq.cell (p := ⟨gu, 0, none⟩) (block_lt hUq7)).trans hUq7
        refine hK.out _ _ ⟨(hHeld.1).to (by omega) hq, (hHeld.2).trans (hq.mono (hHeld.2).size)⟩ (fun hHeld2 => ?_)
        clear hK K hHeld hq hUq7
        have hHeld := hHeld2
        clear hHeld2
        try simp only [Act.put, List.setIfInBounds_toArray, List.set_cons_zero, List.set_cons_succ, List.getElem_toArray, List.getElem_cons_zero, List.getElem_cons_succ]
        refine wpAnyH_take (i := 2) (v := ?vq13) rfl (by kernel_rfl) (by kernel_rfl) (by kernel_rfl) (fun _ _ _ h => h) (Or.inl ⟨by rfl, ?hyq13⟩) (by assumption) ?restq13
        case hyq13 =>
          intro W hSw
          have ht := HT21.out
          go_simp
          try with_reducible rfl
        simp only [Act.put, List.setIfInBounds_toArray, List.set_cons_zero, List.set_cons_succ, List.getElem_toArray, List.getElem_cons_zero, List.getElem_cons_succ]
        refine wpAnyH_take (i := 6) (v := ?vq14) rfl (by kernel_rfl) (by kernel_rfl) (by kernel_rfl) (fun _ _ _ h => h) (Or.inl ⟨by rfl, ?hyq14⟩) (by assumption) ?restq14
        case hyq14 =>
          intro W hSw
          have ht := HSZ.out
          go_simp
          try with_reducible rfl
        simp only [Act.put, List.setIfInBounds_toArray, List.set_cons_zero, List.set_cons_succ, List.getElem_toArray, List.getElem_cons_zero, List.getElem_cons_succ]
        refine wpAnyH_take (i := 7) (v := ?vq15) rfl (by kernel_rfl) (by kernel_rfl) (by kernel_rfl) (fun _ _ _ h => h) (Or.inl ⟨by rfl, ?hyq15⟩) (by assumption) ?restq15
        case hyq15 =>
          intro W hSw
          go_simp
          try with_reducible rfl
        simp only [Act.put, List.setIfInBounds_toArray, List.set_cons_zero, List.set_cons_succ, List.getElem_toArray, List.getElem_cons_zero, List.getElem_cons_succ]
        refine wpAnyH_done (by kernel_rfl) ?_ _
        refine NoPanic.normal ?_
        exact ⟨rfl, gu, rfl, hHeld.1, hHeld.2⟩
  rintro gu x3 ⟨hfx3, hBx3⟩
  clear hfx2 hBx2 HT21 HSZ
  by_cases h0 : m % 16 = 0
  · go_wp2_with fail
    refine (tparse_at _ L HTM.out _ (by rw [HML.out]; omega) (HX.out.keep hBx3)).mono ?_
    rintro e x4 ⟨rfl, hq⟩
    rw [HPA.out, if_pos h0]
    rw [show fauV (0, 0) = .nilIface from rfl]
    have hfx4 := (hfx3).to (by omega) hq
    have hBx4 := hBx3.trans (hq.mono hBx3.size)
    clear hq hfx3 hBx3
    obtain ⟨K, hK9⟩ : ∃ K, paK L = K := ⟨_, rfl⟩
    rw [hK9]
    clear hK9
    obtain ⟨gk, hgk⟩ : ∃ g : Nat, x4.heap.size = g := ⟨_, rfl⟩
    have hlgfgk : gf < gk := by rw [← hgk]; exact hfx4.lt (by omega)
    have hlwgk : w.heap.size ≤ gk := by rw [← hgk]; exact hBx4.size
    have hq : Below x4.heap.size x4 (x4.alloc (.cells (arL 16 fun _ => 0).toArray 22)) := (Below.refl _ _).alloc (Nat.le_refl _) _
    have hfx5a := (hfx4).to (by omega) hq
    have hkx5a := Ar.new x4 16 (fun _ => 0) 22
    have hBx5a := hBx4.alloc hBx4.size (.cells (arL 16 fun _ => 0).toArray 22)
    rw [hgk] at hkx5a
    clear hq hfx4 hBx4
    go_upto_region 6 with (first | (refine wpList_store_ar rfl _ _ _ rfl _ _ _ (K) rfl rfl hkx5a (size16x _) ?_; intro x5 hkx5 belx5 sizx5 keex5) | fail)
    have hfx5 := (hfx5a).keep hlgfgk belx5
    have hBx5 := hBx5a.trans (belx5.mono hlwgk)
    clear hfx5a hkx5a hBx5a belx5 sizx5 keex5 hgk
    try dsimp only [Act.put]
    have v1 := U3.out
    have v2 := U4.out
    have v3 := U6.out
    have h1 : r = 0 := by have := HMR.out; omega
    subst h1
    clear h0
    go_wp2_with fail
    go_ret
    exact ⟨rfl, hBx5⟩
  · go_wp2_with fail
    refine (tparse_at _ L HTM.out _ (by rw [HML.out]; omega) (HX.out.keep hBx3)).mono ?_
    rintro e x6 ⟨rfl, hq⟩
    rw [HPA.out, if_neg h0]
    rw [show fauV (11, 21) = .iface 56 (.agg #[.int .i64 11, .int .i64 21]) from rfl]
    have hfx6 := (hfx3).to (by omega) hq
    have hBx6 := hBx3.trans (hq.mono hBx3.size)
    clear hq hfx3 hBx3
    obtain ⟨K, hK9⟩ : ∃ K, paK L = K := ⟨_, rfl⟩
    rw [hK9]
    clear hK9
    obtain ⟨gk, hgk⟩ : ∃ g : Nat, x6.heap.size = g := ⟨_, rfl⟩
    have hlgfgk : gf < gk := by rw [← hgk]; exact hfx6.lt (by omega)
    have hlwgk : w.heap.size ≤ gk := by rw [← hgk]; exact hBx6.size
    have hq : Below x6.heap.size x6 (x6.alloc (.cells (arL 16 fun _ => 0).toArray 22)) := (Below.refl _ _).alloc (Nat.le_refl _) _
    have hfx7a := (hfx6).to (by omega) hq
    have hkx7a := Ar.new x6 16 (fun _ => 0) 22
    have hBx7a := hBx6.alloc hBx6.size (.cells (arL 16 fun _ => 0).toArray 22)
    rw [hgk] at hkx7a
    clear hq hfx6 hBx6
    go_upto_region 6 with (first | (refine wpList_store_ar rfl _ _ _ rfl _ _ _ (K) rfl rfl hkx7a (size16x _) ?_; intro x7 hkx7 belx7 sizx7 keex7) | fail)
    have hfx7 := (hfx7a).keep hlgfgk belx7
    have hBx7 := hBx7a.trans (belx7.mono hlwgk)
    clear hfx7a hkx7a hBx7a belx7 sizx7 keex7 hgk
    try dsimp only [Act.put]
    have v1 := U3.out
    have v2 := U4.out
    have v3 := U6.out
    have h1 : ¬ (r : Int) = 0 := by have := HMR.out; omega
    clear h0
    go_wp2_with fail
    refine (told_is 11 21 _ (by decide) (HX.out.keep hBx7).err).mono ?_
    rintro e x8 ⟨rfl, hq⟩
    have hfx8 := (hfx7).to (by omega) hq
    have hkx8 := (hkx7).to (by omega) hq
    have hBx8 := hBx7.trans (hq.mono hBx7.size)
    clear hq hfx7 hkx7 hBx7
    go_wp2_with fail
    go_ret
    exact ⟨rfl, hBx8⟩
end Go.Proofs.YtfmlllckfpagkaaDoor
