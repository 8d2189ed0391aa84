/-
  The walk of the law PeerMatchesReference of layer 21: for any strings it returns true, and writes nothing that was there.
-/
import Derived.Test.YtfpniipbdkdhlaaPee
import Derived.Deep.Upon
import Derived.Lib.AppendZeros
import Derived.BigFrame
import Derived.Test.YtfpniipbdkdhlaaUsl
namespace Go.Proofs.Ytfpniipbdkdhlaa
open Go.RowKit Go.MapKept
set_option linter.unusedVariables false
set_option linter.unusedSimpArgs false
set_option maxRecDepth 100000

theorem infoS : (Try.prog.info? 9).map (fun i => (i.zero, i.size, i.bytes)) = some (some (.string ⟨#[]⟩), 1, 16) := by kernel_rfl
theorem wpList_append_runW {P : Program} {w : World} {ops : Array Oper} {rest : List Oper} {o : Oper} {a : Act} {Q : Exit → Act → World → Prop} (hw : Region.wanted o (yielded ops a.tmps) = true) (s x : Operand) (t tn : TypeId)
    (ho : o.op = .call { callee := .builtin .append, args := #[s, x], argTypes := #[t, tn] }) (vs vx : Value) (hs : a.eval s = vs) (hx : a.eval x = vx)
    (v' : Value) (w' : World) (hr : (Builtin.append_ #[t, tn] o.type #[vs, vx]).run P w = .ok v' w') (h : wpList P ops Q rest (a.put o.dst v') w') : wpList P ops Q (o :: rest) a w :=
  BigFrame.wpList_want hw fun _ hK => Lib.wp_append_run w s x t tn ho vs vx hs hx v' w' hr (hK _ _ h)
/-- A list of its own that has what a slice has, and two strings more. -/
theorem two_more (a b : ByteArray) (A : Option Addr) (n c : Nat) (F : Nat → ByteArray) (w : World) (h : Sts w w.heap.size A n F) (hr : n * 16 ≤ 140737488351232) :
    ∃ v3 w3 v5 w5, (Builtin.append_ #[22, 22] 22 #[.slice (some ⟨w.heap.size, 0, none⟩) 0 0, .slice A n c]).run Try.prog (w.alloc (.cells #[] 9)) = .ok v3 w3 ∧
      (Builtin.append_ #[22, 22] 22 #[v3, .slice (some ⟨w3.heap.size, 0, none⟩) 2 2]).run Try.prog (w3.alloc (.cells #[.string a, .string b] 9)) = .ok v5 w5 ∧
      (∃ A5 c5 G, v5 = .slice A5 (n + 2) c5 ∧ Sts w5 w5.heap.size A5 (n + 2) G) ∧ Below w.heap.size w w5 := by
  obtain ⟨i0, hi0, hz0, hz1, hz2⟩ := info_parts infoS
  have hmx := maxLen_eq
  have O2 : (w.alloc (.cells #[] 9)).ownsRow w.heap.size 9 1 (.slice (some ⟨w.heap.size, 0, none⟩) 0 0) 0 [] := World.ownsRow_made w #[] 0 (Nat.le_refl _) (Nat.zero_le _) rfl
  have B2 : Below w.heap.size w (w.alloc (.cells #[] 9)) := (Below.refl _ _).alloc (Nat.le_refl _) _
  have hs2 : w.heap.size ≤ (w.alloc (.cells #[] 9)).heap.size := B2.size
  obtain ⟨v3, w3, hr3, O3, B3⟩ : ∃ v3 w3, (Builtin.append_ #[22, 22] 22 #[.slice (some ⟨w.heap.size, 0, none⟩) 0 0, .slice A n c]).run Try.prog (w.alloc (.cells #[] 9)) = .ok v3 w3 ∧ w3.ownsRow w.heap.size 9 1 v3 n (stL n F) ∧ Below w.heap.size w w3 := by
    by_cases h0 : n = 0
    · subst h0
      refine ⟨_, _, run_append_nothing _ 22 22 22 9 i0 Try.underlying22 hi0 _ 0 0 (Nat.le_refl _) _ (by
        cases A with
        | none => exact Src.ofNil _ Try.underlying22 c
        | some a => exact Src.ofSlice _ Try.underlying22 a 0 c [] (by simp) (by simp) (by simp)), O2, B2⟩
    · obtain ⟨g, o, rfl, hsrc⟩ := (h.keep B2).src (by omega)
      obtain ⟨v3, w3, h1, h2, h3, _⟩ := run_append_own (P := Try.prog) (w.alloc (.cells #[] 9)) w.heap.size 22 22 9 i0 (.string ⟨#[]⟩) 1 16 Try.underlying22 hi0 hz0 hz1 hz2 rfl (by decide) _ 0 [] O2 ⟨g, o, none⟩ n c (stL n F) (by rw [stL_len, Nat.mul_one]) hsrc (stL_one n F) (by omega) (by omega) hs2
      rw [List.nil_append, Nat.zero_add] at h2
      exact ⟨v3, w3, h1, h2, B2.grown h3 hs2 (fun g hg => own_blk O2 hg)⟩
  have B4 : Below w.heap.size w (w3.alloc (.cells #[.string a, .string b] 9)) := B3.alloc B3.size _
  have O4 := O3.alloc (.cells #[.string a, .string b] 9)
  have src4 : ∀ j u, [Value.string a, .string b][j]? = some u → (w3.alloc (.cells #[.string a, .string b] 9)).cell? ((⟨w3.heap.size, 0, none⟩ : Addr).add j) = some u := fun j u hu => by
    rw [Addr.add_mid, Nat.zero_add]
    match j, hu with
    | 0, hu => simp at hu; subst hu; exact World.cell?_alloc_at _ _ _ _ rfl
    | 1, hu => simp at hu; subst hu; exact World.cell?_alloc_at _ _ _ _ rfl
    | j + 2, hu => simp at hu
  obtain ⟨v5, w5, h1, h2, h3, _⟩ := run_append_own (P := Try.prog) (w3.alloc (.cells #[.string a, .string b] 9)) w.heap.size 22 22 9 i0 (.string ⟨#[]⟩) 1 16 Try.underlying22 hi0 hz0 hz1 hz2 rfl (by decide) _ n _ O4 ⟨w3.heap.size, 0, none⟩ 2 2 [.string a, .string b] rfl src4 (fun u hu => by simp at hu; rcases hu with rfl | rfl <;> rfl) (by omega) (by omega) B4.size
  obtain ⟨G, hG⟩ : ∃ G : Nat → ByteArray, stL (n + 2) G = stL n F ++ [.string a, .string b] := by
    refine ⟨fun j => if j < n then F j else if j = n then a else b, ?_⟩
    unfold stL
    rw [List.range_succ, List.range_succ, List.map_append, List.map_append]
    simp only [List.map_cons, List.map_nil, if_neg (Nat.lt_irrefl n), if_true, if_neg (show ¬ n + 1 < n by omega), if_neg (show ¬ n + 1 = n by omega), List.append_assoc, List.cons_append, List.nil_append]
    congr 1
    exact List.map_congr_left (fun j hj => by rw [if_pos (List.mem_range.1 hj)])
  rw [← hG] at h2
  obtain ⟨A5, c5, rfl⟩ := own_shape h2
  exact ⟨v3, w3, _, w5, hr3, h1, ⟨A5, c5, G, rfl, Sts.of_own h2⟩, B4.grown h3 B4.size (fun g hg => own_blk O4 hg)⟩

set_option maxHeartbeats 4000000 in
theorem pmatches (first : ByteArray) (A : Option Addr) (n c : Nat) (F : Nat → ByteArray) (probe : ByteArray) (w : World) (hf : first.size ≤ maxLen) (h : Sts w w.heap.size A n F) (hF : ∀ i, (F i).size ≤ maxLen) (hnc : n ≤ c) (hcm : c ≤ maxLen) (hreach : n * 16 ≤ 140737488351232) (hp : probe.size ≤ maxLen) :
    Calls Try.prog 3 #[.string first, .slice A n c, .string probe] w fun e w' => e = .returned (.bool true) ∧ Below w.heap.size w w' := by
  have H := Lib.hid h
  clear h
  have hBw : Below w.heap.size w w := Below.refl _ _
  go_enter Try.func3, Try.ntmps3
  go_wp2_with fail
  refine (pawake _).mono ?_
  rintro e x1 ⟨rfl, hq⟩
  have hBx1 := hBw.trans (hq.mono hBw.size)
  clear hq hBw 
  obtain ⟨v3, w3, v5, w5, hr3, hr5, ⟨A5, c5, G, rfl, hG⟩, hB5⟩ := two_more first probe A n c F x1 ((H.out.keep hBx1).more hBx1.size) hreach
  have HG := Lib.hid hG
  have HB5 := Lib.hid hB5
  clear hG hB5
  go_wp2_with (first | (at_builtin; refine wpList_append_runW rfl _ _ _ _ rfl _ _ rfl rfl _ _ hr3 ?_; clear hr3) | (at_builtin; refine wpList_append_runW rfl _ _ _ _ rfl _ _ rfl rfl _ _ hr5 ?_; clear hr5))
  refine (pfew A5 (n + 2) c5 G _ HG.out (by omega)).mono ?_
  rintro e y5 ⟨⟨b5, rfl, hb5⟩, hq⟩
  have hBy5 := (hBx1.trans (HB5.out.mono hBx1.size)).trans (hq.mono (Nat.le_trans hBx1.size HB5.out.size))
  clear hq HG HB5 hBx1
  cases b5 with
  | false =>
    clear hb5
    go_wp2_with fail
    refine (pawake _).mono ?_
    rintro e x2 ⟨rfl, hq⟩
    have hBx2 := hBy5.trans (hq.mono hBy5.size)
    clear hq hBy5 
    go_wp2_with fail
    go_ret
    exact ⟨rfl, hBx2⟩
  | true =>
    have h100 : n + 2 ≤ 100 := hb5 rfl
    clear hb5 hreach hnc hcm
    rw [maxLen_eq] at hf hp
    have HFI := Lib.hid hf
    have HPR := Lib.hid hp
    have HFS := Lib.hid (fun i => (maxLen_eq ▸ hF i : (F i).size ≤ 9223372036854775807))
    clear hf hp hF
    obtain ⟨A0, hA0⟩ : ∃ A0, plA first = A0 := ⟨_, rfl⟩
    have HA0 := Lib.hid hA0
    clear hA0
    go_wp2_with fail
    refine (pnew first _).mono ?_
    rintro e x3 ⟨g, m, rfl, hlg, hlm, hpgx3, hq⟩
    have hBx3 := hBy5.trans (hq.mono hBy5.size)
    replace hlg : w.heap.size ≤ g := Nat.le_trans hBy5.size hlg
    replace hlm : w.heap.size ≤ m := Nat.le_trans hBy5.size hlm
    rw [show plA first = A0 from HA0.out] at hpgx3
    clear hq hBy5 
    go_wp2_with fail
    refine (pfixn first _).mono ?_
    rintro e x4 ⟨gf, rfl, hlgf, hpgfx4, hq⟩
    have hpgx4 := (hpgx3).to hq
    have hBx4 := hBx3.trans (hq.mono hBx3.size)
    have hgn : g < gf := Nat.lt_of_lt_of_le hpgx3.lt hlgf
    have hmn : m < gf := Nat.lt_of_lt_of_le hpgx3.ltm hlgf
    replace hlgf : w.heap.size ≤ gf := Nat.le_trans hBx3.size hlgf
    rw [HA0.out] at hpgfx4
    clear hq hBx3 hpgx3
    go_wp2_with fail
    refine (rfirst first _ HFI.out).mono ?_
    rintro e x5 ⟨rfl, hq⟩
    have hpgx5 := (hpgx4).to hq
    have hpgfx5 := (hpgfx4).to hq
    have hBx5 := hBx4.trans (hq.mono hBx4.size)
    clear hq hBx4 hpgx4 hpgfx4
    rw [HA0.out]
    go_wp2_with fail
    go_loopw [9, 10, 11, 12] (fun v x y j wr => ∃ (r K : Nat) (At : ByteArray) (c2 : ByteArray → Nat), r ≤ n ∧ v = .string At ∧ x = .int .i64 (K : Int) ∧ y = .int .i64 ((c2 probe : Nat) : Int) ∧ j = .int .i64 (r : Int) ∧ Pe wr g m (At) (K) (r) (c2) true ∧ Pe wr gf 0 (A0) (0) (0) (fun _ => 0) false ∧ Below w.heap.size w wr) (fun v x y j _ => n - (intOf j).toNat)
    case atStart => exact ⟨0, 0, A0, (fun _ => 0), Nat.zero_le _, rfl, rfl, rfl, rfl, hpgx5, hpgfx5, hBx5⟩
    case round =>
      clear hpgx5 hpgfx5 hBx5
      obtain ⟨r, K, At, c2, hr, rfl, rfl, rfl, rfl, hpg0, hpgf0, hB0⟩ := hrel
      have hpgwr := hpg0
      have hpgfwr := hpgf0
      have hBwr := hB0
      clear hpg0 hpgf0 hB0
      by_cases hlt : r < n
      · have i1 : (r : Int) < (n : Int) := by omega
        obtain ⟨b, off, rfl, hb, hcell⟩ := H.out r hlt
        have HSL0 := HFS.out r
        obtain ⟨s, hs⟩ : ∃ s, F r = s := ⟨_, rfl⟩
        rw [hs] at hcell HSL0
        have HSL := Lib.hid HSL0
        have hMl := hpgwr.few.2 probe
        have hKl := hpgwr.few.1
        obtain ⟨M, hM⟩ : ∃ M, c2 probe = M := ⟨_, rfl⟩
        rw [hM] at hMl
        rw [hM]
        have HM := Lib.hid hM
        have HLT := Lib.hid hlt
        have hr98 : r ≤ 98 := by omega
        have HMW := Lib.hid (show wrap64 ((M : Int) + 1) = ((M + 1 : Nat) : Int) by rw [IntWalk.wrap64_in _ (by omega)]; omega)
        have HKW := Lib.hid (show wrap64 ((K : Int) + 1) = ((K + 1 : Nat) : Int) by rw [IntWalk.wrap64_in _ (by omega)]; omega)
        clear hs hM HSL0 hlt hr hMl hKl
        obtain ⟨z, hz⟩ : ∃ z, okA s = z := ⟨_, rfl⟩
        have HZ := Lib.hid hz
        clear hz
        cases z with
        | false =>
          by_cases hem : At.size = 0
          · obtain ⟨e0, e1⟩ := emp_yes hem
            have HE := Lib.hid (show emA At = true from decide_eq_true hem)
            clear hem
            have ce := (hBwr.cell (p := ⟨b, off + r, none⟩) hb).trans hcell
            go_wp2_with fail
            refine (rright s _ HSL.out).mono ?_
            rintro e x6 ⟨rfl, hq⟩
            have hpgx6 := (hpgwr).to hq
            have hpgfx6 := (hpgfwr).to hq
            have hBx6 := hBwr.trans (hq.mono hBwr.size)
            clear ce
            clear hq hBwr hpgwr hpgfwr
            rw [HZ.out]
            have ce := (hBx6.cell (p := ⟨b, off + r, none⟩) hb).trans hcell
            go_wp2_with fail
            refine (pmove_no g m At K r c2 s _ hpgx6 HZ.out).mono ?_
            rintro e x7 ⟨rfl, hq⟩
            have hpgx7 := (hpgx6).to hq
            have hpgfx7 := (hpgfx6).to hq
            have hBx7 := hBx6.trans (hq.mono hBx6.size)
            clear ce
            clear hq hBx6 hpgx6 hpgfx6
            have ce := (hBx7.cell (p := ⟨b, off + r, none⟩) hb).trans hcell
            go_wp2_with fail
            refine (pmove_fix gf 0 A0 0 0 (fun _ => 0) s _ hpgfx7).mono ?_
            rintro e x8 ⟨rfl, hq⟩
            have hpgx8 := (hpgx7).to hq
            have hpgfx8 := (hpgfx7).to hq
            have hBx8 := hBx7.trans (hq.mono hBx7.size)
            clear ce
            clear hq hBx7 hpgx7 hpgfx7
            have ce := (hBx8.cell (p := ⟨b, off + r, none⟩) hb).trans hcell
            go_wp2_with fail
            refine (rright s _ HSL.out).mono ?_
            rintro e x9 ⟨rfl, hq⟩
            have hpgx9 := (hpgx8).to hq
            have hpgfx9 := (hpgfx8).to hq
            have hBx9 := hBx8.trans (hq.mono hBx8.size)
            clear ce
            clear hq hBx8 hpgx8 hpgfx8
            rw [HZ.out]
            have ce := (hBx9.cell (p := ⟨b, off + r, none⟩) hb).trans hcell
            go_wp2_with fail
            refine (rright s _ HSL.out).mono ?_
            rintro e x10 ⟨rfl, hq⟩
            have hpgx10 := (hpgx9).to hq
            have hpgfx10 := (hpgfx9).to hq
            have hBx10 := hBx9.trans (hq.mono hBx9.size)
            clear ce
            clear hq hBx9 hpgx9 hpgfx9
            rw [HZ.out]
            go_wp2_with fail
            refine (paddr g m At (K) (r) (c2) true _ hpgx10).mono ?_
            rintro e x11 ⟨rfl, hq⟩
            have hpgx11 := (hpgx10).to hq
            have hpgfx11 := (hpgfx10).to hq
            have hBx11 := hBx10.trans (hq.mono hBx10.size)
            clear hq hBx10 hpgx10 hpgfx10
            rw [HE.out]
            simp only [Bool.not_true, Bool.not_false]
            go_wp2_with fail
            refine (pmoves g m At (K) (r) (c2) true _ hpgx11).mono ?_
            rintro e w9 ⟨rfl, hv9⟩
            rw [hv9]
            clear hv9 w9
            go_wp2_with fail
            refine (pmet g m At (K) (r) (c2) true probe _ hpgx11 HPR.out).mono ?_
            rintro e w9 ⟨rfl, hv9⟩
            rw [hv9]
            clear hv9 w9
            rw [show (if true = true then (c2) probe else 0) = M from HM.out]
            go_wp2_with fail
            go_round
            case rel => exact ⟨r + 1, K, At, c2, by have := HLT.out; omega, rfl, rfl, by rw [HM.out], by go_num, hpgx11.more (by omega), hpgfx11, hBx11⟩
            case measure => have := HLT.out; simp [intOf]; omega
          · obtain ⟨e0, e1⟩ := emp_no hem
            have HE := Lib.hid (show emA At = false from decide_eq_false hem)
            clear hem
            have ce := (hBwr.cell (p := ⟨b, off + r, none⟩) hb).trans hcell
            go_wp2_with fail
            refine (rright s _ HSL.out).mono ?_
            rintro e x12 ⟨rfl, hq⟩
            have hpgx12 := (hpgwr).to hq
            have hpgfx12 := (hpgfwr).to hq
            have hBx12 := hBwr.trans (hq.mono hBwr.size)
            clear ce
            clear hq hBwr hpgwr hpgfwr
            rw [HZ.out]
            have ce := (hBx12.cell (p := ⟨b, off + r, none⟩) hb).trans hcell
            go_wp2_with fail
            refine (pmove_no g m At K r c2 s _ hpgx12 HZ.out).mono ?_
            rintro e x13 ⟨rfl, hq⟩
            have hpgx13 := (hpgx12).to hq
            have hpgfx13 := (hpgfx12).to hq
            have hBx13 := hBx12.trans (hq.mono hBx12.size)
            clear ce
            clear hq hBx12 hpgx12 hpgfx12
            have ce := (hBx13.cell (p := ⟨b, off + r, none⟩) hb).trans hcell
            go_wp2_with fail
            refine (pmove_fix gf 0 A0 0 0 (fun _ => 0) s _ hpgfx13).mono ?_
            rintro e x14 ⟨rfl, hq⟩
            have hpgx14 := (hpgx13).to hq
            have hpgfx14 := (hpgfx13).to hq
            have hBx14 := hBx13.trans (hq.mono hBx13.size)
            clear ce
            clear hq hBx13 hpgx13 hpgfx13
            have ce := (hBx14.cell (p := ⟨b, off + r, none⟩) hb).trans hcell
            go_wp2_with fail
            refine (rright s _ HSL.out).mono ?_
            rintro e x15 ⟨rfl, hq⟩
            have hpgx15 := (hpgx14).to hq
            have hpgfx15 := (hpgfx14).to hq
            have hBx15 := hBx14.trans (hq.mono hBx14.size)
            clear ce
            clear hq hBx14 hpgx14 hpgfx14
            rw [HZ.out]
            have ce := (hBx15.cell (p := ⟨b, off + r, none⟩) hb).trans hcell
            go_wp2_with fail
            refine (rright s _ HSL.out).mono ?_
            rintro e x16 ⟨rfl, hq⟩
            have hpgx16 := (hpgx15).to hq
            have hpgfx16 := (hpgfx15).to hq
            have hBx16 := hBx15.trans (hq.mono hBx15.size)
            clear ce
            clear hq hBx15 hpgx15 hpgfx15
            rw [HZ.out]
            go_wp2_with fail
            refine (paddr g m At (K) (r) (c2) true _ hpgx16).mono ?_
            rintro e x17 ⟨rfl, hq⟩
            have hpgx17 := (hpgx16).to hq
            have hpgfx17 := (hpgfx16).to hq
            have hBx17 := hBx16.trans (hq.mono hBx16.size)
            clear hq hBx16 hpgx16 hpgfx16
            rw [HE.out]
            simp only [Bool.not_true, Bool.not_false]
            go_wp2_with fail
            refine (pmoves g m At (K) (r) (c2) true _ hpgx17).mono ?_
            rintro e w9 ⟨rfl, hv9⟩
            rw [hv9]
            clear hv9 w9
            go_wp2_with fail
            refine (pmet g m At (K) (r) (c2) true probe _ hpgx17 HPR.out).mono ?_
            rintro e w9 ⟨rfl, hv9⟩
            rw [hv9]
            clear hv9 w9
            rw [show (if true = true then (c2) probe else 0) = M from HM.out]
            go_wp2_with fail
            go_round
            case rel => exact ⟨r + 1, K, At, c2, by have := HLT.out; omega, rfl, rfl, by rw [HM.out], by go_num, hpgx17.more (by omega), hpgfx17, hBx17⟩
            case measure => have := HLT.out; simp [intOf]; omega
        | true =>
          obtain ⟨e0, e1⟩ := emp_no (show ¬ s.size = 0 by have := okA_size HZ.out; omega)
          by_cases he : s = At
          · subst he
            have f1 : (s.toList != s.toList) = false := by simp
            by_cases hpr : probe = s
            · have HP1 := Lib.hid (show (upC c2 s) probe = M + 1 by unfold upC; rw [if_pos hpr, ← hpr, HM.out])
              have f2 : (s.toList == probe.toList) = true := eqT hpr.symm
              clear hpr
              have ce := (hBwr.cell (p := ⟨b, off + r, none⟩) hb).trans hcell
              go_wp2_with fail
              refine (rright s _ HSL.out).mono ?_
              rintro e x18 ⟨rfl, hq⟩
              have hpgx18 := (hpgwr).to hq
              have hpgfx18 := (hpgfwr).to hq
              have hBx18 := hBwr.trans (hq.mono hBwr.size)
              clear ce
              clear hq hBwr hpgwr hpgfwr
              rw [HZ.out]
              have ce := (hBx18.cell (p := ⟨b, off + r, none⟩) hb).trans hcell
              go_wp2_with fail
              refine (pmove_same g m s K r c2 s _ hpgx18 HZ.out rfl (by omega)).mono ?_
              rintro e x19 ⟨rfl, hpgx19, hq⟩
              have hpgfx19 := (hpgfx18).but hq (Tw.ne (by omega) (by omega)) (fun e => by cases e)
              have hBx19 := hBx18.trans (hq.tw hBx18.size (by omega) (by omega))
              clear hq hBx18 hpgx18 hpgfx18
              clear ce
              have ce := (hBx19.cell (p := ⟨b, off + r, none⟩) hb).trans hcell
              go_wp2_with fail
              refine (pmove_fix gf 0 A0 0 0 (fun _ => 0) s _ hpgfx19).mono ?_
              rintro e x20 ⟨rfl, hq⟩
              have hpgx20 := (hpgx19).to hq
              have hpgfx20 := (hpgfx19).to hq
              have hBx20 := hBx19.trans (hq.mono hBx19.size)
              clear ce
              clear hq hBx19 hpgx19 hpgfx19
              have ce := (hBx20.cell (p := ⟨b, off + r, none⟩) hb).trans hcell
              go_wp2_with fail
              refine (rright s _ HSL.out).mono ?_
              rintro e x21 ⟨rfl, hq⟩
              have hpgx21 := (hpgx20).to hq
              have hpgfx21 := (hpgfx20).to hq
              have hBx21 := hBx20.trans (hq.mono hBx20.size)
              clear ce
              clear hq hBx20 hpgx20 hpgfx20
              rw [HZ.out]
              have ce := (hBx21.cell (p := ⟨b, off + r, none⟩) hb).trans hcell
              go_wp2_with fail
              refine (rright s _ HSL.out).mono ?_
              rintro e x22 ⟨rfl, hq⟩
              have hpgx22 := (hpgx21).to hq
              have hpgfx22 := (hpgfx21).to hq
              have hBx22 := hBx21.trans (hq.mono hBx21.size)
              clear ce
              clear hq hBx21 hpgx21 hpgfx21
              rw [HZ.out]
              have ce := (hBx22.cell (p := ⟨b, off + r, none⟩) hb).trans hcell
              go_wp2_with fail
              refine (paddr g m s (K) (r + 1) (upC c2 s) true _ hpgx22).mono ?_
              rintro e x23 ⟨rfl, hq⟩
              have hpgx23 := (hpgx22).to hq
              have hpgfx23 := (hpgfx22).to hq
              have hBx23 := hBx22.trans (hq.mono hBx22.size)
              clear ce
              clear hq hBx22 hpgx22 hpgfx22
              rw [em_ok HZ.out]
              simp only [Bool.not_true, Bool.not_false]
              go_wp2_with fail
              refine (pmoves g m s (K) (r + 1) (upC c2 s) true _ hpgx23).mono ?_
              rintro e w9 ⟨rfl, hv9⟩
              rw [hv9]
              clear hv9 w9
              go_wp2_with fail
              refine (pmet g m s (K) (r + 1) (upC c2 s) true probe _ hpgx23 HPR.out).mono ?_
              rintro e w9 ⟨rfl, hv9⟩
              rw [hv9]
              clear hv9 w9
              rw [show (if true = true then (upC c2 s) probe else 0) = M + 1 from HP1.out]
              try rw [HMW.out]
              go_wp2_with fail
              go_round
              case rel => exact ⟨r + 1, K, s, upC c2 s, by have := HLT.out; omega, rfl, rfl, by rw [HP1.out]; rfl, by go_num, hpgx23, hpgfx23, hBx23⟩
              case measure => have := HLT.out; simp [intOf]; omega
            · have HP1 := Lib.hid (show (upC c2 s) probe = M by unfold upC; rw [if_neg hpr]; exact HM.out)
              have f2 : (s.toList == probe.toList) = false := eqF (fun e => hpr e.symm)
              clear hpr
              have ce := (hBwr.cell (p := ⟨b, off + r, none⟩) hb).trans hcell
              go_wp2_with fail
              refine (rright s _ HSL.out).mono ?_
              rintro e x24 ⟨rfl, hq⟩
              have hpgx24 := (hpgwr).to hq
              have hpgfx24 := (hpgfwr).to hq
              have hBx24 := hBwr.trans (hq.mono hBwr.size)
              clear ce
              clear hq hBwr hpgwr hpgfwr
              rw [HZ.out]
              have ce := (hBx24.cell (p := ⟨b, off + r, none⟩) hb).trans hcell
              go_wp2_with fail
              refine (pmove_same g m s K r c2 s _ hpgx24 HZ.out rfl (by omega)).mono ?_
              rintro e x25 ⟨rfl, hpgx25, hq⟩
              have hpgfx25 := (hpgfx24).but hq (Tw.ne (by omega) (by omega)) (fun e => by cases e)
              have hBx25 := hBx24.trans (hq.tw hBx24.size (by omega) (by omega))
              clear hq hBx24 hpgx24 hpgfx24
              clear ce
              have ce := (hBx25.cell (p := ⟨b, off + r, none⟩) hb).trans hcell
              go_wp2_with fail
              refine (pmove_fix gf 0 A0 0 0 (fun _ => 0) s _ hpgfx25).mono ?_
              rintro e x26 ⟨rfl, hq⟩
              have hpgx26 := (hpgx25).to hq
              have hpgfx26 := (hpgfx25).to hq
              have hBx26 := hBx25.trans (hq.mono hBx25.size)
              clear ce
              clear hq hBx25 hpgx25 hpgfx25
              have ce := (hBx26.cell (p := ⟨b, off + r, none⟩) hb).trans hcell
              go_wp2_with fail
              refine (rright s _ HSL.out).mono ?_
              rintro e x27 ⟨rfl, hq⟩
              have hpgx27 := (hpgx26).to hq
              have hpgfx27 := (hpgfx26).to hq
              have hBx27 := hBx26.trans (hq.mono hBx26.size)
              clear ce
              clear hq hBx26 hpgx26 hpgfx26
              rw [HZ.out]
              have ce := (hBx27.cell (p := ⟨b, off + r, none⟩) hb).trans hcell
              go_wp2_with fail
              refine (rright s _ HSL.out).mono ?_
              rintro e x28 ⟨rfl, hq⟩
              have hpgx28 := (hpgx27).to hq
              have hpgfx28 := (hpgfx27).to hq
              have hBx28 := hBx27.trans (hq.mono hBx27.size)
              clear ce
              clear hq hBx27 hpgx27 hpgfx27
              rw [HZ.out]
              have ce := (hBx28.cell (p := ⟨b, off + r, none⟩) hb).trans hcell
              go_wp2_with fail
              refine (paddr g m s (K) (r + 1) (upC c2 s) true _ hpgx28).mono ?_
              rintro e x29 ⟨rfl, hq⟩
              have hpgx29 := (hpgx28).to hq
              have hpgfx29 := (hpgfx28).to hq
              have hBx29 := hBx28.trans (hq.mono hBx28.size)
              clear ce
              clear hq hBx28 hpgx28 hpgfx28
              rw [em_ok HZ.out]
              simp only [Bool.not_true, Bool.not_false]
              go_wp2_with fail
              refine (pmoves g m s (K) (r + 1) (upC c2 s) true _ hpgx29).mono ?_
              rintro e w9 ⟨rfl, hv9⟩
              rw [hv9]
              clear hv9 w9
              go_wp2_with fail
              refine (pmet g m s (K) (r + 1) (upC c2 s) true probe _ hpgx29 HPR.out).mono ?_
              rintro e w9 ⟨rfl, hv9⟩
              rw [hv9]
              clear hv9 w9
              rw [show (if true = true then (upC c2 s) probe else 0) = M from HP1.out]
              go_wp2_with fail
              go_round
              case rel => exact ⟨r + 1, K, s, upC c2 s, by have := HLT.out; omega, rfl, rfl, by rw [HP1.out], by go_num, hpgx29, hpgfx29, hBx29⟩
              case measure => have := HLT.out; simp [intOf]; omega
          · have f0 := eqF he
            have f1 : (s.toList != At.toList) = true := by rw [bne, f0]; rfl
            have HE := Lib.hid he
            obtain ⟨K1, hK1⟩ : ∃ K1, K + 1 = K1 := ⟨_, rfl⟩
            have HK1 := Lib.hid hK1
            have a1 : wrap64 ((K : Int) + 1) = (K1 : Int) := by rw [HKW.out, hK1]
            clear he hK1
            by_cases hpr : probe = s
            · have HP1 := Lib.hid (show (upC c2 s) probe = M + 1 by unfold upC; rw [if_pos hpr, ← hpr, HM.out])
              have f2 : (s.toList == probe.toList) = true := eqT hpr.symm
              clear hpr
              have ce := (hBwr.cell (p := ⟨b, off + r, none⟩) hb).trans hcell
              go_wp2_with fail
              refine (rright s _ HSL.out).mono ?_
              rintro e x30 ⟨rfl, hq⟩
              have hpgx30 := (hpgwr).to hq
              have hpgfx30 := (hpgfwr).to hq
              have hBx30 := hBwr.trans (hq.mono hBwr.size)
              clear ce
              clear hq hBwr hpgwr hpgfwr
              rw [HZ.out]
              have ce := (hBx30.cell (p := ⟨b, off + r, none⟩) hb).trans hcell
              go_wp2_with fail
              refine (pmove_yes g m At K r c2 s _ hpgx30 HZ.out HE.out (by omega)).mono ?_
              rintro e x31 ⟨rfl, hpgx31, hq⟩
              have hpgfx31 := (hpgfx30).but hq (Tw.ne (by omega) (by omega)) (fun e => by cases e)
              have hBx31 := hBx30.trans (hq.tw hBx30.size (by omega) (by omega))
              clear hq hBx30 hpgx30 hpgfx30
              rw [HK1.out] at hpgx31
              clear ce
              have ce := (hBx31.cell (p := ⟨b, off + r, none⟩) hb).trans hcell
              go_wp2_with fail
              refine (pmove_fix gf 0 A0 0 0 (fun _ => 0) s _ hpgfx31).mono ?_
              rintro e x32 ⟨rfl, hq⟩
              have hpgx32 := (hpgx31).to hq
              have hpgfx32 := (hpgfx31).to hq
              have hBx32 := hBx31.trans (hq.mono hBx31.size)
              clear ce
              clear hq hBx31 hpgx31 hpgfx31
              have ce := (hBx32.cell (p := ⟨b, off + r, none⟩) hb).trans hcell
              go_wp2_with fail
              refine (rright s _ HSL.out).mono ?_
              rintro e x33 ⟨rfl, hq⟩
              have hpgx33 := (hpgx32).to hq
              have hpgfx33 := (hpgfx32).to hq
              have hBx33 := hBx32.trans (hq.mono hBx32.size)
              clear ce
              clear hq hBx32 hpgx32 hpgfx32
              rw [HZ.out]
              have ce := (hBx33.cell (p := ⟨b, off + r, none⟩) hb).trans hcell
              go_wp2_with fail
              refine (rright s _ HSL.out).mono ?_
              rintro e x34 ⟨rfl, hq⟩
              have hpgx34 := (hpgx33).to hq
              have hpgfx34 := (hpgfx33).to hq
              have hBx34 := hBx33.trans (hq.mono hBx33.size)
              clear ce
              clear hq hBx33 hpgx33 hpgfx33
              rw [HZ.out]
              have ce := (hBx34.cell (p := ⟨b, off + r, none⟩) hb).trans hcell
              go_wp2_with fail
              refine (paddr g m s (K1) (r + 1) (upC c2 s) true _ hpgx34).mono ?_
              rintro e x35 ⟨rfl, hq⟩
              have hpgx35 := (hpgx34).to hq
              have hpgfx35 := (hpgfx34).to hq
              have hBx35 := hBx34.trans (hq.mono hBx34.size)
              clear ce
              clear hq hBx34 hpgx34 hpgfx34
              rw [em_ok HZ.out]
              simp only [Bool.not_true, Bool.not_false]
              go_wp2_with fail
              refine (pmoves g m s (K1) (r + 1) (upC c2 s) true _ hpgx35).mono ?_
              rintro e w9 ⟨rfl, hv9⟩
              rw [hv9]
              clear hv9 w9
              go_wp2_with fail
              refine (pmet g m s (K1) (r + 1) (upC c2 s) true probe _ hpgx35 HPR.out).mono ?_
              rintro e w9 ⟨rfl, hv9⟩
              rw [hv9]
              clear hv9 w9
              rw [show (if true = true then (upC c2 s) probe else 0) = M + 1 from HP1.out]
              try rw [HMW.out]
              go_wp2_with fail
              go_round
              case rel => exact ⟨r + 1, K1, s, upC c2 s, by have := HLT.out; omega, rfl, rfl, by rw [HP1.out]; rfl, by go_num, hpgx35, hpgfx35, hBx35⟩
              case measure => have := HLT.out; simp [intOf]; omega
            · have HP1 := Lib.hid (show (upC c2 s) probe = M by unfold upC; rw [if_neg hpr]; exact HM.out)
              have f2 : (s.toList == probe.toList) = false := eqF (fun e => hpr e.symm)
              clear hpr
              have ce := (hBwr.cell (p := ⟨b, off + r, none⟩) hb).trans hcell
              go_wp2_with fail
              refine (rright s _ HSL.out).mono ?_
              rintro e x36 ⟨rfl, hq⟩
              have hpgx36 := (hpgwr).to hq
              have hpgfx36 := (hpgfwr).to hq
              have hBx36 := hBwr.trans (hq.mono hBwr.size)
              clear ce
              clear hq hBwr hpgwr hpgfwr
              rw [HZ.out]
              have ce := (hBx36.cell (p := ⟨b, off + r, none⟩) hb).trans hcell
              go_wp2_with fail
              refine (pmove_yes g m At K r c2 s _ hpgx36 HZ.out HE.out (by omega)).mono ?_
              rintro e x37 ⟨rfl, hpgx37, hq⟩
              have hpgfx37 := (hpgfx36).but hq (Tw.ne (by omega) (by omega)) (fun e => by cases e)
              have hBx37 := hBx36.trans (hq.tw hBx36.size (by omega) (by omega))
              clear hq hBx36 hpgx36 hpgfx36
              rw [HK1.out] at hpgx37
              clear ce
              have ce := (hBx37.cell (p := ⟨b, off + r, none⟩) hb).trans hcell
              go_wp2_with fail
              refine (pmove_fix gf 0 A0 0 0 (fun _ => 0) s _ hpgfx37).mono ?_
              rintro e x38 ⟨rfl, hq⟩
              have hpgx38 := (hpgx37).to hq
              have hpgfx38 := (hpgfx37).to hq
              have hBx38 := hBx37.trans (hq.mono hBx37.size)
              clear ce
              clear hq hBx37 hpgx37 hpgfx37
              have ce := (hBx38.cell (p := ⟨b, off + r, none⟩) hb).trans hcell
              go_wp2_with fail
              refine (rright s _ HSL.out).mono ?_
              rintro e x39 ⟨rfl, hq⟩
              have hpgx39 := (hpgx38).to hq
              have hpgfx39 := (hpgfx38).to hq
              have hBx39 := hBx38.trans (hq.mono hBx38.size)
              clear ce
              clear hq hBx38 hpgx38 hpgfx38
              rw [HZ.out]
              have ce := (hBx39.cell (p := ⟨b, off + r, none⟩) hb).trans hcell
              go_wp2_with fail
              refine (rright s _ HSL.out).mono ?_
              rintro e x40 ⟨rfl, hq⟩
              have hpgx40 := (hpgx39).to hq
              have hpgfx40 := (hpgfx39).to hq
              have hBx40 := hBx39.trans (hq.mono hBx39.size)
              clear ce
              clear hq hBx39 hpgx39 hpgfx39
              rw [HZ.out]
              have ce := (hBx40.cell (p := ⟨b, off + r, none⟩) hb).trans hcell
              go_wp2_with fail
              refine (paddr g m s (K1) (r + 1) (upC c2 s) true _ hpgx40).mono ?_
              rintro e x41 ⟨rfl, hq⟩
              have hpgx41 := (hpgx40).to hq
              have hpgfx41 := (hpgfx40).to hq
              have hBx41 := hBx40.trans (hq.mono hBx40.size)
              clear ce
              clear hq hBx40 hpgx40 hpgfx40
              rw [em_ok HZ.out]
              simp only [Bool.not_true, Bool.not_false]
              go_wp2_with fail
              refine (pmoves g m s (K1) (r + 1) (upC c2 s) true _ hpgx41).mono ?_
              rintro e w9 ⟨rfl, hv9⟩
              rw [hv9]
              clear hv9 w9
              go_wp2_with fail
              refine (pmet g m s (K1) (r + 1) (upC c2 s) true probe _ hpgx41 HPR.out).mono ?_
              rintro e w9 ⟨rfl, hv9⟩
              rw [hv9]
              clear hv9 w9
              rw [show (if true = true then (upC c2 s) probe else 0) = M from HP1.out]
              go_wp2_with fail
              go_round
              case rel => exact ⟨r + 1, K1, s, upC c2 s, by have := HLT.out; omega, rfl, rfl, by rw [HP1.out], by go_num, hpgx41, hpgfx41, hBx41⟩
              case measure => have := HLT.out; simp [intOf]; omega
      · have i1 : ¬ (r : Int) < (n : Int) := by omega
        by_cases hem : A0.size = 0
        · obtain ⟨e0, e1⟩ := emp_yes hem
          have HE := Lib.hid (show emA A0 = true from decide_eq_true hem)
          clear hem
          go_wp2_with fail
          refine (paddr gf 0 A0 0 0 (fun _ => 0) false _ hpgfwr).mono ?_
          rintro e x42 ⟨rfl, hq⟩
          have hpgx42 := (hpgwr).to hq
          have hpgfx42 := (hpgfwr).to hq
          have hBx42 := hBwr.trans (hq.mono hBwr.size)
          clear hq hBwr hpgwr hpgfwr
          rw [HE.out]
          simp only [Bool.not_true, Bool.not_false]
          go_wp2_with fail
          refine (rfirst first _ HFI.out).mono ?_
          rintro e x43 ⟨rfl, hq⟩
          have hpgx43 := (hpgx42).to hq
          have hpgfx43 := (hpgfx42).to hq
          have hBx43 := hBx42.trans (hq.mono hBx42.size)
          clear hq hBx42 hpgx42 hpgfx42
          rw [HA0.out]
          go_wp2_with fail
          refine (pmoves gf 0 A0 0 0 (fun _ => 0) false _ hpgfx43).mono ?_
          rintro e w9 ⟨rfl, hv9⟩
          rw [hv9]
          clear hv9 w9
          go_wp2_with fail
          refine (pmet gf 0 A0 0 0 (fun _ => 0) false probe _ hpgfx43 HPR.out).mono ?_
          rintro e w9 ⟨rfl, hv9⟩
          rw [hv9]
          clear hv9 w9
          rw [show (if false = true then (fun _ => 0) probe else 0) = 0 from rfl]
          go_wp2_with fail
          go_ret
          exact ⟨rfl, hBx43⟩
        · obtain ⟨e0, e1⟩ := emp_no hem
          have HE := Lib.hid (show emA A0 = false from decide_eq_false hem)
          clear hem
          go_wp2_with fail
          refine (paddr gf 0 A0 0 0 (fun _ => 0) false _ hpgfwr).mono ?_
          rintro e x44 ⟨rfl, hq⟩
          have hpgx44 := (hpgwr).to hq
          have hpgfx44 := (hpgfwr).to hq
          have hBx44 := hBwr.trans (hq.mono hBwr.size)
          clear hq hBwr hpgwr hpgfwr
          rw [HE.out]
          simp only [Bool.not_true, Bool.not_false]
          go_wp2_with fail
          refine (rfirst first _ HFI.out).mono ?_
          rintro e x45 ⟨rfl, hq⟩
          have hpgx45 := (hpgx44).to hq
          have hpgfx45 := (hpgfx44).to hq
          have hBx45 := hBx44.trans (hq.mono hBx44.size)
          clear hq hBx44 hpgx44 hpgfx44
          rw [HA0.out]
          go_wp2_with fail
          refine (pmoves gf 0 A0 0 0 (fun _ => 0) false _ hpgfx45).mono ?_
          rintro e w9 ⟨rfl, hv9⟩
          rw [hv9]
          clear hv9 w9
          go_wp2_with fail
          refine (pmet gf 0 A0 0 0 (fun _ => 0) false probe _ hpgfx45 HPR.out).mono ?_
          rintro e w9 ⟨rfl, hv9⟩
          rw [hv9]
          clear hv9 w9
          rw [show (if false = true then (fun _ => 0) probe else 0) = 0 from rfl]
          go_wp2_with fail
          go_ret
          exact ⟨rfl, hBx45⟩
end Go.Proofs.Ytfpniipbdkdhlaa
