/-
  Contract of Print of package text, by a walk through its text; what was there stays as it was. Condition: the table holds what the program's text lays.
-/
import Derived.Test.YtfmlllckfpagkaaDoorTxz
import Derived.Deep.RegionHeld3
import Derived.Laws.MakeOwn
namespace Go.Proofs.YtfmlllckfpagkaaDoor
open Go.RowKit
set_option linter.unusedVariables false
set_option maxRecDepth 100000

theorem Tryd.arr22i : Tryd.prog.underlying 40 = some (.array 22 3) := by kernel_rfl
theorem Tryd.zero22i : (Tryd.prog.info? 40).map (fun i => (i.zero, i.size)) = some (some (.agg (Array.replicate 22 (.int .i64 0))), 22) := by kernel_rfl
theorem size22i (f : Nat → Nat) : (Tryd.prog.info? 40).map (·.size) = some (aiL 22 f).length := by rw [aiL_len]; exact (zero_of_info Tryd.zero22i).2
theorem zero22i (w : World) : (zeroValue 40).run Tryd.prog w = .ok (.agg (aiL 22 fun _ => 0).toArray) w := by
  rw [aiL_zero]; exact (zero_of_info Tryd.zero22i).1 w
theorem run_index_i (cs : Array Value) (i : Nat) (u : Value) (hi : i < 22) (hg : cs[i]? = some u) (w : World) : (Instr.index 40 (.agg cs) (.int .i64 i)).run Tryd.prog w = .ok u w := by
  obtain ⟨q, hq, hq0, hq1, _⟩ := info_parts infoI
  simp [Instr.index, run_underlying Tryd.arr22i, asIntOf, hi, sizeOf, typeInfo, hq, hq1, part, hg]
theorem ix22i (f : Nat → Nat) (n : Nat) (h : n < 22) (w : World) : (Instr.index 40 (.agg (aiL 22 f).toArray) (.int .i64 n)).run Tryd.prog w = .ok (.int .i64 (f n : Nat)) w :=
  run_index_i (aiL 22 f).toArray n _ h (by rw [List.getElem?_toArray]; exact aiL_get 22 f n h) w
theorem pfacts {n j r c x y b : Nat} (hn : n < 128) (hj : n / 8 = j) (hr : n % 8 = r) (hc : 7 - r = c) (hx : x < 256) (hy : x / 2 ^ c = y) (hb : y % 2 = b) :
    ((n : Int).tdiv 8 = (j : Int) ∧ (n : Int) / 8 = (j : Int) ∧ IntKind.i64.wrap (j : Int) = (j : Int) ∧ wrap64 (j : Int) = (j : Int) ∧ (j : Int) < 16) ∧
    ((n : Int).tmod 8 = (r : Int) ∧ (n : Int) % 8 = (r : Int) ∧ wrap64 (r : Int) = (r : Int)) ∧ (wrap64 (c : Int) = (c : Int) ∧ IntKind.i64.wrap (c : Int) = (c : Int) ∧ (7 : Int) - (r : Int) = (c : Int) ∧ wrap64 (x : Int) = (x : Int) ∧ IntKind.i64.wrap (x : Int) = (x : Int)) ∧
    ((x : Int) / 2 ^ c = (y : Int) ∧ bits .and .i64 (y : Int) 1 = (b : Int) ∧ min c 64 = c) := by
  have h1 : y ≤ x := by rw [← hy]; exact Nat.div_le_self _ _
  refine ⟨⟨?_, by omega, wraps_i64' _ (by omega) (by omega), ?_, by omega⟩, ⟨?_, by omega, ?_⟩, ⟨?_, wraps_i64' _ (by omega) (by omega), by omega, ?_, wraps_i64' _ (by omega) (by omega)⟩, ?_, ?_⟩
  · rw [Int.tdiv_eq_ediv_of_nonneg (by omega)]; omega
  · rw [IntWalk.wrap64_in _ (by omega)]
  · rw [Int.tmod_eq_emod_of_nonneg (by omega)]; omega
  · rw [IntWalk.wrap64_in _ (by omega)]
  · rw [IntWalk.wrap64_in _ (by omega)]
  · rw [IntWalk.wrap64_in _ (by omega)]
  · rw [← hy, Int.natCast_ediv, Int.natCast_pow]; rfl
  · have h := (bits_nat .i64 63 (by decide) wraps_i64' y 1 (by omega) (by decide)).1
    rw [Nat.and_one_is_mod, hb] at h
    exact ⟨h, Nat.min_eq_left (by omega)⟩
theorem qsmall {b d e : Nat} (hb : b < 2) (he : b * 2 ^ d = e) (hd : d < 6) : (e : Int) < 64 := by
  have h1 : e < 64 := by
    rw [← he]
    have h9 : (2 : Nat) ^ d ≤ 2 ^ 5 := Nat.pow_le_pow_right (by omega) (by omega)
    have h8 : b * 2 ^ d ≤ 1 * 2 ^ d := Nat.mul_le_mul_right _ (by omega)
    omega
  omega
theorem qfacts {n i r d b e s z : Nat} (hn : n < 128) (hi : n / 6 = i) (hr : n % 6 = r) (hd : 5 - r = d) (hb : b < 2) (he : b * 2 ^ d = e) (hs : s < 64) (hz : s ||| e = z) :
    ((n : Int).tdiv 6 = (i : Int) ∧ (n : Int) / 6 = (i : Int) ∧ IntKind.i64.wrap (i : Int) = (i : Int) ∧ wrap64 (i : Int) = (i : Int) ∧ (i : Int) < 22) ∧
    ((n : Int).tmod 6 = (r : Int) ∧ (n : Int) % 6 = (r : Int) ∧ wrap64 (r : Int) = (r : Int)) ∧ (wrap64 (5 - (r : Int)) = (d : Int) ∧ IntKind.i64.wrap (5 - (r : Int)) = (d : Int) ∧ (5 : Int) - (r : Int) = (d : Int)) ∧
    ((b : Int) * 2 ^ d = (e : Int) ∧ wrap64 (e : Int) = (e : Int) ∧ IntKind.i64.wrap (e : Int) = (e : Int)) ∧ bits .or .i64 (s : Int) (e : Int) = (z : Int) := by
  have h1 : e < 64 := by
    rw [← he]
    have h9 : (2 : Nat) ^ d ≤ 2 ^ 5 := Nat.pow_le_pow_right (by omega) (by omega)
    have h8 : b * 2 ^ d ≤ 1 * 2 ^ d := Nat.mul_le_mul_right _ (by omega)
    omega
  refine ⟨⟨?_, by omega, wraps_i64' _ (by omega) (by omega), ?_, by omega⟩, ⟨?_, by omega, ?_⟩, ⟨?_, ?_, by omega⟩, ⟨?_, ?_, wraps_i64' _ (by omega) (by omega)⟩, ?_⟩
  · rw [Int.tdiv_eq_ediv_of_nonneg (by omega)]; omega
  · rw [IntWalk.wrap64_in _ (by omega)]
  · rw [Int.tmod_eq_emod_of_nonneg (by omega)]; omega
  · rw [IntWalk.wrap64_in _ (by omega)]
  · rw [IntWalk.wrap64_in _ (by omega)]; omega
  · rw [IntKind.wrap_i64]; omega
  · rw [← he, Int.natCast_mul, Int.natCast_pow]; rfl
  · rw [IntWalk.wrap64_in _ (by omega)]
  · have h := (bits_nat .i64 63 (by decide) wraps_i64' s e (by omega) (by omega)).2
    rw [h, hz]
theorem own_tow {W W' : World} {b e size : Nat} {v : Value} {n : Nat} {xs : List Value} (h : W.ownsRow b e size v n xs) (hb : Below W.heap.size W W') : W'.ownsRow b e size v n xs := by
  refine ⟨h.1, ?_⟩
  rcases h.2 with h1 | ⟨g, cap, cur, rfl, h2, h3, h4⟩
  · exact .inl h1
  · exact .inr ⟨g, cap, cur, rfl, h2, (hb.block g (Array.getElem?_eq_some_iff.1 h3).1).trans h3, h4⟩
set_option maxHeartbeats 4000000 in
theorem tprint (f : Nat → Nat) (w : World) (hf : B16 f) (hx : TxG w) : Calls Tryd.prog 8 #[.agg (arL 16 f).toArray] w fun e w' => e = .returned (.string (stB (txL f))) ∧ Below w.heap.size w w' := by
  obtain ⟨i8, hj0, hy0, hy1, hy2⟩ := info_parts info8x
  have HJ0 := Lib.hid hj0
  have HY0 := Lib.hid hy0
  have HY1 := Lib.hid hy1
  have HY2 := Lib.hid hy2
  have HF := Lib.hid hf
  have HX := Lib.hid hx
  have HBF := Lib.hid (bitF_lt f)
  have hz := zero22i
  clear hj0 hy0 hy1 hy2 hf hx
  obtain ⟨kA, hkA⟩ : ∃ k : Array Value, (arL 16 f).toArray = k := ⟨_, rfl⟩
  obtain ⟨w1, hw1⟩ : ∃ V : World, V = w.alloc (.cells (arL 16 f).toArray 22) := ⟨_, rfl⟩
  have hs1 : w1.heap.size = w.heap.size + 1 := by rw [hw1]; simp
  obtain ⟨w2, hw2⟩ : ∃ V : World, V = w1.alloc (.cells (aiL 22 fun _ => 0).toArray 40) := ⟨_, rfl⟩
  have hK1 : Ar w1 w.heap.size 16 f := by rw [hw1]; exact Ar.new w 16 f _
  have hK2 : Ar w2 w.heap.size 16 f := by rw [hw2]; exact hK1.alloc (by omega) _
  have hS2 : Ai w2 (w.heap.size + 1) 22 (seF (bitF f) 0) := by rw [hw2, ← hs1]; exact (Ai.new w1 22 _ _).ext (fun j hj => by simp [seF])
  have hB1 : Below w.heap.size w w1 := by rw [hw1]; exact (Below.refl _ _).alloc (Nat.le_refl _) _
  have hB2 : Below w.heap.size w w2 := by rw [hw2]; exact hB1.alloc (by omega) _
  rw [hkA] at hw1
  rw [hkA]
  clear hkA hK1 hB1
  go_enter Tryd.func8, Tryd.ntmps8
  go_upto_region 2 with fail
  rw [← hw1]
  rw [← hw2]
  clear hw1 hw2
  obtain ⟨gS, hgS⟩ : ∃ g, w.heap.size + 1 = g := ⟨_, rfl⟩
  have hlS : w.heap.size < gS := by omega
  rw [hgS] at hS2
  rw [hgS]
  have HLS := Lib.hid hlS
  have HIX := Lib.hid (fun n (h : n < 22) V => ix22i (sxF f) n h V)
  clear hgS hs1
  go_wp2_with fail
  go_loopw [11] (fun i wr => ∃ n : Nat, n ≤ 128 ∧ i = .int .i64 n ∧ Ai wr gS 22 (seF (bitF f) n) ∧ Ar wr w.heap.size 16 f ∧ Below w.heap.size w wr) (fun i _ => 128 - (intOf i).toNat)
  case atStart => exact ⟨0, by omega, rfl, hS2, hK2, hB2⟩
  case round =>
    clear hS2 hK2 hB2
    obtain ⟨n, hn, rfl, hS, hK, hB⟩ := hrel
    by_cases hlt : n < 128
    · have i1 : (n : Int) < 128 := by omega
      obtain ⟨j, hj⟩ : ∃ j, n / 8 = j := ⟨_, rfl⟩
      obtain ⟨r, hr⟩ : ∃ r, n % 8 = r := ⟨_, rfl⟩
      obtain ⟨c, hc⟩ : ∃ c, 7 - r = c := ⟨_, rfl⟩
      obtain ⟨c0, _⟩ := hK j (by omega)
      have hxl := HF.out j (by omega)
      have hbl := HBF.out n
      have hsl := se_lt (bitF f) HBF.out n (n / 6)
      have hso := se_or (bitF f) HBF.out n
      have hput := Lib.hid (fun i => se_put (bitF f) n i)
      have hbe : bitF f n = f j / 2 ^ c % 2 := by unfold bitF; rw [hj, hr, hc]
      obtain ⟨x, hx⟩ : ∃ x, f j = x := ⟨_, rfl⟩
      rw [hx] at c0 hxl hbe
      obtain ⟨y, hy⟩ : ∃ y, x / 2 ^ c = y := ⟨_, rfl⟩
      rw [hy] at hbe
      obtain ⟨b, hb⟩ : ∃ b, bitF f n = b := ⟨_, rfl⟩
      rw [hb] at hbe hbl hso
      obtain ⟨i, hi⟩ : ∃ i, n / 6 = i := ⟨_, rfl⟩
      rw [hi] at hsl hso hput
      obtain ⟨r2, hr2⟩ : ∃ r, n % 6 = r := ⟨_, rfl⟩
      obtain ⟨d, hd⟩ : ∃ d, 5 - r2 = d := ⟨_, rfl⟩
      rw [hr2, hd] at hso
      obtain ⟨e, he⟩ : ∃ e, b * 2 ^ d = e := ⟨_, rfl⟩
      rw [he] at hso
      have hi22 : i < 22 := by omega
      obtain ⟨c1, f1⟩ := hS i hi22
      obtain ⟨s, hs⟩ : ∃ s, seF (bitF f) n i = s := ⟨_, rfl⟩
      rw [hs] at c1 hsl hso
      obtain ⟨z, hz9⟩ : ∃ z, s ||| e = z := ⟨_, rfl⟩
      rw [hz9] at hso
      have hT2 := Lib.hid ((hS.set (j := i) (v := z) hi22 rfl).ext (f' := seF (bitF f) (n + 1)) (fun t _ => by rw [← hput.out t, hso]))
      have hK2 := Lib.hid (hK.far (p := ⟨gS, i, none⟩) (by show gS ≠ _; exact Nat.ne_of_gt HLS.out) (.int .i64 (z : Nat)))
      have hB2 := Lib.hid (hB.setCell (p := ⟨gS, i, none⟩) (by show _ ≤ gS; exact Nat.le_of_lt HLS.out) (.int .i64 (z : Nat)))
      have HNL := Lib.hid hlt
      have RQ1 := Lib.hid (show (r2 : Int) < 6 by omega)
      have RQ2 := Lib.hid (qsmall hbl he (by omega))
      have RQ3 := Lib.hid (show min d 64 = d from Nat.min_eq_left (by omega))
      have RC1 := Lib.hid (show (r : Int) < 8 by omega)
      have RC2 := Lib.hid (show (x : Int) < 256 by omega)
      have HN1 := Lib.hid (show n + 1 ≤ 128 by omega)
      obtain ⟨⟨a1, a2, a3, a4, a5⟩, ⟨a6, a7, a8⟩, ⟨b1, b2, b3, b6, b7⟩, b4, b5, b8⟩ := pfacts hlt hj hr hc hxl hy hbe.symm
      have HQ := Lib.hid (qfacts hlt hi hr2 hd hbl he hsl hz9)
      have HC1 := Lib.hid c1
      have HF1 := Lib.hid f1
      clear hn hlt hj hr hc hxl hy hbe hx hbl hb hi hr2 hd he hsl hz9 hs c1 f1 hso hput hS hK hB hi22
      have c1 := RC1.out
      have c2 := RC2.out
      clear a1 a3 a4 a6 a8 b1 b2 b6 b7
      go_upto_region 6 with fail
      clear a2 a5 a7 b3 b4 b5 b8 c0 c1 c2
      obtain ⟨⟨a1, a2, a3, a4, a5⟩, ⟨a6, a7, a8⟩, ⟨b1, b2, b3⟩, ⟨b4, b5, b6⟩, b7⟩ := HQ.out
      have c1 := HC1.out
      have f1 := HF1.out
      have r1 := RQ1.out
      have r2 := RQ2.out
      have r3 := RQ3.out
      clear HQ a1 a3 a4 a6 a8 b1 b2 b5 b6
      refine wp_region_noPanic ?_
      go_big_region
      refine NoPanic.normal ?_
      clear a2 a5 a7 b3 b4 b7 r1 r2 r3 c1 f1
      go_wp2_with fail
      go_roundw
      case rel => exact ⟨n + 1, HN1.out, by go_num, hT2.out.drew, hK2.out.drew, hB2.out.drew⟩
      case measure => simp [intOf]; have := HNL.out; omega
    · obtain rfl : n = 128 := by omega
      have i1 : ¬ (128 : Int) < 128 := by omega
      have hS2 := hS.ext (f' := sxF f) (fun i hi => seF_all f i hi)
      obtain ⟨b0, hb0⟩ : ∃ b, wr.heap.size = b := ⟨_, rfl⟩
      have hlb : gS < b0 := by rw [← hb0]; exact hS2.lt (by omega)
      have hB0 := Lib.hid hb0
      obtain ⟨w3, hmk, hown, hg3⟩ := run_make_own (P := Tryd.prog) wr b0 38 5 i8 _ 1 Tryd.underlying38 HJ0.out HY0.out HY1.out .i64 .i64 22 (by rw [HY2.out]; omega) (by unfold maxLen; omega) (by omega)
      rw [hb0] at hmk hown
      have hmk2 : (Instr.makeSlice 38 (.int .i64 0) (.int .i64 22)).run Tryd.prog wr = .ok (.slice (some ⟨b0, 0, none⟩) 0 22) w3 := hmk
      clear hmk
      have hb3 : Below b0 wr w3 := (Below.refl _ _).grown hg3 (by omega) (fun k e => by cases e)
      have hS3 := hS2.keep hlb hb3
      have HB3 := Lib.hid (hB.trans (hb3.mono (by omega)))
      have HLW := Lib.hid (show w.heap.size ≤ b0 by rw [← hb0]; exact hB.size)
      have HSZ3 := Lib.hid (show b0 ≤ w3.heap.size by rw [← hb0]; exact hb3.size)
      clear hn hlt hS hS2 hK hB hg3 hb3 hb0 hlb
      go_wp2_with (refine wpList_load_ai rfl _ _ rfl _ _ _ rfl hS3 Tryd.arr22i (size22i _) ?_)
      obtain ⟨TV, hTV⟩ : ∃ V : Array Value, (aiL 22 (sxF f)).toArray = V := ⟨_, rfl⟩
      rw [hTV] at HIX
      rw [hTV]
      have hOw : w3.ownsRow b0 5 1 (.slice (some ⟨b0, 0, none⟩) 0 22) 0 ((txH f 0).map b8) := hown
      clear hTV hmk2 hS3 i1 hown
      go_loopw [6, 38] (fun v i wr => ∃ (k : Nat) (A3 : Option Addr) (c3 : Nat), k ≤ 22 ∧ i = .int .i64 k ∧ v = .slice A3 k c3 ∧ wr.ownsRow b0 5 1 (.slice A3 k c3) k ((txH f k).map b8) ∧ Below w.heap.size w wr ∧ b0 ≤ wr.heap.size) (fun _ i _ => 22 - (intOf i).toNat)
      case atStart => exact ⟨0, _, _, by omega, rfl, rfl, hOw, HB3.out, HSZ3.out⟩
      case round =>
        clear hOw
        obtain ⟨k, A3, c3, hk, rfl, rfl, hW, hB, hsz⟩ := hrel
        have HSZ := Lib.hid hsz
        clear hsz
        by_cases hlt : k < 22
        · have i1 : (k : Int) < 22 := by omega
          have hix := HIX.out k hlt
          have HKL := Lib.hid hlt
          have HVL := Lib.hid (sxF_lt f k)
          have HSN := Lib.hid (txH_snoc f k)
          have HY := Lib.hid (show tcF (sxF f k) < 256 from Nat.lt_trans (tcF_lt _ HVL.out) (by omega))
          obtain ⟨v, hv⟩ : ∃ v, sxF f k = v := ⟨_, rfl⟩
          rw [hv] at hix HVL HSN HY
          have HCH := Lib.hid (show tchN (v : Int) = tcF v by unfold tchN; rw [if_pos ⟨by omega, by have := HVL.out; omega⟩]; rfl)
          have HDE := Lib.hid (show decide ((0 : Int) ≤ v ∧ (v : Int) < 64) = true from decide_eq_true ⟨by omega, by have := HVL.out; omega⟩)
          have HVB := Lib.hid (show -9223372036854775808 ≤ (v : Int) ∧ (v : Int) ≤ 9223372036854775807 by have := HVL.out; omega)
          have HBB := Lib.hid hB
          clear hv hk hlt hB
          go_wp2_with fail
          refine (tchar (v : Int) wr HVB.out (HX.out.keep HBB.out)).mono ?_
          rintro e w4 ⟨rfl, hq⟩
          rw [HCH.out, HDE.out]
          obtain ⟨y, hy⟩ : ∃ y, tcF v = y := ⟨_, rfl⟩
          rw [hy] at HSN HY
          rw [hy]
          have hW4 : w4.ownsRow b0 5 1 (.slice A3 k c3) k ((txH f k).map b8) := own_tow hW hq
          have HB4 := Lib.hid (HBB.out.trans (hq.mono HBB.out.size))
          have HSZ4 := Lib.hid (Nat.le_trans HSZ.out hq.size)
          clear hy hW hq hix
          go_wp2_with (at_builtin
                       refine wpList_append_own _ rfl _ _ 38 rfl b0 5 i8 (.int .u8 0) 1 1 Tryd.underlying38 HJ0.out HY0.out HY1.out HY2.out rfl (by decide) _ _ _ rfl (hW4.alloc _) ⟨w4.heap.size, 0, none⟩ 1 1 [.int .u8 (y : Nat)] rfl rfl ?d1 ?d2 ?d3 ?d4 ?d5 ?_)
          case d1 =>
            intro j u hj
            match j, hj with
            | 0, hj => simp at hj; subst hj; simp [Addr.add]
          case d2 => first | rfl | (intro u hu; simp at hu; subst hu; rfl)
          case d3 => have := HKL.out; unfold maxLen; omega
          case d4 => have := HKL.out; omega
          case d5 => have := HSZ4.out; simp; omega
          intro v5 w5 hown5 hgrow5 _
          obtain ⟨A5, c5, rfl⟩ := own_shape hown5
          have hW5 : w5.ownsRow b0 5 1 (.slice A5 (k + 1) c5) (k + 1) ((txH f (k + 1)).map b8) := by rw [HSN.out, List.map_append, List.map_singleton, b8_ofNat _ HY.out]; exact hown5
          have hb45 : Below b0 w4 w5 := ((Below.refl b0 w4).alloc HSZ4.out _).grown hgrow5 (by have := HSZ4.out; simp; omega) (fun g hg => own_block hW4 hg)
          have hB5 := HB4.out.trans (hb45.mono HLW.out)
          have hs5 := Nat.le_trans HSZ4.out hb45.size
          clear hown5 hgrow5 hW4
          go_wp2_with fail
          go_roundw
          case rel => exact ⟨k + 1, A5, c5, by have := HKL.out; omega, by go_num, rfl, hW5, hB5, hs5⟩
          case measure => simp [intOf]; have := HKL.out; omega
        · have e22 : k = 22 := by omega
          subst e22
          have i1 : ¬ (22 : Int) < 22 := by omega
          clear hk hlt
          obtain ⟨g, cap, hv, _, _⟩ := World.ownsRow.form hW (by omega)
          injection hv with e1 e2 e3
          subst e1
          subst e3
          have hconv : (convert 38 9 (.slice (some ⟨g, 0, none⟩) 22 c3)).run Tryd.prog wr = .ok (.string (stB (txL f))) wr := by
            have h := run_convert_bytes_back (P := Tryd.prog) wr 38 9 5 ⟨g, 0, none⟩ c3 (txL f) Tryd.underlying38 Tryd.underlying5 Tryd.underlying9 (fun j hj => by
              have h1 := World.ownsRow.cells hW (g := g) rfl j _ (show ((txH f 22).map b8)[j]? = some (b8 (txL f)[j]) from by
                rw [List.getElem?_map, show txH f 22 = txL f from rfl, List.getElem?_eq_getElem hj]; rfl)
              exact h1)
            rw [txL_len] at h
            exact h
          have HBW := Lib.hid hB
          clear hB
          go_wp2_with fail
          go_ret
          exact ⟨rfl, HBW.out⟩
end Go.Proofs.YtfmlllckfpagkaaDoor
