/-
  Contract of Print of the reference package of layer 14, by a walk through its text; what was there stays as it was.
-/
import Derived.Test.YtfmlllckfpagkaaDoorTxb
namespace Go.Proofs.YtfmlllckfpagkaaDoor
open Go.RowKit
set_option linter.unusedVariables false
set_option maxRecDepth 100000

/-- The first bits of a sextet. -/
def pre6 (l : Nat → Nat) (i : Nat) : Nat → Nat
  | 0 => 0
  | t + 1 => pre6 l i t * 2 + l (6 * i + t)
theorem pre6_all (l : Nat → Nat) (i : Nat) : pre6 l i 6 = by6 l i := by simp [pre6, by6]
theorem pre6_lt (l : Nat → Nat) (hl : ∀ k, l k < 2) (i : Nat) : ∀ t, pre6 l i t < 2 ^ t
  | 0 => by simp [pre6]
  | t + 1 => by
    have h1 := pre6_lt l hl i t
    have h2 := hl (6 * i + t)
    rw [pre6, Nat.pow_succ]; omega
/-- The first characters of a text. -/
def txH (f : Nat → Nat) (n : Nat) : List UInt8 := (List.range n).map fun i => UInt8.ofNat (tcF (sxF f i))
theorem txH_snoc (f : Nat → Nat) (n : Nat) : txH f (n + 1) = txH f n ++ [UInt8.ofNat (tcF (sxF f n))] := by simp [txH, List.range_succ]
theorem inL_congr (n : Nat) (l m : Nat → Nat) (h : ∀ j, j < n → l j = m j) : inL n l = inL n m := by
  unfold inL
  apply List.map_congr_left
  intro j hj
  rw [h j (List.mem_range.1 hj)]
theorem kb_row (f : Nat → Nat) : inL 132 (kbF f) = inL 128 (bitF f) ++ [.int .i64 0, .int .i64 0, .int .i64 0, .int .i64 0] := by
  rw [inL_snoc 131, inL_snoc 130, inL_snoc 129, inL_snoc 128, inL_congr 128 (kbF f) (bitF f) (fun j hj => by unfold kbF; rw [if_pos hj])]
  have e : ∀ k, 128 ≤ k → kbF f k = 0 := fun k hk => by unfold kbF; rw [if_neg (by omega)]
  rw [e 128 (by omega), e 129 (by omega), e 130 (by omega), e 131 (by omega)]
  simp
theorem xfacts {k t p v b u : Nat} (hp : 6 * k + t = p) (hk : k < 22) (ht : t < 6) (hv : v < 64) (hb : b < 2) (hu : v * 2 + b = u) :
    (IntKind.i64.wrap (6 * (k : Int)) = ((6 * k : Nat) : Int) ∧ wrap64 (6 * (k : Int)) = ((6 * k : Nat) : Int) ∧ 6 * (k : Int) = ((6 * k : Nat) : Int)) ∧ (wrap64 (((6 * k : Nat) : Int) + (t : Int)) = (p : Int) ∧ ((6 * k : Nat) : Int) + (t : Int) = (p : Int) ∧ IntKind.i64.wrap (p : Int) = (p : Int)) ∧ (p : Int) < 132 ∧
    (wrap64 (2 * (v : Int)) = ((2 * v : Nat) : Int) ∧ 2 * (v : Int) = ((2 * v : Nat) : Int)) ∧ wrap64 (((2 * v : Nat) : Int) + (b : Int)) = (u : Int) ∧ ((2 * v : Nat) : Int) + (b : Int) = (u : Int) ∧ IntKind.i64.wrap (u : Int) = (u : Int) := by
  refine ⟨⟨?_, ?_, by omega⟩, ⟨?_, by omega, ?_⟩, by omega, ⟨?_, by omega⟩, ?_, by omega, ?_⟩
  · rw [IntKind.wrap_i64]; omega
  · rw [IntWalk.wrap64_in _ (by omega)]; omega
  · rw [IntWalk.wrap64_in _ (by omega)]; omega
  · rw [IntKind.wrap_i64]; omega
  · rw [IntWalk.wrap64_in _ (by omega)]; omega
  · rw [IntWalk.wrap64_in _ (by omega)]; omega
  · rw [IntKind.wrap_i64]; omega
set_option maxHeartbeats 4000000 in
theorem rprint (f : Nat → Nat) (w : World) (hf : B16 f) : Calls Tryd.prog 10 #[.agg (arL 16 f).toArray] w fun e w' => e = .returned (.string (stB (txL f))) ∧ Below w.heap.size w w' := by
  obtain ⟨i0, hi0, hz0, hz1, hz2⟩ := info_parts infoI
  obtain ⟨i8, hj0, hy0, hy1, hy2⟩ := info_parts info8x
  have HI0 := Lib.hid hi0
  have HZ0 := Lib.hid hz0
  have HZ1 := Lib.hid hz1
  have HZ2 := Lib.hid hz2
  have HJ0 := Lib.hid hj0
  have HY0 := Lib.hid hy0
  have HY1 := Lib.hid hy1
  have HY2 := Lib.hid hy2
  have HF := Lib.hid hf
  clear hi0 hz0 hz1 hz2 hj0 hy0 hy1 hy2 hf
  obtain ⟨w1, hw1⟩ : ∃ V : World, V = w.alloc (.cells (arL 16 f).toArray 22) := ⟨_, rfl⟩
  have hb1 : Below w.heap.size w w1 := by rw [hw1]; exact (Below.refl _ _).alloc (Nat.le_refl _) _
  have hK1 : Ar w1 w.heap.size 16 f := by rw [hw1]; exact Ar.new w 16 f _
  have hl1 : w.heap.size < w1.heap.size := hK1.lt (by omega)
  obtain ⟨kA, hkA⟩ : ∃ k : Array Value, (arL 16 f).toArray = k := ⟨_, rfl⟩
  rw [hkA] at hw1
  rw [hkA]
  clear hkA
  go_enter Tryd.func10, Tryd.ntmps10
  go_upto_region 1 with fail
  rw [← hw1]
  clear hw1
  go_wp2_with fail
  refine (refbits f 16 w.heap.size w1 (by omega) HF.out hK1 hl1).mono ?_
  rintro e w2 ⟨A, c, rfl, hO, hB2⟩
  have hO2 : OwI w2 w1.heap.size (.slice A 128 c) 128 (bitF f) := hO
  have hsz := Lib.hid hB2.size
  have HB2 := Lib.hid (hb1.trans (hB2.mono (Nat.le_of_lt hl1)))
  have HL1 := Lib.hid hl1
  clear hO hK1 hb1 hl1 hB2
  go_upto_region 2 with (at_builtin
                         refine wpList_append_own _ rfl _ _ 45 rfl w1.heap.size 3 i0 (.int .i64 0) 1 8 Tryd.underlying45 HI0.out HZ0.out HZ1.out HZ2.out rfl (by decide) (.slice A 128 c) 128 _ rfl (hO2.alloc _) ⟨w2.heap.size, 0, none⟩ 4 4 [.int .i64 0, .int .i64 0, .int .i64 0, .int .i64 0] rfl rfl ?c1 ?c2 ?c3 ?c4 ?c5 ?_)
  case c1 =>
    intro j u hj
    rw [Addr.add_mid, Nat.zero_add]
    rw [World.cell?_alloc_at _ _ _ _ rfl]
    simpa using hj
  case c2 => intro u hu; simp at hu; subst hu; rfl
  case c3 => unfold maxLen; omega
  case c4 => omega
  case c5 => have := hsz.out; simp; omega
  intro v3 w3 hown3 hgrow3 _
  obtain ⟨A2, c2, rfl⟩ := own_shape hown3
  have hO3 : OwI w3 w1.heap.size (.slice A2 132 c2) 132 (kbF f) := by unfold OwI; rw [kb_row]; exact hown3
  have hB3 : Below w.heap.size w w3 := (HB2.out.alloc HB2.out.size _).grown hgrow3 (by have := HB2.out.size; simp; omega) (fun g hg => Nat.le_trans (Nat.le_of_lt HL1.out) (own_block hO2 hg))
  obtain ⟨gL, rfl, hgL1, hgL2, _⟩ := hO3.cell 0 (by omega)
  have HCL := Lib.hid (show ∀ j, j < 132 → w3.cell? ⟨gL, j, none⟩ = some (.int .i64 (kbF f j : Nat)) from fun j hj => by
    obtain ⟨g, e, _, _, h⟩ := hO3.cell j hj
    injection e with e
    injection e with e
    subst e
    exact h)
  clear hown3 hgrow3 hO3 hO2 hgL1
  obtain ⟨b0, hb0⟩ : ∃ b : Nat, w3.heap.size = b := ⟨_, rfl⟩
  rw [hb0] at hgL2
  have HB0 := Lib.hid hb0
  have HBL := Lib.hid hgL2
  have HB3 := Lib.hid hB3
  clear hb0 hB3 hgL2
  go_wp2_with fail
  go_loopw [5, 6] (fun v i wr => ∃ (k : Nat) (A3 : Option Addr) (c3 : Nat), k ≤ 22 ∧ i = .int .i64 k ∧ v = .slice A3 k c3 ∧ wr.ownsRow b0 5 1 (.slice A3 k c3) k ((txH f k).map b8) ∧ Below b0 w3 wr) (fun _ i _ => 22 - (intOf i).toNat)
  case atStart => exact ⟨0, none, 0, by omega, rfl, rfl, World.ownsRow_nil _ _ _ _, Below.refl _ _⟩
  case round =>
    obtain ⟨k, A3, c3, hk, rfl, rfl, hW, hB⟩ := hrel
    by_cases hlt : k < 22
    · have i1 : (k : Int) < 22 := by omega
      have HKL := Lib.hid hlt
      go_wp2_with fail
      obtain ⟨wo, rfl⟩ : ∃ wo : World, wo = wr := ⟨_, rfl⟩
      clear hk hlt
      go_loopw [7, 8] (fun v j wr => ∃ t : Nat, t ≤ 6 ∧ j = .int .i64 t ∧ v = .int .i64 (pre6 (kbF f) k t : Nat) ∧ wr.ownsRow b0 5 1 (.slice A3 k c3) k ((txH f k).map b8) ∧ Below b0 w3 wr) (fun _ j _ => 6 - (intOf j).toNat)
      case atStart => exact ⟨0, by omega, rfl, rfl, hW, hB⟩
      case round =>
        clear hW hB
        obtain ⟨t, ht, rfl, rfl, hW, hB⟩ := hrel
        by_cases hlt2 : t < 6
        · have i2 : (t : Int) < 6 := by omega
          have HT := Lib.hid hlt2
          obtain ⟨p, hp⟩ : ∃ p, 6 * k + t = p := ⟨_, rfl⟩
          have hp132 : p < 132 := by have := HKL.out; omega
          have c0 : wr.cell? ⟨gL, p, none⟩ = some (.int .i64 (kbF f p : Nat)) := (hB.cell (p := ⟨gL, p, none⟩) HBL.out).trans (HCL.out p hp132)
          have HPV := Lib.hid (show pre6 (kbF f) k (t + 1) = pre6 (kbF f) k t * 2 + kbF f p by rw [← hp]; rfl)
          have hv64 : pre6 (kbF f) k t < 64 := Nat.lt_of_lt_of_le (pre6_lt _ (kbF_lt f) k t) (by have h9 : (2 : Nat) ^ t ≤ 2 ^ 6 := Nat.pow_le_pow_right (by omega) ht; omega)
          have hb2 := kbF_lt f p
          obtain ⟨v, hv⟩ : ∃ v, pre6 (kbF f) k t = v := ⟨_, rfl⟩
          obtain ⟨b, hb⟩ : ∃ b, kbF f p = b := ⟨_, rfl⟩
          rw [hv] at HPV hv64
          try rw [hv]
          rw [hb] at HPV hb2 c0
          obtain ⟨u, hu⟩ : ∃ u, v * 2 + b = u := ⟨_, rfl⟩
          rw [hu] at HPV
          obtain ⟨⟨x1, x2, x3⟩, ⟨x4, x5, x6⟩, x7, ⟨x8, x9⟩, y1, y2, y3⟩ := xfacts hp HKL.out hlt2 hv64 hb2 hu
          obtain ⟨s6, hs6⟩ : ∃ s, 6 * k = s := ⟨_, rfl⟩
          rw [hs6] at x1 x2 x3 x4 x5
          obtain ⟨d2, hd2⟩ : ∃ s, 2 * v = s := ⟨_, rfl⟩
          rw [hd2] at x8 x9 y1 y2
          have X8 := Lib.hid x8
          have Y1 := Lib.hid y1
          clear hp hp132 hv64 hb2 hu hs6 hd2 ht hlt2 hv hb x8 x9 y1 y2 y3
          go_wp2_with fail
          clear x1 x2 x3 x4 x5 x6 x7 c0
          go_roundw
          case rel => exact ⟨t + 1, by have := HT.out; omega, by go_num, by rw [X8.out, Y1.out, HPV.out], hW, hB⟩
          case measure => simp [intOf]; have := HT.out; omega
        · have e6 : t = 6 := by omega
          subst e6
          have i2 : ¬ (6 : Int) < 6 := by omega
          clear ht hlt2
          have hv64 := sxF_lt f k
          have hix := run_all (sxF f k) hv64
          have HSN := Lib.hid (txH_snoc f k)
          have hy256 : tcF (sxF f k) < 256 := Nat.lt_trans (tcF_lt _ hv64) (by omega)
          rw [show pre6 (kbF f) k 6 = sxF f k from pre6_all _ _]
          obtain ⟨v, hv⟩ : ∃ v, sxF f k = v := ⟨_, rfl⟩
          rw [hv] at hix HSN hy256
          rw [hv]
          obtain ⟨y, hy⟩ : ∃ y, tcF v = y := ⟨_, rfl⟩
          rw [hy] at hix HSN hy256
          have HY := Lib.hid hy256
          have hsz2 := Lib.hid hB.size
          have HBB := Lib.hid hB
          clear hv hy hy256 hv64 hB
          go_wp2_with (at_builtin
                       refine wpList_append_own _ rfl _ _ 38 rfl b0 5 i8 (.int .u8 0) 1 1 Tryd.underlying38 HJ0.out HY0.out HY1.out HY2.out rfl (by decide) _ _ _ rfl (hW.alloc _) ⟨wr.heap.size, 0, none⟩ 1 1 [.int .u8 (y : Nat)] rfl rfl ?d1 ?d2 ?d3 ?d4 ?d5 ?_)
          case d2 => first | rfl | (intro u hu; simp at hu; subst hu; rfl)
          case d3 => have := HKL.out; unfold maxLen; omega
          case d4 => have := HKL.out; omega
          case d5 => have := hsz2.out; have := HB0.out; simp; omega
          intro v5 w5 hown5 hgrow5 _
          obtain ⟨A5, c5, rfl⟩ := own_shape hown5
          have hW5 : w5.ownsRow b0 5 1 (.slice A5 (k + 1) c5) (k + 1) ((txH f (k + 1)).map b8) := by rw [HSN.out, List.map_append, List.map_singleton, b8_ofNat _ HY.out]; exact hown5
          have hB5 : Below b0 w3 w5 := (HBB.out.alloc (by have := hsz2.out; have := HB0.out; omega) _).grown hgrow5 (by have := hsz2.out; have := HB0.out; simp; omega) (fun g hg => own_block hW hg)
          clear hown5 hgrow5 hix hW
          go_wp2_with fail
          go_roundw
          case rel => exact ⟨k + 1, A5, c5, by have := HKL.out; omega, by go_num, rfl, hW5, hB5⟩
          case measure => simp [intOf]; have := HKL.out; omega
    · have e22 : k = 22 := by omega
      subst e22
      have i1 : ¬ (22 : Int) < 22 := by omega
      clear hk hlt
      obtain ⟨g, cap, hv, _, _⟩ := World.ownsRow.form hW (by omega)
      injection hv with e1 e2 e3
      subst e1
      subst e3
      have hconv : (convert 38 9 (.slice (some ⟨g, 0, none⟩) 22 c3)).run Tryd.prog wr = .ok (.string (stB (txL f))) wr := by
        have h := run_convert_bytes_back (P := Tryd.prog) wr 38 9 5 ⟨g, 0, none⟩ c3 (txL f) Tryd.underlying38 Tryd.underlying5 Tryd.underlying9 (fun j hj => by
          have h1 := World.ownsRow.cells hW (g := g) rfl j _ (show ((txH f 22).map b8)[j]? = some (b8 (txL f)[j]) from by
            rw [List.getElem?_map, show txH f 22 = txL f from rfl, List.getElem?_eq_getElem hj]; rfl)
          exact h1)
        rw [txL_len] at h
        exact h
      have HBW := Lib.hid (HB3.out.trans (hB.mono (by rw [← HB0.out]; exact HB3.out.size)))
      go_wp2_with fail
      go_ret
      exact ⟨rfl, HBW.out⟩
end Go.Proofs.YtfmlllckfpagkaaDoor
