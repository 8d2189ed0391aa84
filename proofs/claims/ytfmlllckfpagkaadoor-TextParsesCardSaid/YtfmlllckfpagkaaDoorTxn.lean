/-
  Contract of gathered of package text, by a walk through its text (a labelled loop); what was there stays as it was. Condition: the table holds what the program's text lays; the string is one of 22 characters.
-/
import Derived.Test.YtfmlllckfpagkaaDoorTxz
import Derived.Deep.LoopGhost
import Derived.WalkMore
import Derived.Deep.RegionHeld3
namespace Go.Proofs.YtfmlllckfpagkaaDoor
open Go.RowKit
set_option linter.unusedVariables false
set_option maxRecDepth 100000

theorem gfacts {k t n j u v p q x z y : Nat} (hn : 6 * k + t = n) (ht : t < 6) (hn2 : n < 128) (hj : n / 8 = j) (hu : 5 - t = u) (hv : v < 64) (hp : v / 2 ^ u = p) (hq : p % 2 = q) (hx : x < 256) (hy : x * 2 % 256 = y) (hz : y ||| q = z) :
    (IntKind.i64.wrap (6 * (k : Int)) = ((6 * k : Nat) : Int) ∧ wrap64 (6 * (k : Int)) = ((6 * k : Nat) : Int)) ∧ (wrap64 (((6 * k : Nat) : Int) + (t : Int)) = (n : Int) ∧ IntKind.i64.wrap (n : Int) = (n : Int)) ∧
    ((n : Int).tdiv 8 = (j : Int) ∧ (n : Int) / 8 = (j : Int) ∧ IntKind.i64.wrap (j : Int) = (j : Int) ∧ wrap64 (j : Int) = (j : Int) ∧ (j : Int) < 16) ∧
    (wrap64 (5 - (t : Int)) = (u : Int) ∧ IntKind.i64.wrap (5 - (t : Int)) = (u : Int) ∧ (5 : Int) - (t : Int) = (u : Int)) ∧
    ((v : Int) / 2 ^ u = (p : Int) ∧ bits .and .i64 (p : Int) 1 = (q : Int) ∧ IntKind.u8.wrap (q : Int) = (q : Int)) ∧
    IntKind.u8.wrap ((x : Int) * 2) = (y : Int) ∧ bits .or .u8 (y : Int) (q : Int) = (z : Int) ∧ z < 256 := by
  have h1 : p ≤ v := by rw [← hp]; exact Nat.div_le_self _ _
  refine ⟨⟨?_, ?_⟩, ⟨?_, wraps_i64' _ (by omega) (by omega)⟩, ⟨?_, by omega, wraps_i64' _ (by omega) (by omega), ?_, by omega⟩, ⟨?_, ?_, by omega⟩, ⟨?_, ?_, ?_⟩, ?_, ?_, ?_⟩
  · rw [IntKind.wrap_i64]; omega
  · rw [IntWalk.wrap64_in _ (by omega)]; omega
  · rw [IntWalk.wrap64_in _ (by omega)]; omega
  · rw [Int.tdiv_eq_ediv_of_nonneg (by omega)]; omega
  · rw [IntWalk.wrap64_in _ (by omega)]
  · rw [IntWalk.wrap64_in _ (by omega)]; omega
  · rw [IntKind.wrap_i64]; omega
  · rw [← hp, Int.natCast_ediv, Int.natCast_pow]; rfl
  · have h := (bits_nat .i64 63 (by decide) wraps_i64' p 1 (by omega) (by decide)).1
    rw [Nat.and_one_is_mod, hq] at h
    exact h
  · rw [IntKind.wrap_u8]; omega
  · rw [IntKind.wrap_u8]; omega
  · have h := (bits_nat .u8 8 (by decide) wraps_u8 y q (by omega) (by omega)).2
    rw [h, hz]
  · rw [← hz]; exact Nat.or_lt_two_pow (n := 8) (by omega) (by omega)
theorem lfacts {k t n : Nat} (hn : 6 * k + t = n) (h : n = 128) : IntKind.i64.wrap (6 * (k : Int)) = ((6 * k : Nat) : Int) ∧ wrap64 (6 * (k : Int)) = ((6 * k : Nat) : Int) ∧ wrap64 (((6 * k : Nat) : Int) + (t : Int)) = 128 ∧ IntKind.i64.wrap (((6 * k : Nat) : Int) + (t : Int)) = 128 := by
  refine ⟨?_, ?_, ?_, ?_⟩
  · rw [IntKind.wrap_i64]; omega
  · rw [IntWalk.wrap64_in _ (by omega)]; omega
  · rw [IntWalk.wrap64_in _ (by omega)]; omega
  · rw [IntKind.wrap_i64]; omega
set_option maxHeartbeats 4000000 in
theorem tgath (s : List UInt8) (w : World) (hn : s.length = 22) (hp : ∀ j, j < 22 → 0 ≤ valF s j) (hx : TxG w) : Calls Tryd.prog 18 #[.string (stB s)] w fun e w' => e = .returned (.agg (arL 16 (kyF (vaN s))).toArray) ∧ Below w.heap.size w w' := by
  have hz := zero16x
  have hidx := Lib.hid (fun i (h : i < s.length) V => run_idx s i h V)
  obtain ⟨S, hS⟩ : ∃ S, stB s = S := ⟨_, rfl⟩
  rw [hS, hn] at hidx
  rw [hS]
  have HX := Lib.hid hx
  have HP := Lib.hid hp
  obtain ⟨w1, hw1⟩ : ∃ V : World, V = w.alloc (.cells (arL 16 fun _ => 0).toArray 22) := ⟨_, rfl⟩
  have hs1 : w1.heap.size = w.heap.size + 1 := by rw [hw1]; simp
  obtain ⟨w2, hw2⟩ : ∃ V : World, V = w1.alloc (.cells (arL 16 fun _ => 0).toArray 22) := ⟨_, rfl⟩
  have hs2 : w2.heap.size = w.heap.size + 2 := by rw [hw2]; simp [hs1]
  have hR1 : Ar w1 w.heap.size 16 (fun _ => 0) := by rw [hw1]; exact Ar.new w 16 _ _
  have hR2 : Ar w2 w.heap.size 16 (fun _ => 0) := by rw [hw2]; exact hR1.alloc (by omega) _
  have hK2 : Ar w2 (w.heap.size + 1) 16 (gaF (vbF (vaN s)) (6 * 0)) := by rw [hw2, ← hs1]; exact (Ar.new w1 16 _ _).ext (fun j hj => by simp [gaF])
  have hB1 : Below w.heap.size w w1 := by rw [hw1]; exact (Below.refl _ _).alloc (Nat.le_refl _) _
  have hB2 : Below w.heap.size w w2 := by rw [hw2]; exact hB1.alloc (by omega) _
  clear hS hn hx hp hR1 hB1
  go_enter Tryd.func18, Tryd.ntmps18
  go_wp2
  go_step3
  go_wp2
  rw [← hw1]
  rw [← hw2]
  clear hw1 hw2
  obtain ⟨gK, hgK⟩ : ∃ g, w.heap.size + 1 = g := ⟨_, rfl⟩
  have hlK : w.heap.size < gK := by omega
  have hg0 : gK < w2.heap.size := by omega
  rw [hgK] at hK2
  rw [hgK]
  have HLK := Lib.hid hlK
  have HPV := Lib.hid (show ∀ k, vbF (vaN s) k < 2 from vbF_lt _)
  clear hgK hs1 hs2 hg0
  go_step3
  go_wp2
  go_loopg [8] 21 (fun g i wr => ∃ k : Nat, k + g = 21 ∧ i = .int .i64 k ∧ Ar wr gK 16 (gaF (vbF (vaN s)) (6 * k)) ∧ Ar wr w.heap.size 16 (fun _ => 0) ∧ Below w.heap.size w wr)
  case atStart => exact ⟨0, by omega, rfl, hK2, hR2, hB2⟩
  case round =>
    clear hK2 hR2 hB2
    obtain ⟨k, hkg, rfl, hK, hR, hB⟩ := hrel
    have i1 : (k : Int) < 22 := by omega
    have hix := hidx.out k (by omega)
    have HKG := Lib.hid hkg
    have HK0 := Lib.hid (HP.out k (by omega))
    have HSZ := Lib.hid hB.size
    clear hkg
    go_wp2_with fail
    refine (tval (lF s k) wr (lF_lt s k) (HX.out.keep hB)).mono ?_
    rintro e w4 ⟨rfl, hq⟩
    have hK4 := hK.to (by omega) hq
    have hR4 := hR.to (by omega) hq
    have hB4 := hB.trans (hq.mono HSZ.out)
    clear hix hq hB hK hR
    have HV64 := Lib.hid (vaN_lt s k)
    obtain ⟨v, hv⟩ : ∃ v, vaN s k = v := ⟨_, rfl⟩
    rw [show tvI (lF s k) = (v : Int) by rw [← hv]; unfold vaN; show valF s k = _; have := HK0.out; omega]
    rw [hv] at HV64
    have HV := Lib.hid hv
    clear hv
    go_wp2_with fail
    obtain ⟨G, rfl⟩ : ∃ G, G = gk := ⟨_, rfl⟩
    clear HK0 HSZ
    go_loopg [15] 6 (fun g i wr => ∃ t : Nat, t + g = 6 ∧ i = .int .i64 t ∧ (k = 21 → t ≤ 2) ∧ Ar wr gK 16 (gaF (vbF (vaN s)) (6 * k + t)) ∧ Ar wr w.heap.size 16 (fun _ => 0) ∧ Below w.heap.size w wr)
    case atStart => exact ⟨0, by omega, rfl, fun _ => by omega, hK4, hR4, hB4⟩
    case round =>
      clear hK4 hR4 hB4
      obtain ⟨t, htg, rfl, h21, hK, hR, hB⟩ := hrel
      by_cases ht : t < 6
      · have i2 : (t : Int) < 6 := by omega
        obtain ⟨n, hn⟩ : ∃ n, 6 * k + t = n := ⟨_, rfl⟩
        have hne0 : n ≤ 128 := by have := HKG.out; have h5 : k < 21 ∨ k = 21 := by omega
                                  rcases h5 with h5 | h5
                                  · omega
                                  · have := h21 h5; omega
        by_cases h128 : n = 128
        · obtain ⟨x1, x2, x3, x4⟩ : IntKind.i64.wrap (6 * (k : Int)) = ((6 * k : Nat) : Int) ∧ wrap64 (6 * (k : Int)) = ((6 * k : Nat) : Int) ∧ wrap64 (((6 * k : Nat) : Int) + (t : Int)) = 128 ∧ IntKind.i64.wrap (((6 * k : Nat) : Int) + (t : Int)) = 128 := lfacts hn h128
          have hK5 := hK.ext (f' := kyF (vaN s)) (fun j hj => by rw [hn, h128]; exact gaF_all _ HPV.out j hj)
          obtain ⟨m, hm⟩ : ∃ m, 6 * k = m := ⟨_, rfl⟩
          rw [hm] at x1 x2 x3 x4
          clear hn h128 hne0 h21 htg ht hK hm
          go_wp2_with (first
            | (refine wpList_load_ar rfl _ _ rfl _ _ _ rfl hK5 Tryd.arr16x (size16x _) ?_)
            | (refine wpList_store_ar rfl _ _ _ rfl _ _ _ (kyF (vaN s)) rfl rfl hR (size16x _) ?_; intro w8 hA8 hb8 _ _))
          rw [Exit.noGoto_ret]
          refine bodyPost_ret_ar rfl rfl hA8 Tryd.arr16x (size16x _) rfl ⟨rfl, ?_⟩
          exact hB.trans (hb8.mono (Nat.le_refl _))
        · have hn2 : n < 128 := by omega
          obtain ⟨j, hj⟩ : ∃ j, n / 8 = j := ⟨_, rfl⟩
          obtain ⟨u, hu⟩ : ∃ u, 5 - t = u := ⟨_, rfl⟩
          obtain ⟨p, hp⟩ : ∃ p, v / 2 ^ u = p := ⟨_, rfl⟩
          obtain ⟨q, hq⟩ : ∃ q, p % 2 = q := ⟨_, rfl⟩
          have hbit := Lib.hid (show vbF (vaN s) n = q by unfold vbF; rw [← hn, show (6 * k + t) / 6 = k by omega, show (6 * k + t) % 6 = t by omega, hu, HV.out, hp, hq])
          rw [hn] at hK
          have hj16 : j < 16 := by omega
          obtain ⟨c0, f0⟩ := hK j hj16
          have hxl := ga_lt (vbF (vaN s)) HPV.out n j
          have hst := ga_step (vbF (vaN s)) n
          rw [hbit.out, hj] at hst
          have hput := Lib.hid (fun i => ga_put (vbF (vaN s)) n i)
          rw [hj] at hput
          obtain ⟨x, hx⟩ : ∃ x, gaF (vbF (vaN s)) n j = x := ⟨_, rfl⟩
          obtain ⟨y, hy⟩ : ∃ y, x * 2 % 256 = y := ⟨_, rfl⟩
          obtain ⟨z, hz9⟩ : ∃ z, y ||| q = z := ⟨_, rfl⟩
          rw [hx] at hxl c0 hst
          rw [hy, hz9] at hst
          have hT2 := Lib.hid ((hK.set (j := j) (v := z) hj16 rfl).ext (f' := gaF (vbF (vaN s)) (n + 1)) (fun i _ => by rw [← hput.out i, hst]))
          have hR2 := Lib.hid (hR.far (p := ⟨gK, j, none⟩) (by show gK ≠ _; exact Nat.ne_of_gt HLK.out) (.int .u8 (z : Nat)))
          have hB2 := Lib.hid (hB.setCell (p := ⟨gK, j, none⟩) (by show _ ≤ gK; exact Nat.le_of_lt HLK.out) (.int .u8 (z : Nat)))
          have hne : ((n : Int) == 128) = false := by simp; omega
          have HM := Lib.hid (show gk - 1 < gk by omega)
          have HT1 := Lib.hid (show t + 1 + (gk - 1) = 6 by omega)
          have HT2 := Lib.hid (show k = 21 → t + 1 ≤ 2 from fun h => by omega)
          have HT3 := Lib.hid (show 6 * k + (t + 1) = n + 1 by omega)
          obtain ⟨⟨a1, a2⟩, ⟨a3, a4⟩, hrest⟩ := gfacts hn ht hn2 hj hu HV64.out hp hq hxl hy hz9
          have HRE := Lib.hid hrest
          have HC0 := Lib.hid c0
          have HF0 := Lib.hid f0
          obtain ⟨m, hm⟩ : ∃ m, 6 * k = m := ⟨_, rfl⟩
          rw [hm] at a1 a2 a3
          clear hn ht hn2 hj hu hp hq hx hy hz9 hst hput hK hR hB hne0 h128 h21 htg hm hxl hj16 hbit hrest c0 f0
          go_wp2_with fail
          try simp only [a3]
          clear a1 a2 a3 a4 hne
          obtain ⟨⟨a5, a6, a7, a8, a9⟩, ⟨b1, b2, b3⟩, ⟨b4, b5, b6⟩, b7, b8, _⟩ := HRE.out
          have c0 := HC0.out
          have f0 := HF0.out
          refine wp_region_noPanic ?_
          go_big_region
          refine NoPanic.normal ?_
          clear a5 a6 a7 a8 a9 b1 b2 b3 b4 b5 b6 b7 b8 c0 f0
          go_wp2_with fail
          go_roundg (gk - 1)
          case measure => exact HM.out
          case rel => exact ⟨t + 1, HT1.out, by go_num, HT2.out, by rw [HT3.out]; exact hT2.out.drew, hR2.out.drew, hB2.out.drew⟩
      · obtain rfl : t = 6 := by omega
        have i2 : ¬ (6 : Int) < 6 := by omega
        have HKN := Lib.hid (show k + 1 + (G - 1) = 21 ∧ G - 1 < G by have := HKG.out; have h5 : k ≠ 21 := fun h => by have := h21 h; omega
                                                                      omega)
        clear ht htg h21
        go_wp2_with fail
        go_roundg (G - 1)
        case measure => exact HKN.out.2
        case rel => exact ⟨k + 1, HKN.out.1, by go_num, by rw [show 6 * (k + 1) = 6 * k + 6 by omega]; exact hK, hR, hB⟩
end Go.Proofs.YtfmlllckfpagkaaDoor
