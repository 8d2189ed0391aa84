/-
  Contracts of fast.split and fast.join, by walks through their texts; what was there stays as it was.
-/
import Derived.Test.YtblhfmlgpldaeaaDoorFre
import Derived.Test.YtblhfmlgpldaeaaDoorGke
import Derived.Test.YtblhfmlgpldaeaaDoorGcr
namespace Go.Proofs.YtblhfmlgpldaeaaDoor
open Go.RowKit
set_option linter.unusedVariables false
set_option maxRecDepth 100000

theorem Tryd.arrCw : Tryd.prog.underlying 59 = some (.array 4 57) := by kernel_rfl
theorem sizeCw (f : Nat → Nat) : (Tryd.prog.info? 59).map (·.size) = some (awL 4 f).length := by rw [awL_len]; kernel_rfl
theorem aw4 (W : Nat → Nat) : (awL 4 W).toArray = #[.int .u32 (W 0 : Nat), .int .u32 (W 1 : Nat), .int .u32 (W 2 : Nat), .int .u32 (W 3 : Nat)] := rfl
/-- The columns after n bytes. -/
def spl (f : Nat → Nat) (n i : Nat) : Nat := pre f (4 * i) (min 4 (n - 4 * i))
theorem spl_zero (f : Nat → Nat) (i : Nat) : spl f 0 i = 0 := by simp [spl, pre]
theorem spl_end (f : Nat → Nat) (i : Nat) (hi : i < 4) : spl f 16 i = wd f i := by
  rw [spl, show min 4 (16 - 4 * i) = 4 by omega, pre_four]
theorem spl_step (f : Nat → Nat) (n i : Nat) (hn : n < 16) : (if i = n / 4 then pre f (4 * (n / 4)) (n % 4 + 1) else spl f n i) = spl f (n + 1) i := by
  unfold spl
  by_cases h : i = n / 4
  · subst h
    rw [if_pos rfl, show min 4 (n + 1 - 4 * (n / 4)) = n % 4 + 1 by omega]
  · rw [if_neg h]
    congr 1; omega
theorem spl_now (f : Nat → Nat) (n : Nat) : spl f n (n / 4) = pre f (4 * (n / 4)) (n % 4) := by
  rw [spl, show min 4 (n - 4 * (n / 4)) = n % 4 by omega]

set_option maxHeartbeats 800000 in
theorem fsplit (f : Nat → Nat) (w : World) (hf : B16 f) :
    Calls Tryd.prog 31 #[.agg (arL 16 f).toArray] w fun e w' => e = .returned (.agg #[.int .u32 (wd f 0 : Nat), .int .u32 (wd f 1 : Nat), .int .u32 (wd f 2 : Nat), .int .u32 (wd f 3 : Nat)]) ∧ Below w.heap.size w w' := by
  obtain ⟨kA, hkA⟩ : ∃ kA : Array Value, (arL 16 f).toArray = kA := ⟨_, rfl⟩
  obtain ⟨w1, hw1⟩ : ∃ w1 : World, w1 = w.alloc (.cells (arL 16 f).toArray 22) := ⟨_, rfl⟩
  have hs1 : w1.heap.size = w.heap.size + 1 := by rw [hw1]; simp
  have hb1 : Below w.heap.size w w1 := by rw [hw1]; exact (Below.refl _ _).alloc (Nat.le_refl _) _
  have hK1 : Ar w1 w.heap.size 16 f := by rw [hw1]; exact Ar.new w 16 _ _
  obtain ⟨w2, hw2⟩ : ∃ w2 : World, w2 = w1.alloc (.cells #[.int .u32 0, .int .u32 0, .int .u32 0, .int .u32 0] 59) := ⟨_, rfl⟩
  have hs2 : w2.heap.size = w.heap.size + 2 := by rw [hw2]; simp [hs1]
  have hb2 : Below w.heap.size w w2 := by rw [hw2]; exact hb1.alloc (by omega) _
  have hR2 : Aw w2 (w.heap.size + 1) 4 (fun _ => 0) := by rw [hw2, ← hs1]; exact Aw.new w1 4 (fun _ => 0) _
  have hK2 : Ar w2 w.heap.size 16 f := by rw [hw2]; exact hK1.alloc (by omega) _
  obtain ⟨w3, hw3⟩ : ∃ w3 : World, w3 = w2.alloc (.cells #[.int .u32 0, .int .u32 0, .int .u32 0, .int .u32 0] 59) := ⟨_, rfl⟩
  have hb3 : Below w.heap.size w w3 := by rw [hw3]; exact hb2.alloc (by omega) _
  have hT3 : Aw w3 (w.heap.size + 2) 4 (spl f 0) := by
    have h : Aw w3 (w.heap.size + 2) 4 (fun _ => 0) := by rw [hw3, ← hs2]; exact Aw.new w2 4 (fun _ => 0) _
    exact h.ext (fun j _ => (spl_zero f j).symm)
  have hR3 : Aw w3 (w.heap.size + 1) 4 (fun _ => 0) := by rw [hw3]; exact hR2.alloc (by omega) _
  have hK3 : Ar w3 w.heap.size 16 f := by rw [hw3]; exact hK2.alloc (by omega) _
  rw [hkA] at hw1
  rw [hkA]
  clear hb1 hK1 hb2 hR2 hK2 hkA
  have hstep := Lib.hid (fun o n ho hn => pre_step f o n hf ho hn)
  have hlt := Lib.hid (fun o n h => pre_lt f o hf n h)
  have hix := Lib.hid (fun n (hn : n < 16) => hf n hn)
  have hget := Lib.hid (fun n hn => arL_get 16 f n hn)
  clear hf
  go_enter Tryd.func31, Tryd.ntmps31
  go_upto_region 2 with fail
  rw [← hw1, ← hw2, ← hw3]
  clear hw1 hw2 hw3 hs1 hs2
  go_wp2_with (refine wpList_load_ar rfl _ _ rfl _ _ _ rfl hK3 Tryd.arr16b (size16b _) ?_)
  obtain ⟨kB, hkB⟩ : ∃ kB : Array Value, (arL 16 f).toArray = kB := ⟨_, rfl⟩
  rw [hkB]
  go_loopw [7] (fun i wr => ∃ n : Nat, n ≤ 16 ∧ i = .int .i64 n ∧ Aw wr (w.heap.size + 1) 4 (fun _ => 0) ∧ Aw wr (w.heap.size + 2) 4 (spl f n) ∧ Below w.heap.size w wr) (fun i _ => 16 - (intOf i).toNat)
  case atStart => exact ⟨0, Nat.zero_le _, rfl, hR3, hT3, hb3⟩
  case round =>
    clear hR3 hT3 hb3 hK3
    obtain ⟨n, hn, rfl, hR, hT, hB⟩ := hrel
    by_cases hl : n < 16
    · have hix2 : ∀ V, (Instr.index 22 (.agg kB) (.int .i64 n)).run Tryd.prog V = .ok (.int .u8 (f n : Nat)) V := fun V =>
        run_index_arr Tryd.arr16b Tryd.underlying5 rfl (by kernel_rfl) kB n _ hl (by rw [← hkB, List.getElem?_toArray]; exact hget.out n hl) V
      obtain ⟨q, hq⟩ : ∃ q : Nat, q = n / 4 := ⟨_, rfl⟩
      obtain ⟨k, hk⟩ : ∃ k : Nat, k = n % 4 := ⟨_, rfl⟩
      have e0 : 4 * q + k = n := by omega
      have hq1 : ((n : Int)).tdiv 4 = (q : Int) := by rw [Int.tdiv_eq_ediv_of_nonneg (by omega)]; omega
      have hq2 : (n : Int) / 4 = (q : Int) := by omega
      have hq4 : q < 4 := by omega
      have hs := Lib.hid (hstep.out (4 * q) k (by omega) (by omega))
      have h3 : pre f (4 * q) k < 16777216 := by have := hlt.out (4 * q) k (by omega); have h3 : 256 ^ k ≤ 256 ^ 3 := Nat.pow_le_pow_right (by decide) (by omega); omega
      have hfn := hix.out n hl
      obtain ⟨c0, d0⟩ := hT q hq4
      rw [show spl f n q = pre f (4 * q) k by rw [hq, hk]; exact spl_now f n] at c0
      rw [e0] at hs
      have hup := Lib.hid (fun i => spl_step f n i hl)
      rw [← hq, ← hk] at hup
      clear hq hk
      go_wp2_with fail
      go_roundw
      case rel =>
        refine ⟨n + 1, by omega, by go_num, hR.far (p := ⟨w.heap.size + 2, q, none⟩) (by simp) _, (hT.set (j := q) (v := pre f (4 * q) (k + 1)) (by omega) ?_).ext (fun m _ => hup.out m), hB.setCell (p := ⟨w.heap.size + 2, q, none⟩) (by simp) _⟩
        exact hs.out
      case measure => simp [intOf]; omega
    · obtain rfl : n = 16 := by omega
      have hT2 := hT.ext (fun j hj => spl_end f j hj)
      clear hT
      go_wp2_with (first
        | (refine wpList_load_aw rfl _ _ rfl _ _ _ rfl hT2 Tryd.arrCw (sizeCw _) ?_)
        | (refine wpList_store_aw rfl _ _ _ rfl _ _ _ (wd f) rfl rfl hR (sizeCw _) ?_; intro w8 hA8 hb8 _ _))
      refine bodyPost_ret_aw rfl rfl hA8 Tryd.arrCw (sizeCw _) rfl ⟨rfl, ?_⟩
      exact hB.trans (hb8.mono (by omega))

set_option maxHeartbeats 800000 in
theorem fjoin0 (W : Nat → Nat) (hW : ∀ i, i < 4 → W i < 4294967296) (w : World) :
    Calls Tryd.prog 50 #[.agg #[.int .u32 (W 0 : Nat), .int .u32 (W 1 : Nat), .int .u32 (W 2 : Nat), .int .u32 (W 3 : Nat)]] w fun e w' => e = .returned (.agg (arL 16 (jn W)).toArray) ∧ Below w.heap.size w w' := by
  have hz := zero16b
  obtain ⟨w1, hw1⟩ : ∃ w1 : World, w1 = w.alloc (.cells #[.int .u32 (W 0 : Nat), .int .u32 (W 1 : Nat), .int .u32 (W 2 : Nat), .int .u32 (W 3 : Nat)] 59) := ⟨_, rfl⟩
  have hs1 : w1.heap.size = w.heap.size + 1 := by rw [hw1]; simp
  have hb1 : Below w.heap.size w w1 := by rw [hw1]; exact (Below.refl _ _).alloc (Nat.le_refl _) _
  have hK1 : Aw w1 w.heap.size 4 W := by rw [hw1]; exact Aw.new w 4 W _
  obtain ⟨w2, hw2⟩ : ∃ w2 : World, w2 = w1.alloc (.cells (arL 16 fun _ => 0).toArray 22) := ⟨_, rfl⟩
  have hs2 : w2.heap.size = w.heap.size + 2 := by rw [hw2]; simp [hs1]
  have hb2 : Below w.heap.size w w2 := by rw [hw2]; exact hb1.alloc (by omega) _
  have hR2 : Ar w2 (w.heap.size + 1) 16 (fun _ => 0) := by rw [hw2, ← hs1]; exact Ar.new w1 16 _ _
  have hK2 : Aw w2 w.heap.size 4 W := by rw [hw2]; exact hK1.alloc (by omega) _
  obtain ⟨w3, hw3⟩ : ∃ w3 : World, w3 = w2.alloc (.cells (arL 16 fun _ => 0).toArray 22) := ⟨_, rfl⟩
  have hb3 : Below w.heap.size w w3 := by rw [hw3]; exact hb2.alloc (by omega) _
  have hT3 : Ar w3 (w.heap.size + 2) 16 (fun _ => 0) := by rw [hw3, ← hs2]; exact Ar.new w2 16 _ _
  have hR3 : Ar w3 (w.heap.size + 1) 16 (fun _ => 0) := by rw [hw3]; exact hR2.alloc (by omega) _
  have hK3 : Aw w3 w.heap.size 4 W := by rw [hw3]; exact hK2.alloc (by omega) _
  clear hb1 hK1 hb2 hR2 hK2
  go_enter Tryd.func50, Tryd.ntmps50
  go_upto_region 2 with fail
  rw [← hw1, ← hw2, ← hw3]
  clear hw1 hw2 hw3 hs1 hs2
  go_wp2_with fail
  go_loopw [5] (fun i wr => ∃ n : Nat, n ≤ 16 ∧ i = .int .i64 n ∧ Aw wr w.heap.size 4 W ∧ Ar wr (w.heap.size + 1) 16 (fun _ => 0) ∧ Ar wr (w.heap.size + 2) 16 (fun m => if m < n then jn W m else 0) ∧ Below w.heap.size w wr) (fun i _ => 16 - (intOf i).toNat)
  case atStart => exact ⟨0, Nat.zero_le _, rfl, hK3, hR3, hT3.ext (fun _ _ => rfl), hb3⟩
  case round =>
    clear hK3 hR3 hT3 hb3
    obtain ⟨n, hn, rfl, hK, hR, hT, hB⟩ := hrel
    by_cases hlt : n < 16
    · obtain ⟨q, hq⟩ : ∃ q : Nat, q = n / 4 := ⟨_, rfl⟩
      obtain ⟨k, hk⟩ : ∃ k : Nat, k = n % 4 := ⟨_, rfl⟩
      obtain ⟨s, hs⟩ : ∃ s : Nat, s = 24 - k * 8 := ⟨_, rfl⟩
      have hq1 : ((n : Int)).tdiv 4 = (q : Int) := by rw [Int.tdiv_eq_ediv_of_nonneg (by omega)]; omega
      have hq2 : (n : Int) / 4 = (q : Int) := by omega
      have hk1 : ((n : Int)).tmod 4 = (k : Int) := by rw [Int.tmod_eq_emod_of_nonneg (by omega)]; omega
      have hk2 : (n : Int) % 4 = (k : Int) := by omega
      have e1 : wrap64 ((k : Int) * 8) = (k : Int) * 8 := IntWalk.wrap64_in _ (by omega)
      have e2 : wrap64 (24 - (k : Int) * 8) = (s : Int) := by rw [IntWalk.wrap64_in _ (by omega)]; omega
      have e3 : 24 - (k : Int) * 8 = (s : Int) := by omega
      have hby := Lib.hid (join_byte (W q) k s (by omega) hs)
      have hj := Lib.hid (show jn W n = wb (W q) k by rw [jn, hq, hk])
      have hq4 : q < 4 := by omega
      have hs32 : s < 32 := by omega
      obtain ⟨c0, _⟩ := hK q hq4
      obtain ⟨c1, d1⟩ := hT n hlt
      have hwq := hW q hq4
      clear hq hk hs
      go_wp2_with fail
      rw [hby.out, ← hj.out]
      go_roundw
      case rel =>
        exact ⟨n + 1, by omega, by go_num, hK.far (p := ⟨w.heap.size + 2, n, none⟩) (by simp) _, hR.far (p := ⟨w.heap.size + 2, n, none⟩) (by simp) _,
          (hT.set (j := n) (v := jn W n) (by omega) rfl).ext (fun m _ => low_step (jn W) n m), hB.setCell (p := ⟨w.heap.size + 2, n, none⟩) (by simp) _⟩
      case measure => simp [intOf]; omega
    · obtain rfl : n = 16 := by omega
      have hT2 := hT.ext (f' := jn W) (fun j hj => by rw [if_pos hj])
      clear hT
      go_wp2_with (first
        | (refine wpList_load_ar rfl _ _ rfl _ _ _ rfl hT2 Tryd.arr16b (size16b _) ?_)
        | (refine wpList_store_ar rfl _ _ _ rfl _ _ _ (jn W) rfl rfl hR (size16b _) ?_; intro w8 hA8 hb8 _ _))
      refine bodyPost_ret_ar rfl rfl hA8 Tryd.arr16b (size16b _) rfl ⟨rfl, ?_⟩
      exact hB.trans (hb8.mono (by omega))
theorem fjoin (f : Nat → Nat) (w : World) (hf : B16 f) :
    Calls Tryd.prog 50 #[.agg #[.int .u32 (wd f 0 : Nat), .int .u32 (wd f 1 : Nat), .int .u32 (wd f 2 : Nat), .int .u32 (wd f 3 : Nat)]] w fun e w' => e = .returned (.agg (arL 16 f).toArray) ∧ Below w.heap.size w w' := by
  have h := fjoin0 (wd f) (fun i hi => wd_lt f i hf hi) w
  rwa [arL_ext (n := 16) (jn_wd f hf)] at h
end Go.Proofs.YtblhfmlgpldaeaaDoor
