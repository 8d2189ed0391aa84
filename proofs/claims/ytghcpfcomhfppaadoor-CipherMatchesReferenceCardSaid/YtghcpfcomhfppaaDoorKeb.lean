/-
  Contracts of keys.split, of the closure in it, and of keys.join, by walks through their texts; what was there stays as it was.
-/
import Derived.Test.YtghcpfcomhfppaaDoorFre
import Derived.Test.YtghcpfcomhfppaaDoorSbs
namespace Go.Proofs.YtghcpfcomhfppaaDoor
open Go.RowKit
set_option linter.unusedVariables false
set_option maxRecDepth 10000

/-- The first n bytes of a word, as a number. -/
def pre (f : Nat → Nat) (o : Nat) : Nat → Nat
  | 0 => 0
  | n + 1 => pre f o n * 256 + f (o + n)
theorem pre_lt (f : Nat → Nat) (o : Nat) (hf : ∀ j, j < 16 → f j < 256) : ∀ n, o + n ≤ 16 → pre f o n < 256 ^ n
  | 0, _ => by simp [pre]
  | n + 1, h => by
    have h1 := pre_lt f o hf n (by omega)
    have h2 := hf (o + n) (by omega)
    rw [pre, Nat.pow_succ]; omega
theorem pre_four (f : Nat → Nat) (i : Nat) : pre f (4 * i) 4 = wd f i := by simp [pre, wd, quad]
theorem pre_step (f : Nat → Nat) (o n : Nat) (hf : ∀ j, j < 16 → f j < 256) (ho : o + 4 ≤ 16) (hn : n < 4) :
    bits .or .u32 (((pre f o n : Nat) : Int) * 256) ((f (o + n) : Nat) : Int) = ((pre f o (n + 1) : Nat) : Int) := by
  have h1 := pre_lt f o hf n (by omega)
  have h2 := hf (o + n) (by omega)
  have h3 : 256 ^ n ≤ 256 ^ 3 := Nat.pow_le_pow_right (by decide) (by omega)
  have e : ((pre f o n : Nat) : Int) * 256 = ((2 ^ 8 * pre f o n : Nat) : Int) := by omega
  rw [e, or_u32 _ _ (by omega) (by omega), ← Nat.two_pow_add_eq_or_of_lt h2, pre]
  omega

theorem Tryd.arr16 : Tryd.prog.underlying 22 = some (.array 16 5) := by kernel_rfl
theorem slice16 (g o : Nat) (ho : o + 4 ≤ 16) (w : World) : (Instr.sliceAt 22 (.pointer (some ⟨g, 0, none⟩)) (some (.int .i64 (o : Int))) (some (.int .i64 ((o : Int) + 4))) none).run Tryd.prog w = .ok (.slice (some ⟨g, o, none⟩) 4 (16 - o)) w := by
  have hal : Tryd.prog.arrayLen 22 = 16 := by simp [Program.arrayLen]
  have hel : Tryd.prog.elem 22 = 5 := by simp [Program.elem]
  have hs : (sizeOf 5).run Tryd.prog w = .ok 1 w := by kernel_rfl
  rw [run_sliceAt_array_lh w 22 ⟨g, 0, none⟩ (by rw [hal, hel]; exact Tryd.arr16) .i64 .i64 (o : Int) ((o : Int) + 4) (by omega) (by omega) (by rw [hal]; omega), hal, hel, hs]
  simp only [Result.andThen_ok, slicedAt]
  have e1 : ((o : Int)).toNat = o := by omega
  have e2 : ((o : Int) + 4).toNat = o + 4 := by omega
  rw [e1, e2, if_neg (by omega)]
  simp [Addr.add]
  omega

set_option maxHeartbeats 800000 in
theorem kword (g o : Nat) (f : Nat → Nat) (w : World) (ho : o + 4 ≤ 16) (hA : Ar w g 16 f) (hf : ∀ j, j < 16 → f j < 256) :
    Calls Tryd.prog 50 #[.int .i64 o, .pointer (some ⟨g, 0, none⟩)] w fun e w' => e = .returned (.int .u32 (pre f o 4 : Nat)) ∧ w' = w := by
  have hstep := Lib.hid (fun n hn => pre_step f o n hf ho hn)
  have hlt := Lib.hid (fun n h => pre_lt f o hf n h)
  have hcell := Lib.hid hA
  have hb := Lib.hid hf
  have hsl := slice16 g o ho
  clear hA hf
  go_enter Tryd.func50, Tryd.ntmps50
  go_wp2_with fail
  go_loop [4, 12] (fun x i => ∃ n : Nat, n ≤ 4 ∧ i = .int .i64 n ∧ x = .int .u32 (pre f o n : Nat)) (fun _ i => 4 - (intOf i).toNat)
  case atStart => exact ⟨0, Nat.zero_le _, rfl, rfl⟩
  case round =>
    obtain ⟨n, hn, rfl, rfl⟩ := hrel
    by_cases hl : n < 4
    · have hs := Lib.hid (hstep.out n hl)
      have h1 := (hcell.out (o + n) (by omega)).1
      have h2 := hb.out (o + n) (by omega)
      have h3 : pre f o n < 16777216 := by have := hlt.out n (by omega); have h3 : 256 ^ n ≤ 256 ^ 3 := Nat.pow_le_pow_right (by decide) (by omega); omega
      go_wp2_with fail
      go_round
      case rel => exact ⟨n + 1, by omega, by go_num, fval_of hs.out⟩
      case measure => simp [intOf]; omega
    · obtain rfl : n = 4 := by omega
      go_wp2_with fail
      go_ret
      exact ⟨rfl, rfl⟩

theorem Tryd.arr4w : Tryd.prog.underlying 59 = some (.array 4 58) := by kernel_rfl
theorem size4w (f : Nat → Nat) : (Tryd.prog.info? 59).map (·.size) = some (awL 4 f).length := by rw [awL_len]; kernel_rfl
theorem Tryd.zero16 : (Tryd.prog.info? 22).map (fun i => (i.zero, i.size)) = some (some (.agg (Array.replicate 16 (.int .u8 0))), 16) := by kernel_rfl
theorem size16 (f : Nat → Nat) : (Tryd.prog.info? 22).map (·.size) = some (arL 16 f).length := by rw [arL_len]; exact (zero_of_info Tryd.zero16).2
theorem zero16 (w : World) : (zeroValue 22).run Tryd.prog w = .ok (.agg (arL 16 fun _ => 0).toArray) w := by
  rw [arL_zero]; exact (zero_of_info Tryd.zero16).1 w
theorem Aw.four {w : World} {g : Nat} {f : Nat → Nat} (h : Aw w g 4 f) (W : Nat → Nat) :
    Aw ((((w.setCell ⟨g, 0, none⟩ (.int .u32 (W 0 : Nat))).setCell ⟨g, 1, none⟩ (.int .u32 (W 1 : Nat))).setCell ⟨g, 2, none⟩ (.int .u32 (W 2 : Nat))).setCell ⟨g, 3, none⟩ (.int .u32 (W 3 : Nat))) g 4 W :=
  ((((h.set (j := 0) (v := W 0) (by omega) rfl).set (j := 1) (v := W 1) (by omega) rfl).set (j := 2) (v := W 2) (by omega) rfl).set (j := 3) (v := W 3) (by omega) rfl).ext (fun j hj => by
    rcases (show j = 0 ∨ j = 1 ∨ j = 2 ∨ j = 3 by omega) with rfl | rfl | rfl | rfl <;> simp)

set_option maxHeartbeats 800000 in
theorem ksplit (f : Nat → Nat) (hf : ∀ j, j < 16 → f j < 256) (w : World) :
    Calls Tryd.prog 45 #[.agg (arL 16 f).toArray] w fun e w' => e = .returned (.agg #[.int .u32 (wd f 0 : Nat), .int .u32 (wd f 1 : Nat), .int .u32 (wd f 2 : Nat), .int .u32 (wd f 3 : Nat)]) ∧ Below w.heap.size w w' := by
  obtain ⟨kA, hkA⟩ : ∃ kA : Array Value, (arL 16 f).toArray = kA := ⟨_, rfl⟩
  obtain ⟨w1, hw1⟩ : ∃ w1 : World, w1 = w.alloc (.cells (arL 16 f).toArray 22) := ⟨_, rfl⟩
  have hs1 : w1.heap.size = w.heap.size + 1 := by rw [hw1]; simp
  have hb1 : Below w.heap.size w w1 := by rw [hw1]; exact (Below.refl _ _).alloc (Nat.le_refl _) _
  have hK1 : Ar w1 w.heap.size 16 f := by rw [hw1]; exact Ar.new w 16 _ _
  have hK2 : Ar (w1.alloc (.cells #[.int .u32 0, .int .u32 0, .int .u32 0, .int .u32 0] 59)) w.heap.size 16 f := hK1.alloc (by omega) _
  have hb2 : Below w.heap.size w (w1.alloc (.cells #[.int .u32 0, .int .u32 0, .int .u32 0, .int .u32 0] 59)) := hb1.alloc (by omega) _
  rw [hkA] at hw1
  rw [hkA]
  clear hb1 hK1
  go_enter Tryd.func45, Tryd.ntmps45
  go_upto_region 1 with fail
  rw [← hw1]
  clear hw1
  have hR : Aw (w1.alloc (.cells #[.int .u32 0, .int .u32 0, .int .u32 0, .int .u32 0] 59)) (w.heap.size + 1) 4 (fun _ => 0) := by rw [← hs1]; exact Aw.new w1 4 (fun _ => 0) _
  obtain ⟨w2, hw2⟩ : ∃ w2 : World, w2 = w1.alloc (.cells #[.int .u32 0, .int .u32 0, .int .u32 0, .int .u32 0] 59) := ⟨_, rfl⟩
  rw [← hw2] at hK2 hb2 hR
  rw [← hw2]
  clear hw2 hs1
  obtain ⟨c0, d0⟩ := hR 0 (by omega)
  obtain ⟨c1, d1⟩ := hR 1 (by omega)
  obtain ⟨c2, d2⟩ := hR 2 (by omega)
  obtain ⟨c3, d3⟩ := hR 3 (by omega)
  have hA := Lib.hid hK2
  have hf2 := Lib.hid hf
  have p0 := Lib.hid (pre_four f 0)
  have p1 := Lib.hid (pre_four f 1)
  have p2 := Lib.hid (pre_four f 2)
  have p3 := Lib.hid (pre_four f 3)
  have HR := Lib.hid (hR.four (wd f))
  clear hR hK2 hf hkA
  go_wp2_with fail
  refine (kword w.heap.size 0 f _ (by omega) hA.out hf2.out).mono ?_
  rintro e w3 ⟨rfl, rfl⟩
  rw [show pre f 0 4 = wd f 0 from p0.out]
  go_wp2_with fail
  refine (kword w.heap.size 4 f _ (by omega) hA.out hf2.out).mono ?_
  rintro e w3 ⟨rfl, rfl⟩
  rw [show pre f 4 4 = wd f 1 from p1.out]
  go_wp2_with fail
  refine (kword w.heap.size 8 f _ (by omega) hA.out hf2.out).mono ?_
  rintro e w3 ⟨rfl, rfl⟩
  rw [show pre f 8 4 = wd f 2 from p2.out]
  go_wp2_with fail
  refine (kword w.heap.size 12 f _ (by omega) hA.out hf2.out).mono ?_
  rintro e w3 ⟨rfl, rfl⟩
  rw [show pre f 12 4 = wd f 3 from p3.out]
  go_wp2_with fail
  refine bodyPost_ret_aw rfl rfl HR.out Tryd.arr4w (size4w _) rfl ⟨rfl, ?_⟩
  exact (((hb2.setCell (p := ⟨w.heap.size + 1, 0, none⟩) (by simp) _).setCell (p := ⟨w.heap.size + 1, 1, none⟩) (by simp) _).setCell (p := ⟨w.heap.size + 1, 2, none⟩) (by simp) _).setCell (p := ⟨w.heap.size + 1, 3, none⟩) (by simp) _

theorem join_byte (x k s : Nat) (hk : k < 4) (hs : s = 24 - k * 8) : ((x : Int) / 2 ^ s) % 256 = ((wb x k : Nat) : Int) := by
  subst hs
  rcases (show k = 0 ∨ k = 1 ∨ k = 2 ∨ k = 3 by omega) with rfl | rfl | rfl | rfl <;> simp [wb]

set_option maxHeartbeats 800000 in
theorem kjoin (W : Nat → Nat) (hW : ∀ i, i < 4 → W i < 4294967296) (w : World) :
    Calls Tryd.prog 47 #[.agg #[.int .u32 (W 0 : Nat), .int .u32 (W 1 : Nat), .int .u32 (W 2 : Nat), .int .u32 (W 3 : Nat)]] w fun e w' => e = .returned (.agg (arL 16 (jn W)).toArray) ∧ Below w.heap.size w w' := by
  have hz := zero16
  obtain ⟨w1, hw1⟩ : ∃ w1 : World, w1 = w.alloc (.cells #[.int .u32 (W 0 : Nat), .int .u32 (W 1 : Nat), .int .u32 (W 2 : Nat), .int .u32 (W 3 : Nat)] 59) := ⟨_, rfl⟩
  have hs1 : w1.heap.size = w.heap.size + 1 := by rw [hw1]; simp
  have hb1 : Below w.heap.size w w1 := by rw [hw1]; exact (Below.refl _ _).alloc (Nat.le_refl _) _
  have hK1 : Aw w1 w.heap.size 4 W := by rw [hw1]; exact Aw.new w 4 W _
  obtain ⟨w2, hw2⟩ : ∃ w2 : World, w2 = w1.alloc (.cells (arL 16 fun _ => 0).toArray 22) := ⟨_, rfl⟩
  have hs2 : w2.heap.size = w.heap.size + 2 := by rw [hw2]; simp [hs1]
  have hb2 : Below w.heap.size w w2 := by rw [hw2]; exact hb1.alloc (by omega) _
  have hR2 : Ar w2 (w.heap.size + 1) 16 (fun _ => 0) := by rw [hw2, ← hs1]; exact Ar.new w1 16 _ _
  have hK2 : Aw w2 w.heap.size 4 W := by rw [hw2]; exact hK1.alloc (by omega) _
  obtain ⟨w3, hw3⟩ : ∃ w3 : World, w3 = w2.alloc (.cells (arL 16 fun _ => 0).toArray 22) := ⟨_, rfl⟩
  have hb3 : Below w.heap.size w w3 := by rw [hw3]; exact hb2.alloc (by omega) _
  have hT3 : Ar w3 (w.heap.size + 2) 16 (fun _ => 0) := by rw [hw3, ← hs2]; exact Ar.new w2 16 _ _
  have hR3 : Ar w3 (w.heap.size + 1) 16 (fun _ => 0) := by rw [hw3]; exact hR2.alloc (by omega) _
  have hK3 : Aw w3 w.heap.size 4 W := by rw [hw3]; exact hK2.alloc (by omega) _
  clear hb1 hK1 hb2 hR2 hK2
  go_enter Tryd.func47, Tryd.ntmps47
  go_upto_region 2 with fail
  rw [← hw1, ← hw2, ← hw3]
  clear hw1 hw2 hw3 hs1 hs2
  go_wp2_with fail
  go_loopw [5] (fun i wr => ∃ n : Nat, n ≤ 16 ∧ i = .int .i64 n ∧ Aw wr w.heap.size 4 W ∧ Ar wr (w.heap.size + 1) 16 (fun _ => 0) ∧ Ar wr (w.heap.size + 2) 16 (fun m => if m < n then jn W m else 0) ∧ Below w.heap.size w wr) (fun i _ => 16 - (intOf i).toNat)
  case atStart => exact ⟨0, Nat.zero_le _, rfl, hK3, hR3, hT3.ext (fun _ _ => rfl), hb3⟩
  case round =>
    clear hK3 hR3 hT3 hb3
    obtain ⟨n, hn, rfl, hK, hR, hT, hB⟩ := hrel
    by_cases hlt : n < 16
    · obtain ⟨q, hq⟩ : ∃ q : Nat, q = n / 4 := ⟨_, rfl⟩
      obtain ⟨k, hk⟩ : ∃ k : Nat, k = n % 4 := ⟨_, rfl⟩
      obtain ⟨s, hs⟩ : ∃ s : Nat, s = 24 - k * 8 := ⟨_, rfl⟩
      have hq1 : ((n : Int)).tdiv 4 = (q : Int) := by rw [Int.tdiv_eq_ediv_of_nonneg (by omega)]; omega
      have hq2 : (n : Int) / 4 = (q : Int) := by omega
      have hk1 : ((n : Int)).tmod 4 = (k : Int) := by rw [Int.tmod_eq_emod_of_nonneg (by omega)]; omega
      have hk2 : (n : Int) % 4 = (k : Int) := by omega
      have e1 : wrap64 ((k : Int) * 8) = (k : Int) * 8 := IntWalk.wrap64_in _ (by omega)
      have e2 : wrap64 (24 - (k : Int) * 8) = (s : Int) := by rw [IntWalk.wrap64_in _ (by omega)]; omega
      have e3 : 24 - (k : Int) * 8 = (s : Int) := by omega
      have hby := Lib.hid (join_byte (W q) k s (by omega) hs)
      have hj := Lib.hid (show jn W n = wb (W q) k by rw [jn, hq, hk])
      have hq4 : q < 4 := by omega
      have hs32 : s < 32 := by omega
      obtain ⟨c0, _⟩ := hK q hq4
      obtain ⟨c1, d1⟩ := hT n hlt
      have hwq := hW q hq4
      clear hq hk hs
      go_wp2_with fail
      rw [hby.out, ← hj.out]
      go_roundw
      case rel =>
        exact ⟨n + 1, by omega, by go_num, hK.far (p := ⟨w.heap.size + 2, n, none⟩) (by simp) _, hR.far (p := ⟨w.heap.size + 2, n, none⟩) (by simp) _,
          (hT.set (j := n) (v := jn W n) (by omega) rfl).ext (fun m _ => low_step (jn W) n m), hB.setCell (p := ⟨w.heap.size + 2, n, none⟩) (by simp) _⟩
      case measure => simp [intOf]; omega
    · obtain rfl : n = 16 := by omega
      have hT2 := hT.ext (f' := jn W) (fun j hj => by rw [if_pos hj])
      clear hT
      go_wp2_with (first
        | (refine wpList_load_ar rfl _ _ rfl _ _ _ rfl hT2 Tryd.arr16 (size16 _) ?_)
        | (refine wpList_store_ar rfl _ _ _ rfl _ _ _ (jn W) rfl rfl hR (size16 _) ?_; intro w8 hA8 hb8 _ _))
      refine bodyPost_ret_ar rfl rfl hA8 Tryd.arr16 (size16 _) rfl ⟨rfl, ?_⟩
      exact hB.trans (hb8.mono (by omega))
end Go.Proofs.YtghcpfcomhfppaaDoor
