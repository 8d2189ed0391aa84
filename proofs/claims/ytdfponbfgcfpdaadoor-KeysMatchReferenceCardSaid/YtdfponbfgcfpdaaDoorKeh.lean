/-
  Contract of keys.Words, by a walk through its text; what was there stays as it was.
-/
import Derived.Test.YtdfponbfgcfpdaaDoorKeg
import Derived.Laws.CopyOwn
import Derived.Deep.RegionLaw
namespace Go.Proofs.YtdfponbfgcfpdaaDoor
open Go.RowKit
set_option linter.unusedVariables false
set_option maxRecDepth 100000

theorem Tryd.zero44w : (Tryd.prog.info? 25).map (fun i => (i.zero, i.size)) = some (some (.agg (Array.replicate 44 (.int .u32 0))), 44) := by kernel_rfl
theorem Tryd.arr44w : Tryd.prog.underlying 25 = some (.array 44 24) := by kernel_rfl
theorem size44w (f : Nat → Nat) : (Tryd.prog.info? 25).map (·.size) = some (awL 44 f).length := by rw [awL_len]; exact (zero_of_info Tryd.zero44w).2
theorem zero44w (w : World) : (zeroValue 25).run Tryd.prog w = .ok (.agg (awL 44 fun _ => 0).toArray) w := by
  rw [awL_zero]; exact (zero_of_info Tryd.zero44w).1 w

/-- The words' block, known whole. -/
def Wk (w : World) (g : Nat) (F : Nat → Nat) : Prop := w.heap[g]? = some (.cells (awL 44 F).toArray 25 (0, 0))
theorem Wk.new (w : World) (F : Nat → Nat) : Wk (w.alloc (.cells (awL 44 F).toArray 25)) w.heap.size F := by
  show (w.heap.push _)[w.heap.size]? = _
  rw [Array.getElem?_push_size]
theorem Wk.lt {w : World} {g : Nat} {F : Nat → Nat} (h : Wk w g F) : g < w.heap.size := by
  rcases Nat.lt_or_ge g w.heap.size with h1 | h1
  · exact h1
  · unfold Wk at h; rw [Array.getElem?_eq_none h1] at h; cases h
theorem Wk.to {w w' : World} {g : Nat} {F : Nat → Nat} (h : Wk w g F) (hb : Below w.heap.size w w') : Wk w' g F := (hb.block g h.lt).trans h
theorem Wk.keep {w w' : World} {g B : Nat} {F : Nat → Nat} (h : Wk w g F) (hg : g < B) (hb : Below B w w') : Wk w' g F := (hb.block g hg).trans h
theorem Wk.ar {w : World} {g : Nat} {F : Nat → Nat} (h : Wk w g F) : Aw w g 44 F := fun j hj => by
  unfold Wk at h
  refine ⟨?_, ?_⟩
  · simp only [World.cell?, h]
    simp
    exact awL_get 44 F j hj
  · simp only [World.frozen?, h]
    simp
theorem Wk.ext {w : World} {g : Nat} {F F' : Nat → Nat} (h : Wk w g F) (he : ∀ j, j < 44 → F j = F' j) : Wk w g F' := by
  unfold Wk; rw [← awL_ext he]; exact h
theorem splice_aw (F G : Nat → Nat) (o : Nat) (h : o + 4 ≤ 44) : splice (awL 44 F) o (awL 4 G) = awL 44 (fun i => if o ≤ i ∧ i < o + 4 then G (i - o) else F i) := by
  apply List.ext_getElem?
  intro j
  unfold splice
  have l1 : ((awL 44 F).take o).length = o := by rw [List.length_take, awL_len]; omega
  rcases Nat.lt_or_ge j 44 with h1 | h1
  · rw [awL_get 44 _ j h1]
    rcases Nat.lt_or_ge j o with h2 | h2
    · rw [List.getElem?_append_left (by omega), List.getElem?_take, if_pos h2, awL_get 44 F j h1, if_neg (by omega)]
    · rw [List.getElem?_append_right (by omega), l1]
      rcases Nat.lt_or_ge (j - o) 4 with h3 | h3
      · rw [List.getElem?_append_left (by rw [awL_len]; exact h3), awL_get 4 G _ h3, if_pos (by omega)]
      · rw [List.getElem?_append_right (by rw [awL_len]; exact h3), awL_len, List.getElem?_drop, show o + 4 + (j - o - 4) = j by omega, awL_get 44 F j h1, if_neg (by omega)]
  · rw [List.getElem?_eq_none (l := awL 44 _) (by rw [awL_len]; exact h1), List.getElem?_eq_none (by rw [List.length_append, l1, List.length_append, awL_len, List.length_drop, awL_len]; omega)]
theorem Aw.src {w : World} {g n : Nat} {f : Nat → Nat} (h : Aw w g n f) : ∀ j v, (awL n f)[j]? = some v → w.cell? ((⟨g, 0, none⟩ : Addr).add j) = some v := fun j v hv => by
  rw [Addr.add_mid]; exact h.range j v hv
theorem slice44 (g o : Nat) (ho : o < 44) (w : World) : (Instr.sliceAt 25 (.pointer (some ⟨g, 0, none⟩)) (some (.int .i64 (o : Int))) none none).run Tryd.prog w = .ok (.slice (some ⟨g, o, none⟩) (44 - o) (44 - o)) w := by
  have hal : Tryd.prog.arrayLen 25 = 44 := by simp [Program.arrayLen]
  have hel : Tryd.prog.elem 25 = 24 := by simp [Program.elem]
  have hs : (sizeOf 24).run Tryd.prog w = .ok 1 w := by kernel_rfl
  rw [run_sliceAt_array_l w 25 ⟨g, 0, none⟩ (by rw [hal, hel]; exact Tryd.arr44w) .i64 (o : Int) (by omega) (by rw [hal]; omega), hal, hel, hs]
  simp only [Result.andThen_ok, slicedAt]
  have e1 : ((o : Int)).toNat = o := by omega
  rw [e1, if_neg (by omega)]
  simp [Addr.add]
  omega
theorem wds_row (f : Nat → Nat) (n i : Nat) (hi : i < 4) : wd (rk f n) i = wd (ek f) (4 * n + i) := by
  have e : ∀ k, k < 4 → ek f (4 * (4 * n + i) + k) = rk f n (4 * i + k) := fun k hk => by
    rw [show 4 * (4 * n + i) + k = 16 * n + (4 * i + k) by omega, ek_rk f n (4 * i + k) (by omega)]
  have e0 := e 0 (by omega)
  rw [Nat.add_zero, Nat.add_zero] at e0
  unfold wd
  rw [e0, e 1 (by omega), e 2 (by omega), e 3 (by omega)]

theorem Tryd.sl32 : Tryd.prog.underlying 43 = some (.slice 24) := by kernel_rfl
theorem Tryd.sz32 : (Tryd.prog.info? 24).map (·.size) = some 1 := by kernel_rfl

set_option maxHeartbeats 1600000 in
theorem kwords (f : Nat → Nat) (hf : ∀ j, j < 16 → f j < 256) (w : World) (h : Boxes w) :
    Calls Tryd.prog 9 #[.agg (arL 16 f).toArray] w fun e w' => e = .returned (.agg (awL 44 (wd (ek f))).toArray) ∧ Below w.heap.size w w' := by
  have hz0 := zero44w
  obtain ⟨kA, hkA⟩ : ∃ kA : Array Value, (arL 16 f).toArray = kA := ⟨_, rfl⟩
  obtain ⟨w1, hw1⟩ : ∃ w1 : World, w1 = w.alloc (.cells (arL 16 f).toArray 22) := ⟨_, rfl⟩
  have hs1 : w1.heap.size = w.heap.size + 1 := by rw [hw1]; simp
  have hb1 : Below w.heap.size w w1 := by rw [hw1]; exact (Below.refl _ _).alloc (Nat.le_refl _) _
  have hK1 : Ar w1 w.heap.size 16 f := by rw [hw1]; exact Ar.new w 16 _ _
  obtain ⟨w2, hw2⟩ : ∃ w2 : World, w2 = w1.alloc (.cells (awL 44 fun _ => 0).toArray 25) := ⟨_, rfl⟩
  have hs2 : w2.heap.size = w.heap.size + 2 := by rw [hw2]; simp [hs1]
  have hb2 : Below w.heap.size w w2 := by rw [hw2]; exact hb1.alloc (by omega) _
  have hR2 : Aw w2 (w.heap.size + 1) 44 (fun _ => 0) := by rw [hw2, ← hs1]; exact Aw.new w1 44 _ _
  have hK2 : Ar w2 w.heap.size 16 f := by rw [hw2]; exact hK1.alloc (by omega) _
  obtain ⟨w3, hw3⟩ : ∃ w3 : World, w3 = w2.alloc (.cells (awL 44 fun _ => 0).toArray 25) := ⟨_, rfl⟩
  have hb3 : Below w.heap.size w w3 := by rw [hw3]; exact hb2.alloc (by omega) _
  have hT3 : Wk w3 (w.heap.size + 2) (fun _ => 0) := by rw [hw3, ← hs2]; exact Wk.new w2 _
  have hR3 : Aw w3 (w.heap.size + 1) 44 (fun _ => 0) := by rw [hw3]; exact hR2.alloc (by omega) _
  have hK3 : Ar w3 w.heap.size 16 f := by rw [hw3]; exact hK2.alloc (by omega) _
  rw [hkA] at hw1
  rw [hkA]
  clear hb1 hK1 hb2 hR2 hK2
  go_enter Tryd.func9, Tryd.ntmps9
  go_upto_region 2 with fail
  rw [← hw1, ← hw2, ← hw3]
  clear hw1 hw2 hw3 hs1 hs2
  obtain ⟨gT, hgT⟩ : ∃ gT : Nat, w.heap.size + 2 = gT := ⟨_, rfl⟩
  have hgT2 : w.heap.size + 1 + 1 = gT := hgT
  have hge : w.heap.size + 2 ≤ gT := by omega
  rw [hgT] at hT3
  rw [hgT2]
  clear hgT hgT2
  go_wp2_with (refine wpList_load_ar rfl _ _ rfl _ _ _ rfl hK3 Tryd.arr16 (size16 _) ?_)
  rw [← hkA]
  refine (kexpand f hf _ (h.keep hb3)).mono ?_
  rintro e w4 ⟨rfl, k4⟩
  have hT4 := hT3.to k4
  have hR4 := hR3.to (by omega) k4
  have hb4 := hb3.trans (k4.mono hb3.size)
  clear hT3 hR3 hK3 hb3 k4
  have hix := fun n (hn : n < 11) V => run_index_row (P := Tryd.prog) (m := 16) Tryd.arr11 Tryd.arr16 (by kernel_rfl) (ek f) 176 n hn (by omega) V
  obtain ⟨E, hE⟩ : ∃ E : Array Value, (arL 176 (ek f)).toArray = E := ⟨_, rfl⟩
  rw [hE] at hix
  rw [hE]
  have HX := Lib.hid hix
  have HF := Lib.hid hf
  have hz1 := zero16
  clear hix hE hf h hkA
  go_upto_region 3 with fail
  go_loopw [9] (fun i wr => ∃ n : Nat, n ≤ 11 ∧ i = .int .i64 n ∧ Wk wr gT (fun m => if m < 4 * n then wd (ek f) m else 0) ∧ Aw wr (w.heap.size + 1) 44 (fun _ => 0) ∧ Below w.heap.size w wr) (fun i _ => 11 - (intOf i).toNat)
  case atStart => exact ⟨0, by omega, rfl, hT4.ext (fun _ _ => rfl), hR4, hb4⟩
  case round =>
    clear hT4 hR4 hb4
    obtain ⟨n, hn, rfl, hT, hR, hB⟩ := hrel
    by_cases hlt : n < 11
    · have hx := HX.out n hlt
      have hrk : (arL 16 fun j => ek f (n * 16 + j)) = arL 16 (rk f n) := arL_ext (fun j hj => by rw [Nat.mul_comm n 16, ek_rk f n j hj])
      rw [hrk] at hx
      obtain ⟨g5, hg5⟩ : ∃ g5 : Nat, wr.heap.size = g5 := ⟨_, rfl⟩
      have hT5 : Wk (wr.alloc (.cells (arL 16 fun _ => 0).toArray 22)) gT (fun m => if m < 4 * n then wd (ek f) m else 0) := hT.to ((Below.refl _ _).alloc (Nat.le_refl _) _)
      have hR5 : Aw (wr.alloc (.cells (arL 16 fun _ => 0).toArray 22)) (w.heap.size + 1) 44 (fun _ => 0) := hR.alloc (by omega) _
      have hB5 : Below w.heap.size w (wr.alloc (.cells (arL 16 fun _ => 0).toArray 22)) := hB.alloc (by have := hB.size; omega) _
      have hA5 : Ar (wr.alloc (.cells (arL 16 fun _ => 0).toArray 22)) g5 16 (fun _ => 0) := by rw [← hg5]; exact Ar.new wr 16 _ _
      have hlt5 : gT < g5 := by rw [← hg5]; exact hT.lt
      clear hT hR hrk
      go_upto_region 5 with (refine wpList_store_ar rfl _ _ _ rfl _ _ _ (rk f n) rfl rfl hA5 (size16 _) ?_; intro w6 hA6 hb6 hs6 hk6)
      have hT6 := hT5.keep hlt5 hb6
      have hR6 := hR5.keep (by omega) hb6
      have hB6 := hB5.trans (hb6.mono (by omega))
      clear hT5 hR5 hB5 hA5 hb6 hs6 hk6 hx hg5
      dsimp only [Act.put]
      go_wp2_with (refine wpList_load_ar rfl _ _ rfl _ _ _ rfl hA6 Tryd.arr16 (size16 _) ?_)
      refine (ksplit (rk f n) (rk_lt f HF.out n) _).mono ?_
      rintro e w7 ⟨rfl, k7⟩
      have hT7 := hT6.to k7
      have hR7 := hR6.to (by omega) k7
      have hB7 := hB6.trans (k7.mono hB6.size)
      clear hT6 hR6 hB6 hA6 k7
      obtain ⟨g7, hg7⟩ : ∃ g7 : Nat, w7.heap.size = g7 := ⟨_, rfl⟩
      obtain ⟨w8, hw8⟩ : ∃ w8 : World, w8 = w7.alloc (.cells #[.int .u32 (wd (rk f n) 0 : Nat), .int .u32 (wd (rk f n) 1 : Nat), .int .u32 (wd (rk f n) 2 : Nat), .int .u32 (wd (rk f n) 3 : Nat)] 41) := ⟨_, rfl⟩
      have hT8 : Wk w8 gT (fun m => if m < 4 * n then wd (ek f) m else 0) := by rw [hw8]; exact hT7.to ((Below.refl _ _).alloc (Nat.le_refl _) _)
      have hR8 : Aw w8 (w.heap.size + 1) 44 (fun _ => 0) := by rw [hw8]; exact hR7.alloc (by omega) _
      have hB8 : Below w.heap.size w w8 := by rw [hw8]; exact hB7.alloc (by have := hB7.size; omega) _
      have hA8 : Aw w8 g7 4 (wd (rk f n)) := by rw [hw8, ← hg7]; exact Aw.new w7 4 (wd (rk f n)) _
      have hl7 : gT < g7 := by rw [← hg7]; exact hT7.lt
      clear hT7 hR7 hB7
      go_upto_region 6 with fail
      rw [← hw8]
      clear hw8 hg7
      obtain ⟨o, ho⟩ : ∃ o : Nat, o = 4 * n := ⟨_, rfl⟩
      have o1 : IntKind.i64.wrap (4 * (n : Int)) = (o : Int) := by rw [wraps_i64' _ (by omega) (by omega)]; omega
      have o2 : wrap64 (4 * (n : Int)) = (o : Int) := by rw [IntWalk.wrap64_in _ (by omega)]; omega
      have o3 : 4 * (n : Int) = (o : Int) := by omega
      have o4 : IntKind.i64.wrap (o : Int) = (o : Int) := wraps_i64' _ (by omega) (by omega)
      have hsl := slice44 gT o (by omega)
      have hsrc := Lib.hid hA8.src
      have hbk : w8.drew.heap[gT]? = some (.cells (awL 44 (fun m => if m < 4 * n then wd (ek f) m else 0)).toArray 25 (0, 0)) := hT8
      have hfit : o + (awL 4 (wd (rk f n))).length ≤ (awL 44 (fun m => if m < 4 * n then wd (ek f) m else 0)).length := by rw [awL_len, awL_len]; omega
      have hmin : (awL 4 (wd (rk f n))).length = Nat.min 4 (44 - o) := by rw [awL_len]; simp [Nat.min_def]; omega
      have HK := Lib.hid hbk
      have HFi := Lib.hid hfit
      have HMi := Lib.hid hmin
      have HO := Lib.hid ho
      clear hbk hfit hmin ho
      go_region_law (refine step_copy_splice rfl (.tmp 17) (.tmp 18) 43 43 rfl 24 Tryd.sl32 Tryd.sz32 _ _ _ _ _ _ rfl rfl gT o (awL 44 (fun m => if m < 4 * n then wd (ek f) m else 0)) 25 HK.out (awL 4 (wd (rk f n))) HMi.out (fun _ => ⟨rfl, ⟨g7, 0, none⟩, rfl, hsrc.out⟩) HFi.out (awL_one 4 _) gT w8.drew (Below.refl _ _) (Nat.le_refl _) ?_; intro w9 hg9 hb9)
      have hT9 : Wk w9 gT (fun m => if m < 4 * (n + 1) then wd (ek f) m else 0) := by
        have h1 := hg9.out
        have ho := HO.out
        rw [splice_aw _ _ o (by omega)] at h1
        refine Wk.ext h1 (fun j hj => ?_)
        by_cases hc : o ≤ j ∧ j < o + 4
        · rw [if_pos hc, if_pos (by omega), wds_row f n (j - o) (by omega)]
          congr 1; omega
        · rw [if_neg hc]
          by_cases h2 : j < 4 * n
          · rw [if_pos h2, if_pos (by omega)]
          · rw [if_neg h2, if_neg (by omega)]
      have hR9 : Aw w9 (w.heap.size + 1) 44 (fun _ => 0) := hR8.drew.keep (B := gT) (by omega) hb9
      have hB9 : Below w.heap.size w w9 := hB8.drew.trans (hb9.mono (by omega))
      clear hg9 hb9 hT8 hR8 hB8 hA8 hsrc HK HFi HMi HO o1 o2 o3 o4 hsl
      go_wp2_with fail
      go_roundw
      case rel => exact ⟨n + 1, by omega, by go_num, hT9, hR9, hB9⟩
      case measure => simp [intOf]; omega
    · obtain rfl : n = 11 := by omega
      have hT2 := (hT.ext (F' := wd (ek f)) (fun j hj => by rw [if_pos (by omega)])).ar
      clear hT
      go_wp2_with (first
        | (refine wpList_load_aw rfl _ _ rfl _ _ _ rfl hT2 Tryd.arr44w (size44w _) ?_)
        | (refine wpList_store_aw rfl _ _ _ rfl _ _ _ (wd (ek f)) rfl rfl hR (size44w _) ?_; intro w8 hA8 hb8 _ _))
      refine bodyPost_ret_aw rfl rfl hA8 Tryd.arr44w (size44w _) rfl ⟨rfl, ?_⟩
      exact hB.trans (hb8.mono (by omega))
end Go.Proofs.YtdfponbfgcfpdaaDoor
