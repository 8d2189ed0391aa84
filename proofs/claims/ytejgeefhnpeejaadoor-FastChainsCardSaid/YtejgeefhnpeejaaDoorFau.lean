/-
  Contracts of fast.roots and fast.unsub, by walks through their texts; what was there stays as it was.
-/
import Derived.Test.YtejgeefhnpeejaaDoorFaf
import Derived.Test.YtejgeefhnpeejaaDoorFad
import Derived.Test.YtejgeefhnpeejaaDoorFag
import Derived.Test.YtejgeefhnpeejaaDoorGsb
import Derived.Test.YtejgeefhnpeejaaDoorGke
import Derived.Deep.RegionHeld3
namespace Go.Proofs.YtejgeefhnpeejaaDoor
open Go.RowKit
set_option linter.unusedVariables false
set_option maxRecDepth 100000

/-- The roots of the S-boxes of the first n bytes. -/
def rtF (n y : Nat) : Nat := if bk y < n then bk y else 0
theorem rt_step (n y : Nat) (hn : n < 256) (hy : y < 256) : (if y = sb n then n else rtF n y) = rtF (n + 1) y := by
  unfold rtF
  by_cases h : y = sb n
  · subst h
    rw [if_pos rfl, bk_sb n hn, if_pos (by omega)]
  · have h2 : bk y ≠ n := fun e => h (by rw [← e, sb_bk y hy])
    rw [if_neg h]
    by_cases h3 : bk y < n
    · rw [if_pos h3, if_pos (by omega)]
    · rw [if_neg h3, if_neg (by omega)]
set_option maxHeartbeats 1600000 in
theorem froots (w : World) (h : Boxes w) :
    Calls Tryd.prog 35 #[] w fun e w' => e = .returned (.agg (arL 256 bk).toArray) ∧ Below w.heap.size w w' := by
  have hz := zero256
  have HX := Lib.hid h
  clear h
  obtain ⟨w1, hw1⟩ : ∃ w1 : World, w1 = w.alloc (.cells (arL 256 fun _ => 0).toArray 30) := ⟨_, rfl⟩
  have hs1 : w1.heap.size = w.heap.size + 1 := by rw [hw1]; simp
  have hb1 : Below w.heap.size w w1 := by rw [hw1]; exact (Below.refl _ _).alloc (Nat.le_refl _) _
  have hR1 : Ar w1 w.heap.size 256 (fun _ => 0) := by rw [hw1]; exact Ar.new w 256 _ _
  obtain ⟨w2, hw2⟩ : ∃ w2 : World, w2 = w1.alloc (.cells (arL 256 fun _ => 0).toArray 30) := ⟨_, rfl⟩
  have hb2 : Below w.heap.size w w2 := by rw [hw2]; exact hb1.alloc (by omega) _
  have hL2 : Ar w2 (w.heap.size + 1) 256 (fun _ => 0) := by rw [hw2, ← hs1]; exact Ar.new w1 256 _ _
  have hR2 : Ar w2 w.heap.size 256 (fun _ => 0) := by rw [hw2]; exact hR1.alloc (by omega) _
  clear hb1 hR1
  go_enter Tryd.func35, Tryd.ntmps35
  go_upto_region 2 with fail
  rw [← hw1, ← hw2]
  clear hw1 hw2 hs1
  obtain ⟨gL, hgL⟩ : ∃ gL : Nat, w.heap.size + 1 = gL := ⟨_, rfl⟩
  have hlL : w.heap.size < gL := by omega
  rw [hgL] at hL2
  rw [hgL]
  clear hgL
  go_wp2_with fail
  go_loopw [3] (fun i wr => ∃ n : Nat, n ≤ 256 ∧ i = .int .i64 n ∧ Ar wr w.heap.size 256 (fun _ => 0) ∧ Ar wr gL 256 (rtF n) ∧ Below w.heap.size w wr) (fun i _ => 256 - (intOf i).toNat)
  case atStart => exact ⟨0, Nat.zero_le _, rfl, hR2, hL2.ext (fun j _ => by unfold rtF; rw [if_neg (by omega)]), hb2⟩
  case round =>
    clear hR2 hL2 hb2
    obtain ⟨n, hn, rfl, hR, hL, hB⟩ := hrel
    by_cases hlt : n < 256
    · have i1 : (n : Int) < 256 := by omega
      have e1 : (n : Int) % 256 = (n : Int) := by omega
      have HN := Lib.hid hlt
      go_wp2_with fail
      refine (sboxS n _ HN.out (HX.out.keep hB)).mono ?_
      rintro e v1 ⟨rfl, rfl⟩
      have hsl := sb_lt n
      have i2 : ((sb n : Nat) : Int) < 256 := by omega
      have hst := Lib.hid (fun y hy => rt_step n y HN.out hy)
      obtain ⟨s, hs⟩ : ∃ s : Nat, sb n = s := ⟨_, rfl⟩
      rw [hs] at hsl i2 hst ⊢
      clear hs
      have hL9 := (hL.set (j := s) (v := n) hsl rfl).ext (f' := rtF (n + 1)) (fun y hy => hst.out y hy)
      have hR9 := hR.far (p := ⟨gL, s, none⟩) (by simp; omega) (.int .u8 (n : Nat))
      have hB9 := hB.setCell (p := ⟨gL, s, none⟩) (by simp; omega) (.int .u8 (n : Nat))
      obtain ⟨c0, d0⟩ := hL s hsl
      clear hL hR hB
      go_wp2_with fail
      go_roundw
      case rel => exact ⟨n + 1, by omega, by go_num, hR9, hL9, hB9⟩
      case measure => simp [intOf]; omega
    · obtain rfl : n = 256 := by omega
      have hL8 := hL.ext (f' := bk) (fun j hj => by unfold rtF; rw [if_pos (bk_lt j hj)])
      clear hL
      go_wp2_with (first
        | (refine wpList_load_ar rfl _ _ rfl _ _ _ rfl hL8 Tryd.arr256 (size_arL _) ?_)
        | (refine wpList_store_ar rfl _ _ _ rfl _ _ _ bk rfl rfl hR (size_arL _) ?_; intro w8 hA8 hb8 _ _))
      refine bodyPost_ret_ar rfl rfl hA8 Tryd.arr256 (size_arL _) rfl ⟨rfl, ?_⟩
      exact hB.trans (hb8.mono (by omega))

set_option maxHeartbeats 4000000 in
theorem funsub (f : Nat → Nat) (w : World) (hf : B16 f) :
    Calls Tryd.prog 36 #[.agg #[.int .u32 (wd f 0 : Nat), .int .u32 (wd f 1 : Nat), .int .u32 (wd f 2 : Nat), .int .u32 (wd f 3 : Nat)], .agg (arL 256 bk).toArray] w fun e w' => e = .returned (.agg #[.int .u32 (wd (usF f) 0 : Nat), .int .u32 (wd (usF f) 1 : Nat), .int .u32 (wd (usF f) 2 : Nat), .int .u32 (wd (usF f) 3 : Nat)]) ∧ Below w.heap.size w w' := by
  obtain ⟨kL, hkL⟩ : ∃ kL : Array Value, (arL 256 bk).toArray = kL := ⟨_, rfl⟩
  obtain ⟨w1, hw1⟩ : ∃ w1 : World, w1 = w.alloc (.cells #[.int .u32 (wd f 0 : Nat), .int .u32 (wd f 1 : Nat), .int .u32 (wd f 2 : Nat), .int .u32 (wd f 3 : Nat)] 43) := ⟨_, rfl⟩
  have hs1 : w1.heap.size = w.heap.size + 1 := by rw [hw1]; simp
  have hb1 : Below w.heap.size w w1 := by rw [hw1]; exact (Below.refl _ _).alloc (Nat.le_refl _) _
  have hK1 : Aw w1 w.heap.size 4 (wd f) := by rw [hw1]; exact Aw.new w 4 (wd f) _
  obtain ⟨w2, hw2⟩ : ∃ w2 : World, w2 = w1.alloc (.cells (arL 256 bk).toArray 30) := ⟨_, rfl⟩
  have hs2 : w2.heap.size = w.heap.size + 2 := by rw [hw2]; simp [hs1]
  have hb2 : Below w.heap.size w w2 := by rw [hw2]; exact hb1.alloc (by omega) _
  have hL2 : Ar w2 (w.heap.size + 1) 256 bk := by rw [hw2, ← hs1]; exact Ar.new w1 256 bk _
  have hK2 : Aw w2 w.heap.size 4 (wd f) := by rw [hw2]; exact hK1.alloc (by omega) _
  obtain ⟨w3, hw3⟩ : ∃ w3 : World, w3 = w2.alloc (.cells #[.int .u32 0, .int .u32 0, .int .u32 0, .int .u32 0] 43) := ⟨_, rfl⟩
  have hb3 : Below w.heap.size w w3 := by rw [hw3]; exact hb2.alloc (by omega) _
  have hR3 : Aw w3 (w.heap.size + 2) 4 (fun _ => 0) := by rw [hw3, ← hs2]; exact Aw.new w2 4 (fun _ => 0) _
  have hL3 : Ar w3 (w.heap.size + 1) 256 bk := by rw [hw3]; exact hL2.alloc (by omega) _
  have hK3 : Aw w3 w.heap.size 4 (wd f) := by rw [hw3]; exact hK2.alloc (by omega) _
  rw [hkL] at hw2
  rw [hkL]
  clear hb1 hK1 hb2 hL2 hK2 hkL
  have hl := Lib.hid (fun i hi => wd_lt f i hf hi)
  have hst := Lib.hid (fun i hi => quad_us f i hf hi)
  clear hf
  go_enter Tryd.func36, Tryd.ntmps36
  go_upto_region 1 with fail
  rw [← hw1, ← hw2, ← hw3]
  clear hw1 hw2 hw3 hs1 hs2
  obtain ⟨gL, hgL⟩ : ∃ g : Nat, w.heap.size + 1 = g := ⟨_, rfl⟩
  obtain ⟨gR, hgR⟩ : ∃ g : Nat, w.heap.size + 2 = g := ⟨_, rfl⟩
  have hgR2 : w.heap.size + 1 + 1 = gR := hgR
  have hlL : w.heap.size < gL := by omega
  have hlR : gL < gR := by omega
  rw [hgL] at hL3
  rw [hgR] at hR3
  try rw [hgR2]
  try rw [hgR]
  try rw [hgL]
  clear hgL hgR hgR2
  go_wp2_with (refine wpList_load_aw rfl _ _ rfl _ _ _ rfl hK3 Tryd.arrCw (sizeCw _) ?_)
  rw [aw4]
  obtain ⟨kB, hkB⟩ : ∃ kB : Array Value, #[.int .u32 (wd f 0 : Nat), .int .u32 (wd f 1 : Nat), .int .u32 (wd f 2 : Nat), .int .u32 (wd f 3 : Nat)] = kB := ⟨_, rfl⟩
  have hget := Lib.hid (fun n (hn : n < 4) => show kB[n]? = some (.int .u32 (wd f n : Nat)) by rw [← hkB, ← aw4, List.getElem?_toArray]; exact awL_get 4 _ n hn)
  rw [hkB]
  go_loopw [8] (fun i wr => ∃ n : Nat, n ≤ 4 ∧ i = .int .i64 n ∧ Ar wr gL 256 bk ∧ Aw wr w.heap.size 4 (fun m => if m < n then wd (usF f) m else wd f m) ∧ Aw wr gR 4 (fun _ => 0) ∧ Below w.heap.size w wr) (fun i _ => 4 - (intOf i).toNat)
  case atStart => exact ⟨0, Nat.zero_le _, rfl, hL3, hK3.ext (fun _ _ => rfl), hR3, hb3⟩
  case round =>
    clear hK3 hL3 hR3 hb3
    obtain ⟨n, hn, rfl, hL, hK, hR, hB⟩ := hrel
    by_cases hlt : n < 4
    · have hix : ∀ V, (Instr.index 43 (.agg kB) (.int .i64 n)).run Tryd.prog V = .ok (.int .u32 (wd f n : Nat)) V := fun V =>
        run_index_arr Tryd.arrCw Tryd.underlying41 rfl (by kernel_rfl) kB n _ hlt (hget.out n hlt) V
      have l0 := hl.out n hlt
      have i1 : (n : Int) < 4 := by omega
      have k0 := Lib.hid (hst.out n hlt)
      obtain ⟨b0, b1, b2, b3, b4, b5, b6, b7⟩ := bytes_of (wd f n) l0
      go_upto_region 4 with fail
      have hBy := fun k => wb_lt (wd f n) k
      have l0 := hBy 0
      have l1 := hBy 1
      have l2 := hBy 2
      have l3 := hBy 3
      clear hBy b0 b2 b3 b4
      have HK0 := k0.out
      clear k0
      generalize wb (wd f n) 0 = y0 at *
      generalize wb (wd f n) 1 = y1 at *
      generalize wb (wd f n) 2 = y2 at *
      generalize wb (wd f n) 3 = y3 at *
      have k0 := Lib.hid HK0
      clear HK0
      have j0 : ((y0 : Nat) : Int) < 256 := by omega
      have j1 : ((y1 : Nat) : Int) < 256 := by omega
      have j2 : ((y2 : Nat) : Int) < 256 := by omega
      have j3 : ((y3 : Nat) : Int) < 256 := by omega
      have hKwr := hK
      clear hK
      have hKad := hKwr.drew
      refine wp_region_held_drew (S := fun W => Ar W gL 256 (bk) ∧ Aw W gR 4 (fun _ => 0) ∧ Below w.heap.size w W) (by kernel_rfl) ⟨hL.drew, hR.drew, hB.drew⟩ (fun hHeld => ?_)
      clear hL hR hB hKwr
      generalize World.drew wr = ad at *
      refine wpAnyH_take (i := 0) (v := ?va1) rfl (by kernel_rfl) (by kernel_rfl) (by kernel_rfl) (fun _ _ _ h => h) (Or.inl ⟨by rfl, ?hya1⟩) (by assumption) ?resta1
      case hya1 =>
        intro W hSw
        go_simp
        try with_reducible rfl
      simp only [Act.put, List.setIfInBounds_toArray, List.set_cons_zero, List.set_cons_succ, List.getElem_toArray, List.getElem_cons_zero]
      refine wpAnyH_take (i := 1) (v := ?va2) rfl (by kernel_rfl) (by kernel_rfl) (by kernel_rfl) (fun _ _ _ h => h) (Or.inl ⟨by rfl, ?hya2⟩) (by assumption) ?resta2
      case hya2 =>
        intro W hSw
        go_simp
        try with_reducible rfl
      simp only [Act.put, List.setIfInBounds_toArray, List.set_cons_zero, List.set_cons_succ, List.getElem_toArray, List.getElem_cons_zero, List.getElem_cons_succ]
      refine wpAnyH_take (i := 2) (v := ?va3) rfl (by kernel_rfl) (by kernel_rfl) (by kernel_rfl) (fun _ _ _ h => h) (Or.inl ⟨by rfl, ?hya3⟩) (by assumption) ?resta3
      case hya3 =>
        intro W hSw
        go_simp
        try with_reducible rfl
      simp only [Act.put, List.setIfInBounds_toArray, List.set_cons_zero, List.set_cons_succ, List.getElem_toArray, List.getElem_cons_zero, List.getElem_cons_succ]
      refine wpAnyH_take (i := 3) (v := ?va4) rfl (by kernel_rfl) (by kernel_rfl) (by kernel_rfl) (fun _ _ _ h => h) (Or.inl ⟨by rfl, ?hya4⟩) (by assumption) ?resta4
      case hya4 =>
        intro W hSw
        go_simp
        try with_reducible rfl
      simp only [Act.put, List.setIfInBounds_toArray, List.set_cons_zero, List.set_cons_succ, List.getElem_toArray, List.getElem_cons_zero, List.getElem_cons_succ]
      refine wpAnyH_take (i := 4) (v := ?va5) rfl (by kernel_rfl) (by kernel_rfl) (by kernel_rfl) (fun _ _ _ h => h) (Or.inl ⟨by rfl, ?hya5⟩) (by assumption) ?resta5
      case hya5 =>
        intro W hSw
        obtain ⟨c, _⟩ := hSw.1 y0 l0
        go_simp
        try with_reducible rfl
      simp only [Act.put, List.setIfInBounds_toArray, List.set_cons_zero, List.set_cons_succ, List.getElem_toArray, List.getElem_cons_zero, List.getElem_cons_succ]
      refine wpAnyH_take (i := 5) (v := ?va6) rfl (by kernel_rfl) (by kernel_rfl) (by kernel_rfl) (fun _ _ _ h => h) (Or.inl ⟨by rfl, ?hya6⟩) (by assumption) ?resta6
      case hya6 =>
        intro W hSw
        go_simp
        try with_reducible rfl
      simp only [Act.put, List.setIfInBounds_toArray, List.set_cons_zero, List.set_cons_succ, List.getElem_toArray, List.getElem_cons_zero, List.getElem_cons_succ]
      refine wpAnyH_take (i := 6) (v := ?va7) rfl (by kernel_rfl) (by kernel_rfl) (by kernel_rfl) (fun _ _ _ h => h) (Or.inl ⟨by rfl, ?hya7⟩) (by assumption) ?resta7
      case hya7 =>
        intro W hSw
        go_simp
        try with_reducible rfl
      simp only [Act.put, List.setIfInBounds_toArray, List.set_cons_zero, List.set_cons_succ, List.getElem_toArray, List.getElem_cons_zero, List.getElem_cons_succ]
      refine wpAnyH_take (i := 7) (v := ?va8) rfl (by kernel_rfl) (by kernel_rfl) (by kernel_rfl) (fun _ _ _ h => h) (Or.inl ⟨by rfl, ?hya8⟩) (by assumption) ?resta8
      case hya8 =>
        intro W hSw
        go_simp
        try with_reducible rfl
      simp only [Act.put, List.setIfInBounds_toArray, List.set_cons_zero, List.set_cons_succ, List.getElem_toArray, List.getElem_cons_zero, List.getElem_cons_succ]
      refine wpAnyH_take (i := 8) (v := ?va9) rfl (by kernel_rfl) (by kernel_rfl) (by kernel_rfl) (fun _ _ _ h => h) (Or.inl ⟨by rfl, ?hya9⟩) (by assumption) ?resta9
      case hya9 =>
        intro W hSw
        go_simp
        try with_reducible rfl
      simp only [Act.put, List.setIfInBounds_toArray, List.set_cons_zero, List.set_cons_succ, List.getElem_toArray, List.getElem_cons_zero, List.getElem_cons_succ]
      refine wpAnyH_take (i := 9) (v := ?va10) rfl (by kernel_rfl) (by kernel_rfl) (by kernel_rfl) (fun _ _ _ h => h) (Or.inl ⟨by rfl, ?hya10⟩) (by assumption) ?resta10
      case hya10 =>
        intro W hSw
        obtain ⟨c, _⟩ := hSw.1 y1 l1
        go_simp
        try with_reducible rfl
      simp only [Act.put, List.setIfInBounds_toArray, List.set_cons_zero, List.set_cons_succ, List.getElem_toArray, List.getElem_cons_zero, List.getElem_cons_succ]
      refine wpAnyH_take (i := 10) (v := ?va11) rfl (by kernel_rfl) (by kernel_rfl) (by kernel_rfl) (fun _ _ _ h => h) (Or.inl ⟨by rfl, ?hya11⟩) (by assumption) ?resta11
      case hya11 =>
        intro W hSw
        go_simp
        try with_reducible rfl
      simp only [Act.put, List.setIfInBounds_toArray, List.set_cons_zero, List.set_cons_succ, List.getElem_toArray, List.getElem_cons_zero, List.getElem_cons_succ]
      refine wpAnyH_take (i := 11) (v := ?va12) rfl (by kernel_rfl) (by kernel_rfl) (by kernel_rfl) (fun _ _ _ h => h) (Or.inl ⟨by rfl, ?hya12⟩) (by assumption) ?resta12
      case hya12 =>
        intro W hSw
        go_simp
        try with_reducible rfl
      simp only [Act.put, List.setIfInBounds_toArray, List.set_cons_zero, List.set_cons_succ, List.getElem_toArray, List.getElem_cons_zero, List.getElem_cons_succ]
      refine wpAnyH_take (i := 12) (v := ?va13) rfl (by kernel_rfl) (by kernel_rfl) (by kernel_rfl) (fun _ _ _ h => h) (Or.inl ⟨by rfl, ?hya13⟩) (by assumption) ?resta13
      case hya13 =>
        intro W hSw
        go_simp
        try with_reducible rfl
      simp only [Act.put, List.setIfInBounds_toArray, List.set_cons_zero, List.set_cons_succ, List.getElem_toArray, List.getElem_cons_zero, List.getElem_cons_succ]
      refine wpAnyH_take (i := 13) (v := ?va14) rfl (by kernel_rfl) (by kernel_rfl) (by kernel_rfl) (fun _ _ _ h => h) (Or.inl ⟨by rfl, ?hya14⟩) (by assumption) ?resta14
      case hya14 =>
        intro W hSw
        go_simp
        try with_reducible rfl
      simp only [Act.put, List.setIfInBounds_toArray, List.set_cons_zero, List.set_cons_succ, List.getElem_toArray, List.getElem_cons_zero, List.getElem_cons_succ]
      refine wpAnyH_take (i := 14) (v := ?va15) rfl (by kernel_rfl) (by kernel_rfl) (by kernel_rfl) (fun _ _ _ h => h) (Or.inl ⟨by rfl, ?hya15⟩) (by assumption) ?resta15
      case hya15 =>
        intro W hSw
        obtain ⟨c, _⟩ := hSw.1 y2 l2
        go_simp
        try with_reducible rfl
      simp only [Act.put, List.setIfInBounds_toArray, List.set_cons_zero, List.set_cons_succ, List.getElem_toArray, List.getElem_cons_zero, List.getElem_cons_succ]
      refine wpAnyH_take (i := 15) (v := ?va16) rfl (by kernel_rfl) (by kernel_rfl) (by kernel_rfl) (fun _ _ _ h => h) (Or.inl ⟨by rfl, ?hya16⟩) (by assumption) ?resta16
      case hya16 =>
        intro W hSw
        go_simp
        try with_reducible rfl
      simp only [Act.put, List.setIfInBounds_toArray, List.set_cons_zero, List.set_cons_succ, List.getElem_toArray, List.getElem_cons_zero, List.getElem_cons_succ]
      refine wpAnyH_take (i := 16) (v := ?va17) rfl (by kernel_rfl) (by kernel_rfl) (by kernel_rfl) (fun _ _ _ h => h) (Or.inl ⟨by rfl, ?hya17⟩) (by assumption) ?resta17
      case hya17 =>
        intro W hSw
        go_simp
        try with_reducible rfl
      simp only [Act.put, List.setIfInBounds_toArray, List.set_cons_zero, List.set_cons_succ, List.getElem_toArray, List.getElem_cons_zero, List.getElem_cons_succ]
      refine wpAnyH_take (i := 17) (v := ?va18) rfl (by kernel_rfl) (by kernel_rfl) (by kernel_rfl) (fun _ _ _ h => h) (Or.inl ⟨by rfl, ?hya18⟩) (by assumption) ?resta18
      case hya18 =>
        intro W hSw
        go_simp
        try with_reducible rfl
      simp only [Act.put, List.setIfInBounds_toArray, List.set_cons_zero, List.set_cons_succ, List.getElem_toArray, List.getElem_cons_zero, List.getElem_cons_succ]
      refine wpAnyH_take (i := 18) (v := ?va19) rfl (by kernel_rfl) (by kernel_rfl) (by kernel_rfl) (fun _ _ _ h => h) (Or.inl ⟨by rfl, ?hya19⟩) (by assumption) ?resta19
      case hya19 =>
        intro W hSw
        obtain ⟨c, _⟩ := hSw.1 y3 l3
        go_simp
        try with_reducible rfl
      simp only [Act.put, List.setIfInBounds_toArray, List.set_cons_zero, List.set_cons_succ, List.getElem_toArray, List.getElem_cons_zero, List.getElem_cons_succ]
      refine wpAnyH_ready (rs := [19]) (by kernel_rfl) (by simp) ?_
      refine AllReadyH.cons rfl (fun K hK => ?_) AllReadyH.nil
      go_simp
      refine (fstand (bk y0) (bk y1) (bk y2) (bk y3) _ (bk_lt _ l0) (bk_lt _ l1) (bk_lt _ l2) (bk_lt _ l3)).mono ?_
      rintro e a20 ⟨rfl, rfl⟩
      rw [k0.out]
      go_wp2_with fail
      have hKa20 := hKad
      refine hK.out _ _ hHeld (fun hHeld2 => ?_)
      clear hK K hHeld hKad
      have hHeld := hHeld2
      clear hHeld2
      try simp only [Act.put, List.setIfInBounds_toArray, List.set_cons_zero, List.set_cons_succ, List.getElem_toArray, List.getElem_cons_zero, List.getElem_cons_succ]
      refine wpAnyH_take (i := 20) (v := ?va21) rfl (by kernel_rfl) (by kernel_rfl) (by kernel_rfl) (fun _ _ _ h => h) (Or.inl ⟨by rfl, ?hya21⟩) (by assumption) ?resta21
      case hya21 =>
        intro W hSw
        go_simp
        try with_reducible rfl
      simp only [Act.put, List.setIfInBounds_toArray, List.set_cons_zero, List.set_cons_succ, List.getElem_toArray, List.getElem_cons_zero, List.getElem_cons_succ]
      refine wpAnyH_ready (rs := [21]) (by kernel_rfl) (by simp) ?_
      refine AllReadyH.cons rfl (fun K hK => ?_) AllReadyH.nil
      obtain ⟨ca22, da22⟩ := hKa20 n hlt
      go_simp
      have hKa22 := (hKa20.set (j := n) (v := wd (usF f) n) hlt rfl)
      have hSa22 := show Ar (World.setCell a20 ⟨w.heap.size, n, none⟩ (.int .u32 (wd (usF f) n : Nat))) gL 256 (bk) ∧ Aw (World.setCell a20 ⟨w.heap.size, n, none⟩ (.int .u32 (wd (usF f) n : Nat))) gR 4 (fun _ => 0) ∧ Below w.heap.size w (World.setCell a20 ⟨w.heap.size, n, none⟩ (.int .u32 (wd (usF f) n : Nat))) from ⟨(hHeld.1).far (p := ⟨w.heap.size, n, none⟩) (by simp; omega) (.int .u32 (wd (usF f) n : Nat)), (hHeld.2.1).far (p := ⟨w.heap.size, n, none⟩) (by simp; omega) (.int .u32 (wd (usF f) n : Nat)), (hHeld.2.2).setCell (p := ⟨w.heap.size, n, none⟩) (by simp) (.int .u32 (wd (usF f) n : Nat))⟩
      generalize World.setCell a20 ⟨w.heap.size, n, none⟩ (.int .u32 (wd (usF f) n : Nat)) = a22 at *
      refine hK.out _ _ hSa22 (fun hHeld2 => ?_)
      clear hK K hHeld hSa22 ca22 da22 hKa20
      have hHeld := hHeld2
      clear hHeld2
      try simp only [Act.put]
      refine wpAnyH_done (by kernel_rfl) ?_ _
      obtain ⟨hL9, hR9, hB9⟩ := hHeld
      have hK9 := hKa22
      go_wp2_with fail
      go_roundw
      case rel => exact ⟨n + 1, by omega, by go_num, hL9, hK9.ext (fun m _ => low_up (wd f) (wd (usF f)) n m), hR9, hB9⟩
      case measure => simp [intOf]; omega
    · obtain rfl : n = 4 := by omega
      have hK8 := hK.ext (f' := wd (usF f)) (fun j hj => by rw [if_pos hj])
      clear hK
      go_wp2_with (first
        | (refine wpList_load_aw rfl _ _ rfl _ _ _ rfl hK8 Tryd.arrCw (sizeCw _) ?_)
        | (refine wpList_store_aw rfl _ _ _ rfl _ _ _ (wd (usF f)) rfl rfl hR (sizeCw _) ?_; intro w8 hA8 hb8 _ _))
      refine bodyPost_ret_aw rfl rfl hA8 Tryd.arrCw (sizeCw _) rfl ⟨rfl, ?_⟩
      exact hB.trans (hb8.mono (by omega))
end Go.Proofs.YtejgeefhnpeejaaDoor
