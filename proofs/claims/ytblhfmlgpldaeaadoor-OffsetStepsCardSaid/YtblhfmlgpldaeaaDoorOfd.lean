/-
  Contracts of package offset, by walks through its texts: over any value that stands for a Table of a key (one that New has made, or nil); what was there stays as it was.
-/
import Derived.Test.YtblhfmlgpldaeaaDoorOfc
import Derived.Test.YtblhfmlgpldaeaaDoorOfb
import Derived.Test.YtblhfmlgpldaeaaDoorTbw
import Derived.Test.YtblhfmlgpldaeaaDoorBka
import Derived.Lib.MinMax
namespace Go.Proofs.YtblhfmlgpldaeaaDoor
open Go.RowKit
set_option linter.unusedVariables false
set_option maxRecDepth 100000

/-- A value that stands for a Table of the key f, in whatever later world. -/
def TabC (w : World) (v : Value) (f : Nat → Nat) : Prop :=
  ∃ p, TabV w v p (enF f zF) ∧ CipV w (.pointer p) f ∧ ∀ V, Below w.heap.size w V → Calls Tryd.prog 34 #[v] V fun e V' => e = .returned (.pointer p) ∧ Below V.heap.size V V'
theorem TabC.to {w w' : World} {v : Value} {f : Nat → Nat} (h : TabC w v f) (hb : Below w.heap.size w w') : TabC w' v f := by
  obtain ⟨p, h1, h2, h3⟩ := h
  exact ⟨p, h1.to hb, h2.to hb, fun V hV => h3 V (hb.trans (hV.mono hb.size))⟩
theorem tabc_made (g : Nat) (p : Option Addr) (f : Nat → Nat) (w : World) (h : Ti w g p (enF f zF)) (hc : CipV w (.pointer p) f) : TabC w (.pointer (some ⟨g, 0, none⟩)) f :=
  ⟨p, tab_made g p _ w h, hc, fun V hV => tcip g p _ V (h.to hV)⟩
theorem tabc_nil (w : World) (h : Boxes w) : TabC w (.pointer none) zF := ⟨none, tab_nil w h, exp_nil w h, fun V _ => tcip_nil V⟩
theorem run_e3 (w : World) : (Instr.build 22 #[(3, .int .u8 1)]).run Tryd.prog w = .ok (.agg (arL 16 fun i => if i = 3 then 1 else 0).toArray) w := run_build w _ _ _ (by kernel_rfl)
theorem slice4 (g : Nat) (w : World) : (Instr.sliceAt 22 (.pointer (some ⟨g, 0, none⟩)) (some (.int .i64 4)) none none).run Tryd.prog w = .ok (.slice (some ⟨g, 4, none⟩) 12 12) w := by
  have hal : Tryd.prog.arrayLen 22 = 16 := by simp [Program.arrayLen]
  have hel : Tryd.prog.elem 22 = 5 := by simp [Program.elem]
  have hs : (sizeOf 5).run Tryd.prog w = .ok 1 w := by kernel_rfl
  rw [run_sliceAt_array_l w 22 ⟨g, 0, none⟩ (by rw [hal, hel]; exact Tryd.arr16x) .i64 4 (by omega) (by rw [hal]; omega), hal, hel, hs]
  simp [Result.andThen_ok, slicedAt, Addr.add]

set_option maxHeartbeats 1600000 in
theorem otop (v : Value) (f n : Nat → Nat) (w : World) (hf : B16 f) (hn : B12 n) (ht : TabC w v f) (hx : Boxes w) :
    Calls Tryd.prog 14 #[v, .agg (arL 12 n).toArray] w fun e w' => e = .returned (.agg (arL 16 (enF f (nbF n))).toArray) ∧ Below w.heap.size w w' := by
  obtain ⟨kK, hkK⟩ : ∃ k : Array Value, (arL 12 (n)).toArray = k := ⟨_, rfl⟩
  obtain ⟨w1, hw1⟩ : ∃ V : World, V = w.alloc (.cells (arL 12 (n)).toArray 23) := ⟨_, rfl⟩
  have hs1 : w1.heap.size = w.heap.size + 1 := by rw [hw1]; simp
  have hBw1 : Below w.heap.size w w1 := by rw [hw1]; exact (Below.refl _ _).alloc (Nat.le_refl _) _
  have hKw1 : Ar w1 w.heap.size 12 (n) := by rw [hw1]; exact Ar.new w 12 _ _
  obtain ⟨w2, hw2⟩ : ∃ V : World, V = w1.alloc (.cells (arL 16 (fun _ => 0)).toArray 22) := ⟨_, rfl⟩
  have hs2 : w2.heap.size = w.heap.size + 2 := by rw [hw2]; simp [hs1]
  have hBw2 : Below w.heap.size w w2 := by rw [hw2]; exact hBw1.alloc (by omega) _
  have hKw2 := hKw1.alloc (by omega) (.cells (arL 16 (fun _ => 0)).toArray 22)
  rw [← hw2] at hKw2
  have hRw2 : Ar w2 (w.heap.size + 1) 16 (fun _ => 0) := by rw [hw2, ← hs1]; exact Ar.new w1 16 _ _
  clear hKw1 hBw1
  have HKK := Lib.hid hkK
  rw [hkK] at hw1
  rw [hkK]
  clear hkK
  have hz := zero16b
  have HF := Lib.hid hf
  have HN := Lib.hid hn
  have HX := Lib.hid hx
  obtain ⟨p, hV, hC, hcip⟩ := ht
  have HC := Lib.hid hC
  have HCIP := Lib.hid hcip
  have r3 := Lib.hid run_e3
  have hbx := hn 11 (by omega)
  clear hf hn hx hV hC hcip
  have HFR := Lib.hid (show splice (arL 16 fun i => if i = 3 then 1 else 0) 4 (arL 12 (lowF n)) = arL 16 (nbF n) by
    rw [splice_ar 16 12 _ _ 4 (by omega)]
    exact arL_ext (fun j hj => rfl))
  go_enter Tryd.func14, Tryd.ntmps14
  go_upto_region 1 with fail
  rw [← hw1, ← hw2]
  clear hw1 hw2
  try simp only [Nat.add_assoc, Nat.reduceAdd]
  obtain ⟨gR, hgR⟩ : ∃ g : Nat, w.heap.size + 1 = g := ⟨_, rfl⟩
  rw [hgR] at hRw2
  try rw [hgR]
  have hlR : w.heap.size < gR := by omega
  clear hs1 hs2 hgR
  have c11 := (hKw2 11 (by omega)).1
  have f11 := (hKw2 11 (by omega)).2
  have h1 := not_low _ hbx
  have hK4 := (hKw2.set (j := 11) (v := n 11 / 64 * 64) (by omega) rfl).ext (f' := lowF n) (fun j _ => rfl)
  have hR4 := hRw2.far (p := ⟨w.heap.size, 11, none⟩) (by simp; omega) (.int .u8 (n 11 / 64 * 64 : Nat))
  have hB4 := hBw2.setCell (p := ⟨w.heap.size, 11, none⟩) (by simp) (.int .u8 (n 11 / 64 * 64 : Nat))
  clear hKw2 hRw2 hBw2
  generalize n 11 / 64 * 64 = z at *
  generalize n 11 = x at *
  go_upto_region 2 with fail
  generalize World.setCell w2 ⟨w.heap.size, 11, none⟩ (.int .u8 (z : Nat)) = w4 at *
  clear c11 f11 h1 hbx
  obtain ⟨gC, hgC⟩ : ∃ g : Nat, w4.heap.size = g := ⟨_, rfl⟩
  have hlC : gR < gC := by rw [← hgC]; exact hR4.lt (by omega)
  obtain ⟨w5, hw5⟩ : ∃ V : World, V = w4.alloc (.cells (arL 16 fun _ => 0).toArray 22) := ⟨_, rfl⟩
  have hC5 : Wb w5 gC 16 (fun _ => 0) 22 := by rw [hw5, ← hgC]; exact Wb.new w4 16 _ _
  have hK5 : Ar w5 w.heap.size 12 (lowF n) := by rw [hw5]; exact hK4.alloc (by omega) _
  have hR5 : Ar w5 gR 16 (fun _ => 0) := by rw [hw5]; exact hR4.alloc (by omega) _
  have hB5 : Below w.heap.size w w5 := by rw [hw5]; exact hB4.alloc hB4.size _
  clear hK4 hR4 hB4
  go_upto_region 3 with (first | (refine wpList_build_by rfl _ _ rfl [(3, .int .u8 1)] rfl _ (r3.out _) ?_) | (refine wpList_store_wb rfl _ _ _ rfl _ _ _ (fun i => if i = 3 then 1 else 0) 22 rfl rfl (by rw [← hw5]; exact hC5) (size16b _) ?_; intro w6 hC6 bel siz kee) | fail)
  rw [← hw5] at bel siz kee
  try rw [hgC]
  have hK6 := hK5.keep (by omega) bel
  have hR6 := hR5.keep hlC bel
  have hB6 := hB5.trans (bel.mono (by omega))
  clear hK5 hR5 hB5 hC5 bel siz kee hw5 hgC
  try dsimp only [Act.put]
  have hsrc := Lib.hid hK6.drew.src
  have HW := Lib.hid (show w6.drew.heap[gC]? = some (.cells (arL 16 fun i => if i = 3 then 1 else 0).toArray 22 (0, 0)) from hC6)
  have HMi := Lib.hid (show (arL 12 (lowF n)).length = Nat.min 12 12 by rw [arL_len]; rfl)
  have HFi := Lib.hid (show 4 + (arL 12 (lowF n)).length ≤ (arL 16 fun i => if i = 3 then 1 else 0).length by rw [arL_len, arL_len]; omega)
  have hsl := slice4
  have hlen : (((arL 12 (lowF n)).length : Nat) : Int) = 12 := by rw [arL_len]; rfl
  go_region_law (refine step_copy_splice rfl (.tmp 11) (.tmp 12) 66 66 rfl 5 Tryd.sl8 Tryd.sz8 _ _ _ _ _ _ rfl rfl gC 4 (arL 16 fun i => if i = 3 then 1 else 0) 22 HW.out (arL 12 (lowF n)) HMi.out (fun _ => ⟨rfl, ⟨w.heap.size, 0, none⟩, rfl, hsrc.out⟩) HFi.out (arL_one 12 _) gC w6.drew (Below.refl _ _) (Nat.le_refl _) ?_; intro w7 hW7 hb7)
  have hC7 : Ar w7 gC 16 (nbF n) := by
    have h := hW7.out
    rw [HFR.out] at h
    exact Wb.ar (show Wb w7 gC 16 _ _ from h)
  have hR7 := hR6.drew.keep hlC hb7
  have hB7 := hB6.drew.trans (hb7.mono (by omega))
  clear hK6 hR6 hB6 hC6 hb7 hW7 HW hsrc HMi HFi HFR hsl hlen
  try dsimp only [Act.put]
  go_upto_region 4 with fail
  have hRw7 := hR7
  clear hR7
  refine wp_region_noPanic ?_
  have hRad := hRw7.drew
  refine wp_region_held_drew (S := fun W => Ar W gC 16 (nbF n) ∧ Below w.heap.size w W) (by kernel_rfl) ⟨hC7.drew, hB7.drew⟩ (fun hHeld => ?_)
  clear hC7 hB7 hRw7
  generalize World.drew w7 = ad at *
  refine wpAnyH_take (i := 0) (v := ?va1) rfl (by kernel_rfl) (by kernel_rfl) (by kernel_rfl) (fun _ _ _ h => h) (Or.inl ⟨by rfl, ?hya1⟩) (by assumption) ?resta1
  case hya1 =>
    intro W hSw
    go_simp
    try with_reducible rfl
  simp only [Act.put, List.setIfInBounds_toArray, List.set_cons_zero, List.set_cons_succ, List.getElem_toArray, List.getElem_cons_zero]
  refine wpAnyH_take (i := 2) (v := .agg (arL 16 (nbF n)).toArray) rfl (by kernel_rfl) (by kernel_rfl) (by kernel_rfl) (fun _ _ _ h => h) (yieldsIf_load_mid (by rfl) _ _ rfl gC (0) rfl (arL 16 (nbF n)) _ (fun W hSw => hSw.1.range) Tryd.arr16b rfl (size16b _)) (by assumption) ?_
  simp only [Act.put, List.setIfInBounds_toArray, List.set_cons_zero, List.set_cons_succ, List.getElem_toArray, List.getElem_cons_zero, List.getElem_cons_succ]
  refine wpAnyH_ready (rs := [1]) (by kernel_rfl) (by simp) ?_
  refine AllReadyH.cons rfl (fun K hK => ?_) AllReadyH.nil
  go_simp
  refine (HCIP.out _ (hHeld.2)).mono ?_
  rintro e a2 ⟨rfl, hq⟩
  go_wp2_with fail
  have hRa2 := (hRad).to (by omega) hq
  refine hK.out _ _ ⟨(hHeld.1).to (by omega) hq, (hHeld.2).trans (hq.mono (hHeld.2).size)⟩ (fun hHeld2 => ?_)
  clear hK K hHeld hq hRad
  have hHeld := hHeld2
  clear hHeld2
  try simp only [Act.put, List.setIfInBounds_toArray, List.set_cons_zero, List.set_cons_succ, List.getElem_toArray, List.getElem_cons_zero, List.getElem_cons_succ]
  refine wpAnyH_ready (rs := [3]) (by kernel_rfl) (by simp) ?_
  refine AllReadyH.cons rfl (fun K hK => ?_) AllReadyH.nil
  go_simp
  refine (fencrypt (.pointer p) f (nbF n) _ HF.out (nbF_lt HN.out) (HC.out.to (hHeld.2)) (HX.out.keep (hHeld.2))).mono ?_
  rintro e a3 ⟨rfl, hq⟩
  go_wp2_with fail
  have hRa3 := (hRa2).to (by omega) hq
  refine hK.out _ _ ⟨(hHeld.1).to (by omega) hq, (hHeld.2).trans (hq.mono (hHeld.2).size)⟩ (fun hHeld2 => ?_)
  clear hK K hHeld hq hRa2
  have hHeld := hHeld2
  clear hHeld2
  try simp only [Act.put, List.setIfInBounds_toArray, List.set_cons_zero, List.set_cons_succ, List.getElem_toArray, List.getElem_cons_zero, List.getElem_cons_succ]
  refine wpAnyH_ready (rs := [4]) (by kernel_rfl) (by simp) ?_
  refine AllReadyH.cons rfl (fun K hK => ?_) AllReadyH.nil
  rw [if_pos (by rfl)]
  refine wp_store_mid _ _ _ rfl gR 0 (arL 16 (enF f (nbF n))).toArray rfl rfl hRa3.there (size16b _) (all_oneCell_toArray (arL_one 16 (enF f (nbF n)))) ?_
  have hRa4 := hRa3.whole (enF f (nbF n))
  have hSa4 := show Ar (World.setCells a3 gR 0 (arL 16 (enF f (nbF n)))) gC 16 (nbF n) ∧ Below w.heap.size w (World.setCells a3 gR 0 (arL 16 (enF f (nbF n)))) from ⟨(hHeld.1).apart (b := gR) (by omega) (arL 16 (enF f (nbF n))) 0, (hHeld.2).trans (Below.setCells (Below.refl w.heap.size _) (b := gR) (by omega) (arL 16 (enF f (nbF n))) 0)⟩
  dsimp only [List.toList_toArray]
  generalize World.setCells a3 gR 0 (arL 16 (enF f (nbF n))) = a4 at *
  refine hK.out _ _ hSa4 (fun hHeld2 => ?_)
  clear hK K hHeld hSa4 hRa3
  have hHeld := hHeld2
  clear hHeld2
  try simp only [Act.put]
  refine wpAnyH_done (by kernel_rfl) ?_ _
  have hR9 := hRa4
  have hB9 := hHeld.2
  clear hHeld hRa4
  refine NoPanic.normal ?_
  go_wp2_with fail
  refine bodyPost_ret_ar rfl rfl hR9 Tryd.arr16b (size16b _) rfl ⟨rfl, hB9⟩

theorem clampN_in (m : Nat) (h : m ≤ 64) : clampN (m : Int) = m := by unfold clampN; omega
theorem oshift (t : Nat → Nat) (b : Nat) (w : World) (ht : B16 t) :
    Calls Tryd.prog 36 #[.agg (arL 24 (stF t)).toArray, .int .i64 (b % 64 : Nat)] w fun e w' => e = .returned (.agg (arL 16 (o0F t b)).toArray) ∧ Below w.heap.size w w' := by
  have h := bshift (stF t) (b % 64 : Nat) w (stF_lt ht)
  rw [clampN_in _ (by omega)] at h
  exact h
theorem atI_lt {s : Nat → Nat} (h : B16 s) (i : Int) : B16 (atI s i) := fun j hj => by
  unfold atI
  split
  · exact dk_lt h _ j hj
  · exact Nat.zero_lt_of_lt (show 0 < 256 by decide)
theorem oodd (x : Nat) (w : World) (h : x < 18446744073709551616) :
    Calls Tryd.prog 37 #[.int .u64 x] w fun e w' => e = .returned (.int .u64 (x ^^^ x / 2 : Nat)) ∧ w' = w := by
  have h2 : x / 2 < 18446744073709551616 := by omega
  have hxx : bits BinOp.xor IntKind.u64 (x : Int) ((x / 2 : Nat) : Int) = ((x ^^^ x / 2 : Nat) : Int) := bits_xor_nat .u64 64 (by decide) wraps_u64' _ _ h h2
  have hd : (x : Int) / 2 = ((x / 2 : Nat) : Int) := by omega
  have hl : x ^^^ x / 2 < 18446744073709551616 := Nat.xor_lt_two_pow (n := 64) h h2
  generalize x ^^^ x / 2 = z at *
  generalize x / 2 = y at *
  go_enter Tryd.func37, Tryd.ntmps37
  go_wp2_with fail
  go_ret
  exact ⟨rfl, rfl⟩

set_option maxHeartbeats 1600000 in
theorem ostart (v : Value) (f n : Nat → Nat) (w : World) (hf : B16 f) (hn : B12 n) (ht : TabC w v f) (hx : Boxes w) :
    Calls Tryd.prog 16 #[v, .agg (arL 12 n).toArray] w fun e w' => e = .returned (.agg (arL 16 (o0F (enF f (nbF n)) (n 11))).toArray) ∧ Below w.heap.size w w' := by
  obtain ⟨kK, hkK⟩ : ∃ k : Array Value, (arL 12 (n)).toArray = k := ⟨_, rfl⟩
  obtain ⟨w1, hw1⟩ : ∃ V : World, V = w.alloc (.cells (arL 12 (n)).toArray 23) := ⟨_, rfl⟩
  have hs1 : w1.heap.size = w.heap.size + 1 := by rw [hw1]; simp
  have hBw1 : Below w.heap.size w w1 := by rw [hw1]; exact (Below.refl _ _).alloc (Nat.le_refl _) _
  have hKw1 : Ar w1 w.heap.size 12 (n) := by rw [hw1]; exact Ar.new w 12 _ _
  obtain ⟨w2, hw2⟩ : ∃ V : World, V = w1.alloc (.cells (arL 16 (fun _ => 0)).toArray 22) := ⟨_, rfl⟩
  have hs2 : w2.heap.size = w.heap.size + 2 := by rw [hw2]; simp [hs1]
  have hBw2 : Below w.heap.size w w2 := by rw [hw2]; exact hBw1.alloc (by omega) _
  have hKw2 := hKw1.alloc (by omega) (.cells (arL 16 (fun _ => 0)).toArray 22)
  rw [← hw2] at hKw2
  have hRw2 : Ar w2 (w.heap.size + 1) 16 (fun _ => 0) := by rw [hw2, ← hs1]; exact Ar.new w1 16 _ _
  clear hKw1 hBw1
  have HKK := Lib.hid hkK
  rw [hkK] at hw1
  rw [hkK]
  clear hkK
  have hz := zero16b
  have HF := Lib.hid hf
  have HN := Lib.hid hn
  have HX := Lib.hid hx
  have HT := Lib.hid ht
  have HTL := Lib.hid (show B16 (enF f (nbF n)) from enR_lt hf (nbF_lt hn) 10)
  clear hf hn hx ht
  go_enter Tryd.func16, Tryd.ntmps16
  go_upto_region 1 with fail
  rw [← hw1, ← hw2]
  clear hw1 hw2
  try simp only [Nat.add_assoc, Nat.reduceAdd]
  obtain ⟨gR, hgR⟩ : ∃ g : Nat, w.heap.size + 1 = g := ⟨_, rfl⟩
  rw [hgR] at hRw2
  try rw [hgR]
  have hlR : w.heap.size < gR := by omega
  clear hs1 hs2 hgR
  refine wp_region_noPanic ?_
  have hRad := hRw2.drew
  refine wp_region_held_drew (S := fun W => Ar W w.heap.size 12 (n) ∧ Below w.heap.size w W) (by kernel_rfl) ⟨hKw2.drew, hBw2.drew⟩ (fun hHeld => ?_)
  clear hKw2 hBw2 hRw2
  generalize World.drew w2 = ad at *
  refine wpAnyH_take (i := 0) (v := ?va1) rfl (by kernel_rfl) (by kernel_rfl) (by kernel_rfl) (fun _ _ _ h => h) (Or.inl ⟨by rfl, ?hya1⟩) (by assumption) ?resta1
  case hya1 =>
    intro W hSw
    go_simp
    try with_reducible rfl
  simp only [Act.put, List.setIfInBounds_toArray, List.set_cons_zero, List.set_cons_succ, List.getElem_toArray, List.getElem_cons_zero]
  refine wpAnyH_take (i := 1) (v := .agg (arL 12 (n)).toArray) rfl (by kernel_rfl) (by kernel_rfl) (by kernel_rfl) (fun _ _ _ h => h) (yieldsIf_load_mid (by rfl) _ _ rfl w.heap.size (0) rfl (arL 12 (n)) _ (fun W hSw => hSw.1.range) Tryd.arr12 rfl (size12 _)) (by assumption) ?_
  simp only [Act.put, List.setIfInBounds_toArray, List.set_cons_zero, List.set_cons_succ, List.getElem_toArray, List.getElem_cons_zero, List.getElem_cons_succ]
  refine wpAnyH_take (i := 4) (v := .agg (arL 12 (n)).toArray) rfl (by kernel_rfl) (by kernel_rfl) (by kernel_rfl) (fun _ _ _ h => h) (yieldsIf_load_mid (by rfl) _ _ rfl w.heap.size (0) rfl (arL 12 (n)) _ (fun W hSw => hSw.1.range) Tryd.arr12 rfl (size12 _)) (by assumption) ?_
  simp only [Act.put, List.setIfInBounds_toArray, List.set_cons_zero, List.set_cons_succ, List.getElem_toArray, List.getElem_cons_zero, List.getElem_cons_succ]
  refine wpAnyH_ready (rs := [2]) (by kernel_rfl) (by simp) ?_
  refine AllReadyH.cons rfl (fun K hK => ?_) AllReadyH.nil
  go_simp
  refine (otop v f n _ HF.out HN.out (HT.out.to (hHeld.2)) (HX.out.keep (hHeld.2))).mono ?_
  rintro e a2 ⟨rfl, hq⟩
  go_wp2_with fail
  have hRa2 := (hRad).to (by omega) hq
  refine hK.out _ _ ⟨(hHeld.1).to (by omega) hq, (hHeld.2).trans (hq.mono (hHeld.2).size)⟩ (fun hHeld2 => ?_)
  clear hK K hHeld hq hRad
  have hHeld := hHeld2
  clear hHeld2
  try simp only [Act.put, List.setIfInBounds_toArray, List.set_cons_zero, List.set_cons_succ, List.getElem_toArray, List.getElem_cons_zero, List.getElem_cons_succ]
  refine wpAnyH_ready (rs := [3]) (by kernel_rfl) (by simp) ?_
  refine AllReadyH.cons rfl (fun K hK => ?_) AllReadyH.nil
  go_simp
  refine (ostretch (enF f (nbF n)) _ HTL.out).mono ?_
  rintro e a3 ⟨rfl, hq⟩
  go_wp2_with fail
  have hRa3 := (hRa2).to (by omega) hq
  refine hK.out _ _ ⟨(hHeld.1).to (by omega) hq, (hHeld.2).trans (hq.mono (hHeld.2).size)⟩ (fun hHeld2 => ?_)
  clear hK K hHeld hq hRa2
  have hHeld := hHeld2
  clear hHeld2
  try simp only [Act.put, List.setIfInBounds_toArray, List.set_cons_zero, List.set_cons_succ, List.getElem_toArray, List.getElem_cons_zero, List.getElem_cons_succ]
  refine wpAnyH_ready (rs := [5]) (by kernel_rfl) (by simp) ?_
  refine AllReadyH.cons rfl (fun K hK => ?_) AllReadyH.nil
  go_simp
  refine (obottom n _ HN.out).mono ?_
  rintro e a4 ⟨rfl, hq⟩
  go_wp2_with fail
  have hRa4 := (hRa3).to (by omega) hq
  refine hK.out _ _ ⟨(hHeld.1).to (by omega) hq, (hHeld.2).trans (hq.mono (hHeld.2).size)⟩ (fun hHeld2 => ?_)
  clear hK K hHeld hq hRa3
  have hHeld := hHeld2
  clear hHeld2
  try simp only [Act.put, List.setIfInBounds_toArray, List.set_cons_zero, List.set_cons_succ, List.getElem_toArray, List.getElem_cons_zero, List.getElem_cons_succ]
  refine wpAnyH_ready (rs := [6]) (by kernel_rfl) (by simp) ?_
  refine AllReadyH.cons rfl (fun K hK => ?_) AllReadyH.nil
  go_simp
  refine (oshift (enF f (nbF n)) (n 11) _ HTL.out).mono ?_
  rintro e a5 ⟨rfl, hq⟩
  go_wp2_with fail
  have hRa5 := (hRa4).to (by omega) hq
  refine hK.out _ _ ⟨(hHeld.1).to (by omega) hq, (hHeld.2).trans (hq.mono (hHeld.2).size)⟩ (fun hHeld2 => ?_)
  clear hK K hHeld hq hRa4
  have hHeld := hHeld2
  clear hHeld2
  try simp only [Act.put, List.setIfInBounds_toArray, List.set_cons_zero, List.set_cons_succ, List.getElem_toArray, List.getElem_cons_zero, List.getElem_cons_succ]
  refine wpAnyH_ready (rs := [7]) (by kernel_rfl) (by simp) ?_
  refine AllReadyH.cons rfl (fun K hK => ?_) AllReadyH.nil
  rw [if_pos (by rfl)]
  refine wp_store_mid _ _ _ rfl gR 0 (arL 16 (o0F (enF f (nbF n)) (n 11))).toArray rfl rfl hRa5.there (size16b _) (all_oneCell_toArray (arL_one 16 (o0F (enF f (nbF n)) (n 11)))) ?_
  have hRa6 := hRa5.whole (o0F (enF f (nbF n)) (n 11))
  have hSa6 := show Ar (World.setCells a5 gR 0 (arL 16 (o0F (enF f (nbF n)) (n 11)))) w.heap.size 12 (n) ∧ Below w.heap.size w (World.setCells a5 gR 0 (arL 16 (o0F (enF f (nbF n)) (n 11)))) from ⟨(hHeld.1).apart (b := gR) (by omega) (arL 16 (o0F (enF f (nbF n)) (n 11))) 0, (hHeld.2).trans (Below.setCells (Below.refl w.heap.size _) (b := gR) (by omega) (arL 16 (o0F (enF f (nbF n)) (n 11))) 0)⟩
  dsimp only [List.toList_toArray]
  generalize World.setCells a5 gR 0 (arL 16 (o0F (enF f (nbF n)) (n 11))) = a6 at *
  refine hK.out _ _ hSa6 (fun hHeld2 => ?_)
  clear hK K hHeld hSa6 hRa5
  have hHeld := hHeld2
  clear hHeld2
  try simp only [Act.put]
  refine wpAnyH_done (by kernel_rfl) ?_ _
  have hR9 := hRa6
  have hB9 := hHeld.2
  clear hHeld hRa6
  refine NoPanic.normal ?_
  go_wp2_with fail
  refine bodyPost_ret_ar rfl rfl hR9 Tryd.arr16b (size16b _) rfl ⟨rfl, hB9⟩

set_option maxHeartbeats 1600000 in
theorem onext (v : Value) (f l : Nat → Nat) (i : Nat) (w : World) (hf : B16 f) (hl : B16 l) (hi : i < 18446744073709551616) (ht : TabC w v f) :
    Calls Tryd.prog 22 #[v, .agg (arL 16 l).toArray, .int .u64 i] w fun e w' => e = .returned (.agg (arL 16 (adF l (atI (enF f zF) (zer i : Nat)))).toArray) ∧ Below w.heap.size w w' := by
  obtain ⟨kK, hkK⟩ : ∃ k : Array Value, (arL 16 (l)).toArray = k := ⟨_, rfl⟩
  obtain ⟨w1, hw1⟩ : ∃ V : World, V = w.alloc (.cells (arL 16 (l)).toArray 22) := ⟨_, rfl⟩
  have hs1 : w1.heap.size = w.heap.size + 1 := by rw [hw1]; simp
  have hBw1 : Below w.heap.size w w1 := by rw [hw1]; exact (Below.refl _ _).alloc (Nat.le_refl _) _
  have hKw1 : Ar w1 w.heap.size 16 (l) := by rw [hw1]; exact Ar.new w 16 _ _
  obtain ⟨w2, hw2⟩ : ∃ V : World, V = w1.alloc (.cells (arL 16 (fun _ => 0)).toArray 22) := ⟨_, rfl⟩
  have hs2 : w2.heap.size = w.heap.size + 2 := by rw [hw2]; simp [hs1]
  have hBw2 : Below w.heap.size w w2 := by rw [hw2]; exact hBw1.alloc (by omega) _
  have hKw2 := hKw1.alloc (by omega) (.cells (arL 16 (fun _ => 0)).toArray 22)
  rw [← hw2] at hKw2
  have hRw2 : Ar w2 (w.heap.size + 1) 16 (fun _ => 0) := by rw [hw2, ← hs1]; exact Ar.new w1 16 _ _
  clear hKw1 hBw1
  have HKK := Lib.hid hkK
  rw [hkK] at hw1
  rw [hkK]
  clear hkK
  have hz := zero16b
  have HL := Lib.hid hl
  obtain ⟨p, hV, _, _⟩ := ht
  have HV := Lib.hid hV
  have HSL := Lib.hid (show B16 (enF f zF) from enR_lt hf zF_lt 10)
  clear hf hl hV
  go_enter Tryd.func22, Tryd.ntmps22
  go_upto_region 1 with fail
  rw [← hw1, ← hw2]
  clear hw1 hw2
  try simp only [Nat.add_assoc, Nat.reduceAdd]
  obtain ⟨gR, hgR⟩ : ∃ g : Nat, w.heap.size + 1 = g := ⟨_, rfl⟩
  rw [hgR] at hRw2
  try rw [hgR]
  have hlR : w.heap.size < gR := by omega
  clear hs1 hs2 hgR
  refine wp_region_noPanic ?_
  have hRad := hRw2.drew
  refine wp_region_held_drew (S := fun W => Ar W w.heap.size 16 (l) ∧ Below w.heap.size w W) (by kernel_rfl) ⟨hKw2.drew, hBw2.drew⟩ (fun hHeld => ?_)
  clear hKw2 hBw2 hRw2
  generalize World.drew w2 = ad at *
  refine wpAnyH_take (i := 0) (v := .agg (arL 16 (l)).toArray) rfl (by kernel_rfl) (by kernel_rfl) (by kernel_rfl) (fun _ _ _ h => h) (yieldsIf_load_mid (by rfl) _ _ rfl w.heap.size (0) rfl (arL 16 (l)) _ (fun W hSw => hSw.1.range) Tryd.arr16b rfl (size16b _)) (by assumption) ?_
  simp only [Act.put, List.setIfInBounds_toArray, List.set_cons_zero, List.set_cons_succ, List.getElem_toArray, List.getElem_cons_zero]
  refine wpAnyH_take (i := 1) (v := ?va1) rfl (by kernel_rfl) (by kernel_rfl) (by kernel_rfl) (fun _ _ _ h => h) (Or.inl ⟨by rfl, ?hya1⟩) (by assumption) ?resta1
  case hya1 =>
    intro W hSw
    go_simp
    try with_reducible rfl
  simp only [Act.put, List.setIfInBounds_toArray, List.set_cons_zero, List.set_cons_succ, List.getElem_toArray, List.getElem_cons_zero, List.getElem_cons_succ]
  refine wpAnyH_take (i := 2) (v := ?va2) rfl (by kernel_rfl) (by kernel_rfl) (by kernel_rfl) (fun _ _ _ h => h) (Or.inl ⟨by rfl, ?hya2⟩) (by assumption) ?resta2
  case hya2 =>
    intro W hSw
    go_simp
    try with_reducible rfl
  simp only [Act.put, List.setIfInBounds_toArray, List.set_cons_zero, List.set_cons_succ, List.getElem_toArray, List.getElem_cons_zero, List.getElem_cons_succ]
  refine wpAnyH_ready (rs := [3]) (by kernel_rfl) (by simp) ?_
  refine AllReadyH.cons rfl (fun K hK => ?_) AllReadyH.nil
  go_simp
  refine (tfor v p (enF f zF) i _ hi (HV.out.to (hHeld.2))).mono ?_
  rintro e a3 ⟨rfl, hq⟩
  go_wp2_with fail
  have hRa3 := (hRad).to (by omega) hq
  refine hK.out _ _ ⟨(hHeld.1).to (by omega) hq, (hHeld.2).trans (hq.mono (hHeld.2).size)⟩ (fun hHeld2 => ?_)
  clear hK K hHeld hq hRad
  have hHeld := hHeld2
  clear hHeld2
  try simp only [Act.put, List.setIfInBounds_toArray, List.set_cons_zero, List.set_cons_succ, List.getElem_toArray, List.getElem_cons_zero, List.getElem_cons_succ]
  refine wpAnyH_ready (rs := [4]) (by kernel_rfl) (by simp) ?_
  refine AllReadyH.cons rfl (fun K hK => ?_) AllReadyH.nil
  go_simp
  refine (bxor l (atI (enF f zF) (zer i : Nat)) _ HL.out (atI_lt HSL.out _)).mono ?_
  rintro e a4 ⟨rfl, hq⟩
  go_wp2_with fail
  have hRa4 := (hRa3).to (by omega) hq
  refine hK.out _ _ ⟨(hHeld.1).to (by omega) hq, (hHeld.2).trans (hq.mono (hHeld.2).size)⟩ (fun hHeld2 => ?_)
  clear hK K hHeld hq hRa3
  have hHeld := hHeld2
  clear hHeld2
  try simp only [Act.put, List.setIfInBounds_toArray, List.set_cons_zero, List.set_cons_succ, List.getElem_toArray, List.getElem_cons_zero, List.getElem_cons_succ]
  refine wpAnyH_ready (rs := [5]) (by kernel_rfl) (by simp) ?_
  refine AllReadyH.cons rfl (fun K hK => ?_) AllReadyH.nil
  rw [if_pos (by rfl)]
  refine wp_store_mid _ _ _ rfl gR 0 (arL 16 (adF l (atI (enF f zF) (zer i : Nat)))).toArray rfl rfl hRa4.there (size16b _) (all_oneCell_toArray (arL_one 16 (adF l (atI (enF f zF) (zer i : Nat))))) ?_
  have hRa5 := hRa4.whole (adF l (atI (enF f zF) (zer i : Nat)))
  have hSa5 := show Ar (World.setCells a4 gR 0 (arL 16 (adF l (atI (enF f zF) (zer i : Nat))))) w.heap.size 16 (l) ∧ Below w.heap.size w (World.setCells a4 gR 0 (arL 16 (adF l (atI (enF f zF) (zer i : Nat))))) from ⟨(hHeld.1).apart (b := gR) (by omega) (arL 16 (adF l (atI (enF f zF) (zer i : Nat)))) 0, (hHeld.2).trans (Below.setCells (Below.refl w.heap.size _) (b := gR) (by omega) (arL 16 (adF l (atI (enF f zF) (zer i : Nat)))) 0)⟩
  dsimp only [List.toList_toArray]
  generalize World.setCells a4 gR 0 (arL 16 (adF l (atI (enF f zF) (zer i : Nat)))) = a5 at *
  refine hK.out _ _ hSa5 (fun hHeld2 => ?_)
  clear hK K hHeld hSa5 hRa4
  have hHeld := hHeld2
  clear hHeld2
  try simp only [Act.put]
  refine wpAnyH_done (by kernel_rfl) ?_ _
  have hR9 := hRa5
  have hB9 := hHeld.2
  clear hHeld hRa5
  refine NoPanic.normal ?_
  go_wp2_with fail
  refine bodyPost_ret_ar rfl rfl hR9 Tryd.arr16b (size16b _) rfl ⟨rfl, hB9⟩

set_option maxHeartbeats 4000000 in
theorem oat (v : Value) (f n : Nat → Nat) (i : Int) (w : World) (hi : -9223372036854775808 ≤ i ∧ i ≤ 9223372036854775807) (hf : B16 f) (hn : B12 n) (ht : TabC w v f) (hx : Boxes w) :
    Calls Tryd.prog 20 #[v, .agg (arL 12 n).toArray, .int .i64 i] w fun e w' => e = .returned (.agg (arL 16 (atF (o0F (enF f (nbF n)) (n 11)) (enF f zF) i.toNat)).toArray) ∧ Below w.heap.size w w' := by
  obtain ⟨kK, hkK⟩ : ∃ k : Array Value, (arL 12 (n)).toArray = k := ⟨_, rfl⟩
  obtain ⟨w1, hw1⟩ : ∃ V : World, V = w.alloc (.cells (arL 12 (n)).toArray 23) := ⟨_, rfl⟩
  have hs1 : w1.heap.size = w.heap.size + 1 := by rw [hw1]; simp
  have hBw1 : Below w.heap.size w w1 := by rw [hw1]; exact (Below.refl _ _).alloc (Nat.le_refl _) _
  have hKw1 : Ar w1 w.heap.size 12 (n) := by rw [hw1]; exact Ar.new w 12 _ _
  obtain ⟨w2, hw2⟩ : ∃ V : World, V = w1.alloc (.cells (arL 16 (fun _ => 0)).toArray 22) := ⟨_, rfl⟩
  have hs2 : w2.heap.size = w.heap.size + 2 := by rw [hw2]; simp [hs1]
  have hBw2 : Below w.heap.size w w2 := by rw [hw2]; exact hBw1.alloc (by omega) _
  have hKw2 := hKw1.alloc (by omega) (.cells (arL 16 (fun _ => 0)).toArray 22)
  rw [← hw2] at hKw2
  have hRw2 : Ar w2 (w.heap.size + 1) 16 (fun _ => 0) := by rw [hw2, ← hs1]; exact Ar.new w1 16 _ _
  clear hKw1 hBw1
  have HKK := Lib.hid hkK
  rw [hkK] at hw1
  rw [hkK]
  clear hkK
  have hz := zero16b
  have HT := Lib.hid ht
  obtain ⟨p, hV, _, _⟩ := ht
  have HV := Lib.hid hV
  have HSL := Lib.hid (show B16 (enF f zF) from enR_lt hf zF_lt 10)
  have HOL := Lib.hid (show B16 (o0F (enF f (nbF n)) (n 11)) from o0F_lt (enR_lt hf (nbF_lt hn) 10) _)
  obtain ⟨m, hm⟩ : ∃ m : Nat, i.toNat = m := ⟨_, rfl⟩
  have hmx : max i 0 = (m : Int) := by omega
  have hm63 : m < 9223372036854775808 := by omega
  rw [hm]
  have HG := Lib.hid (gray_lt m hm63)
  have hst := Lib.hid (fun V hb => ostart v f n V hf hn (HT.out.to hb) (hx.keep hb))
  have HLEN := Lib.hid (fun V => blen (m ^^^ m / 2) V (by have := HG.out; omega))
  have HODD := Lib.hid (fun V => oodd m V (by omega))
  obtain ⟨o, ho⟩ : ∃ o, o0F (enF f (nbF n)) (n 11) = o := ⟨_, rfl⟩
  obtain ⟨s, hs⟩ : ∃ s, enF f zF = s := ⟨_, rfl⟩
  rw [ho] at HOL hst
  rw [hs] at HV HSL
  rw [ho, hs]
  obtain ⟨c, hc⟩ : ∃ c, m ^^^ m / 2 = c := ⟨_, rfl⟩
  rw [hc] at HG HLEN HODD
  have HCC := Lib.hid hc
  have HM := Lib.hid hm63
  have HMI := Lib.hid hmx
  clear hf hn hx hV hm ho hs hc hi hmx
  go_enter Tryd.func20, Tryd.ntmps20
  go_upto_region 1 with fail
  rw [← hw1, ← hw2]
  clear hw1 hw2
  try simp only [Nat.add_assoc, Nat.reduceAdd]
  obtain ⟨gR, hgR⟩ : ∃ g : Nat, w.heap.size + 1 = g := ⟨_, rfl⟩
  rw [hgR] at hRw2
  try rw [hgR]
  have hlR : w.heap.size < gR := by omega
  clear hs1 hs2 hgR
  go_wp2_with (refine wpList_load_ar rfl _ _ rfl _ _ _ rfl hKw2 Tryd.arr12 (size12 _) ?_)
  refine (hst.out _ hBw2).mono ?_
  rintro e w3 ⟨rfl, hq⟩
  have hR3 := hRw2.to (by omega) hq
  have hB3 := hBw2.trans (hq.mono hBw2.size)
  clear hKw2 hRw2 hBw2 hq
  obtain ⟨gO, hgO⟩ : ∃ g : Nat, w3.heap.size = g := ⟨_, rfl⟩
  have hlO : gR < gO := by rw [← hgO]; exact hR3.lt (by omega)
  obtain ⟨w4, hw4⟩ : ∃ V : World, V = w3.alloc (.cells (arL 16 fun _ => 0).toArray 22) := ⟨_, rfl⟩
  have hO4 : Ar w4 gO 16 (fun _ => 0) := by rw [hw4, ← hgO]; exact Ar.new w3 16 _ _
  have hR4 : Ar w4 gR 16 (fun _ => 0) := by rw [hw4]; exact hR3.alloc (by omega) _
  have hB4 : Below w.heap.size w w4 := by rw [hw4]; exact hB3.alloc hB3.size _
  clear hR3 hB3
  go_upto_region 2 with (first | (refine wpList_store_ar rfl _ _ _ rfl _ _ _ o rfl rfl (by rw [← hw4]; exact hO4) (size16b _) ?_; intro w5 hO5 bel siz kee) | fail)
  rw [← hw4] at bel siz kee
  try rw [hgO]
  have hR5 := hR4.keep hlO bel
  have hB5 := hB4.trans (bel.mono (by omega))
  clear hO4 hR4 hB4 bel siz kee hw4 hgO
  try dsimp only [Act.put]
  have hmx := HMI.out
  have hm63 := HM.out
  go_wp2_with fail
  refine (HODD.out _).mono ?_
  rintro e w6 ⟨rfl, rfl⟩
  clear hmx hm63
  go_wp2_with fail
  refine (HLEN.out _).mono ?_
  rintro e w7 ⟨⟨q, rfl, hq64, hcq⟩, rfl⟩
  have hO6 := hO5.ext (f' := ogF o s m 0) (fun j _ => by rw [ogF_zero])
  clear hO5
  have HCQ := Lib.hid hcq
  clear hcq
  go_wp2_with fail
  go_loopw [19] (fun i wr => ∃ k : Nat, k ≤ q ∧ i = .int .i64 k ∧ Ar wr gO 16 (ogF o s m k) ∧ Ar wr gR 16 (fun _ => 0) ∧ Below w.heap.size w wr) (fun i _ => q - (intOf i).toNat)
  case atStart => exact ⟨0, Nat.zero_le _, rfl, hO6, hR5, hB5⟩
  case round =>
    clear hO6 hR5 hB5
    obtain ⟨k, hk, rfl, hO, hR, hB⟩ := hrel
    by_cases hlt : k < q
    · have i1 : (k : Int) < (q : Int) := by omega
      have i2 : k < 64 := by omega
      have hcl := HG.out
      obtain ⟨x, hx⟩ : ∃ x : Nat, c / 2 ^ k = x := ⟨_, rfl⟩
      have e1 : (c : Int) / 2 ^ k = (x : Int) := by rw [← hx, Int.natCast_ediv, Int.natCast_pow]; rfl
      have x1 : x < 9223372036854775808 := by rw [← hx]; exact Nat.lt_of_le_of_lt (Nat.div_le_self _ _) hcl
      have hand := and1_u64 x (by omega)
      rcases Nat.mod_two_eq_zero_or_one x with h2 | h2
      · have hog := ogF_none o s m k (by rw [HCC.out, hx]; exact h2)
        rw [h2] at hand
        rw [hog] at hO
        clear hx hog h2
        go_wp2_with fail
        go_roundw
        case rel => exact ⟨k + 1, by omega, by go_num, hO, hR, hB⟩
        case measure => simp [intOf]; omega
      · have hog := Lib.hid (ogF_one o s m k (by rw [HCC.out, hx]; exact h2))
        have hol := Lib.hid (ogF_lt HOL.out HSL.out m k)
        rw [h2] at hand
        obtain ⟨ok, hok⟩ : ∃ ok, ogF o s m k = ok := ⟨_, rfl⟩
        obtain ⟨k2, hk2⟩ : ∃ k2, k + 2 = k2 := ⟨_, rfl⟩
        have hat := Lib.hid (fun V hb => tat_in v p s k V i2 (HV.out.to hb))
        rw [hok] at hog hol hO
        rw [hk2] at hog hat
        have hkl := Lib.hid (dk_lt HSL.out k2)
        obtain ⟨dd, hdd⟩ : ∃ dd, dk s k2 = dd := ⟨_, rfl⟩
        rw [hdd] at hog hat hkl
        clear hx h2 hok hk2 hdd
        go_upto_region 7 with fail
        clear e1 hand x1 hcl i1
        refine wp_region_noPanic ?_
        have hOad := hO.drew
        have hRad := hR.drew
        refine wp_region_held_drew (S := fun W => Below w.heap.size w W) (by kernel_rfl) hB.drew (fun hHeld => ?_)
        clear hB hO hR
        generalize World.drew wr = ad at *
        refine wpAnyH_take (i := 1) (v := ?va1) rfl (by kernel_rfl) (by kernel_rfl) (by kernel_rfl) (fun _ _ _ h => h) (Or.inl ⟨by rfl, ?hya1⟩) (by assumption) ?resta1
        case hya1 =>
          intro W hSw
          go_simp
          try with_reducible rfl
        simp only [Act.put, List.setIfInBounds_toArray, List.set_cons_zero, List.set_cons_succ, List.getElem_toArray, List.getElem_cons_zero, List.getElem_cons_succ]
        refine wpAnyH_take (i := 2) (v := ?va2) rfl (by kernel_rfl) (by kernel_rfl) (by kernel_rfl) (fun _ _ _ h => h) (Or.inl ⟨by rfl, ?hya2⟩) (by assumption) ?resta2
        case hya2 =>
          intro W hSw
          go_simp
          try with_reducible rfl
        simp only [Act.put, List.setIfInBounds_toArray, List.set_cons_zero, List.set_cons_succ, List.getElem_toArray, List.getElem_cons_zero, List.getElem_cons_succ]
        refine wpAnyH_ready (rs := [0, 3]) (by kernel_rfl) (by simp) ?_
        refine AllReadyH.cons rfl (fun K hK => ?_) (AllReadyH.cons rfl (fun K hK => ?_) AllReadyH.nil)
        · rw [if_pos (by rfl)]
          refine wp_load_mid _ _ rfl gO 0 rfl (arL 16 (ok)) _ hOad.range Tryd.arr16b rfl (size16b _) ?_
          refine hK.out _ _ hHeld (fun hHeld2 => ?_)
          clear hK K hHeld
          have hHeld := hHeld2
          clear hHeld2
          try simp only [Act.put, List.setIfInBounds_toArray, List.set_cons_zero, List.set_cons_succ, List.getElem_toArray, List.getElem_cons_zero]
          refine wpAnyH_ready (rs := [3]) (by kernel_rfl) (by simp) ?_
          refine AllReadyH.cons rfl (fun K hK => ?_) AllReadyH.nil
          go_simp
          refine (hat.out _ (hHeld)).mono ?_
          rintro e a3 ⟨rfl, hq⟩
          go_wp2_with fail
          have hOa3 := (hOad).to (by omega) hq
          have hRa3 := (hRad).to (by omega) hq
          refine hK.out _ _ ((hHeld).trans (hq.mono (hHeld).size)) (fun hHeld2 => ?_)
          clear hK K hHeld hq hOad hRad
          have hHeld := hHeld2
          clear hHeld2
          try simp only [Act.put, List.setIfInBounds_toArray, List.set_cons_zero, List.set_cons_succ, List.getElem_toArray, List.getElem_cons_zero, List.getElem_cons_succ]
          refine wpAnyH_ready (rs := [4]) (by kernel_rfl) (by simp) ?_
          refine AllReadyH.cons rfl (fun K hK => ?_) AllReadyH.nil
          go_simp
          refine (bxor ok dd _ hol.out hkl.out).mono ?_
          rintro e a4 ⟨rfl, hq⟩
          go_wp2_with fail
          have hOa4 := (hOa3).to (by omega) hq
          have hRa4 := (hRa3).to (by omega) hq
          refine hK.out _ _ ((hHeld).trans (hq.mono (hHeld).size)) (fun hHeld2 => ?_)
          clear hK K hHeld hq hOa3 hRa3
          have hHeld := hHeld2
          clear hHeld2
          try simp only [Act.put, List.setIfInBounds_toArray, List.set_cons_zero, List.set_cons_succ, List.getElem_toArray, List.getElem_cons_zero, List.getElem_cons_succ]
          refine wpAnyH_ready (rs := [5]) (by kernel_rfl) (by simp) ?_
          refine AllReadyH.cons rfl (fun K hK => ?_) AllReadyH.nil
          rw [if_pos (by rfl)]
          refine wp_store_mid _ _ _ rfl gO 0 (arL 16 (adF ok dd)).toArray rfl rfl hOa4.there (size16b _) (all_oneCell_toArray (arL_one 16 (adF ok dd))) ?_
          have hOa5 := hOa4.whole (adF ok dd)
          have hRa5 := hRa4.apart (b := gO) (by omega) (arL 16 (adF ok dd)) 0
          have hSa5 := show Below w.heap.size w (World.setCells a4 gO 0 (arL 16 (adF ok dd))) from (hHeld).trans (Below.setCells (Below.refl w.heap.size _) (b := gO) (by omega) (arL 16 (adF ok dd)) 0)
          dsimp only [List.toList_toArray]
          generalize World.setCells a4 gO 0 (arL 16 (adF ok dd)) = a5 at *
          refine hK.out _ _ hSa5 (fun hHeld2 => ?_)
          clear hK K hHeld hSa5 hOa4 hRa4
          have hHeld := hHeld2
          clear hHeld2
          try simp only [Act.put]
          refine wpAnyH_done (by kernel_rfl) ?_ _
          have hO9 := hOa5
          have hR9 := hRa5
          have hB9 := hHeld
          clear hHeld hOa5 hRa5
          rw [hog.out] at hO9
          refine NoPanic.normal ?_
          go_wp2_with fail
          go_roundw
          case rel => exact ⟨k + 1, by omega, by go_num, hO9, hR9, hB9⟩
          case measure => simp [intOf]; omega
        · go_simp
          refine (hat.out _ (hHeld)).mono ?_
          rintro e a6 ⟨rfl, hq⟩
          go_wp2_with fail
          have hOa6 := (hOad).to (by omega) hq
          have hRa6 := (hRad).to (by omega) hq
          refine hK.out _ _ ((hHeld).trans (hq.mono (hHeld).size)) (fun hHeld2 => ?_)
          clear hK K hHeld hq hOad hRad
          have hHeld := hHeld2
          clear hHeld2
          try simp only [Act.put, List.setIfInBounds_toArray, List.set_cons_zero, List.set_cons_succ, List.getElem_toArray, List.getElem_cons_zero, List.getElem_cons_succ]
          refine wpAnyH_ready (rs := [0]) (by kernel_rfl) (by simp) ?_
          refine AllReadyH.cons rfl (fun K hK => ?_) AllReadyH.nil
          rw [if_pos (by rfl)]
          refine wp_load_mid _ _ rfl gO 0 rfl (arL 16 (ok)) _ hOa6.range Tryd.arr16b rfl (size16b _) ?_
          refine hK.out _ _ hHeld (fun hHeld2 => ?_)
          clear hK K hHeld
          have hHeld := hHeld2
          clear hHeld2
          try simp only [Act.put, List.setIfInBounds_toArray, List.set_cons_zero, List.set_cons_succ, List.getElem_toArray, List.getElem_cons_zero]
          refine wpAnyH_ready (rs := [4]) (by kernel_rfl) (by simp) ?_
          refine AllReadyH.cons rfl (fun K hK => ?_) AllReadyH.nil
          go_simp
          refine (bxor ok dd _ hol.out hkl.out).mono ?_
          rintro e a7 ⟨rfl, hq⟩
          go_wp2_with fail
          have hOa7 := (hOa6).to (by omega) hq
          have hRa7 := (hRa6).to (by omega) hq
          refine hK.out _ _ ((hHeld).trans (hq.mono (hHeld).size)) (fun hHeld2 => ?_)
          clear hK K hHeld hq hOa6 hRa6
          have hHeld := hHeld2
          clear hHeld2
          try simp only [Act.put, List.setIfInBounds_toArray, List.set_cons_zero, List.set_cons_succ, List.getElem_toArray, List.getElem_cons_zero, List.getElem_cons_succ]
          refine wpAnyH_ready (rs := [5]) (by kernel_rfl) (by simp) ?_
          refine AllReadyH.cons rfl (fun K hK => ?_) AllReadyH.nil
          rw [if_pos (by rfl)]
          refine wp_store_mid _ _ _ rfl gO 0 (arL 16 (adF ok dd)).toArray rfl rfl hOa7.there (size16b _) (all_oneCell_toArray (arL_one 16 (adF ok dd))) ?_
          have hOa8 := hOa7.whole (adF ok dd)
          have hRa8 := hRa7.apart (b := gO) (by omega) (arL 16 (adF ok dd)) 0
          have hSa8 := show Below w.heap.size w (World.setCells a7 gO 0 (arL 16 (adF ok dd))) from (hHeld).trans (Below.setCells (Below.refl w.heap.size _) (b := gO) (by omega) (arL 16 (adF ok dd)) 0)
          dsimp only [List.toList_toArray]
          generalize World.setCells a7 gO 0 (arL 16 (adF ok dd)) = a8 at *
          refine hK.out _ _ hSa8 (fun hHeld2 => ?_)
          clear hK K hHeld hSa8 hOa7 hRa7
          have hHeld := hHeld2
          clear hHeld2
          try simp only [Act.put]
          refine wpAnyH_done (by kernel_rfl) ?_ _
          have hO9 := hOa8
          have hR9 := hRa8
          have hB9 := hHeld
          clear hHeld hOa8 hRa8
          rw [hog.out] at hO9
          refine NoPanic.normal ?_
          go_wp2_with fail
          go_roundw
          case rel => exact ⟨k + 1, by omega, by go_num, hO9, hR9, hB9⟩
          case measure => simp [intOf]; omega
    · obtain rfl : k = q := by omega
      rw [ogF_all o s m k HM.out (by rw [HCC.out]; exact HCQ.out)] at hO
      go_wp2_with (first
      | (refine wpList_load_ar rfl _ _ rfl _ _ _ rfl hO Tryd.arr16b (size16b _) ?_)
      | (refine wpList_store_ar rfl _ _ _ rfl _ _ _ (atF o s m) rfl rfl hR (size16b _) ?_; intro w8 hA8 hb8 _ _))
      refine bodyPost_ret_ar rfl rfl hA8 Tryd.arr16b (size16b _) rfl ⟨rfl, ?_⟩
      exact hB.trans (hb8.mono (by omega))
end Go.Proofs.YtblhfmlgpldaeaaDoor
