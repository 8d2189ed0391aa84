/-
  Contracts of package hash, by walks through its texts: over a table that stands for a key, made or nil; what was there stays as it was.
-/
import Derived.Test.YtflbpohcoghonaaDoorHac
import Derived.Test.YtflbpohcoghonaaDoorGbk
import Derived.Deep.RegionHeld3
namespace Go.Proofs.YtflbpohcoghonaaDoor
open Go.RowKit
set_option linter.unusedVariables false
set_option maxRecDepth 100000

open Go.Shelf
/-- A value that stands for a Table of the key f since some world before; g bounds what it holds. -/
def TabB (W : World) (g : Nat) (v : Value) (f : Nat → Nat) : Prop := g < W.heap.size ∧ ∃ W0 : World, W0.heap.size ≤ g + 1 ∧ TabC W0 v f ∧ Below W0.heap.size W0 W
section
variable {W W' : World} {g b : Nat} {v : Value} {f : Nat → Nat}
theorem TabB.lt (h : TabB W g v f) : g < W.heap.size := h.1
theorem TabB.to (h : TabB W g v f) (hb : Below W.heap.size W W') : TabB W' g v f := by
  obtain ⟨h1, W0, h2, h3, h4⟩ := h
  exact ⟨Nat.lt_of_lt_of_le h1 hb.size, W0, h2, h3, h4.trans (hb.mono h4.size)⟩
theorem TabB.keep (h : TabB W g v f) (hl : g < b) (hb : Below b W W') : TabB W' g v f := by
  obtain ⟨h1, W0, h2, h3, h4⟩ := h
  exact ⟨Nat.lt_of_lt_of_le h1 hb.size, W0, h2, h3, h4.trans (hb.mono (by omega))⟩
theorem TabB.drew (h : TabB W g v f) : TabB W.drew g v f := h.to (Below.refl _ _).drew
theorem TabB.apart (h : TabB W g v f) (hl : g < b) (vs : List Value) (o : Nat) : TabB (W.setCells b o vs) g v f := h.keep hl (below_setCells _ _ _ _)
theorem TabB.tab (h : TabB W g v f) : TabC W v f := by
  obtain ⟨_, W0, _, h3, h4⟩ := h
  exact h3.to h4
theorem TabB.new (h : TabC W v f) (hp : 0 < W.heap.size) : TabB W (W.heap.size - 1) v f := ⟨by omega, W, by omega, h, Below.refl _ _⟩
end
/-- What made returns stands for a Table of the key f. -/
def TabM (w : World) (q : Option Addr) (f : Nat → Nat) : Prop :=
  ∀ V, Below w.heap.size w V → Calls Tryd.prog 21 #[.pointer q] V fun e V' => ∃ q', e = .returned (.pointer q') ∧ TabC V' (.pointer q') f ∧ Below V.heap.size V V'
theorem TabM.to {w w' : World} {q : Option Addr} {f : Nat → Nat} (h : TabM w q f) (hb : Below w.heap.size w w') : TabM w' q f := fun V hV => h V (hb.trans (hV.mono hb.size))
theorem tabm_made (a : Addr) (f : Nat → Nat) (w : World) (h : TabC w (.pointer (some a)) f) : TabM w (some a) f := fun V hV => by
  have h2 := Lib.hid (h.to hV)
  clear h hV
  go_enter Tryd.func21, Tryd.ntmps21
  go_wp2_with fail
  go_ret
  exact ⟨_, rfl, h2.out, Below.refl _ _⟩
set_option maxHeartbeats 1600000 in
theorem tabm_nil (w : World) (hx : Boxes w) : TabM w none zF := fun V hV => by
  have z0 := zero16b
  have HX := Lib.hid (hx.keep hV)
  clear hx hV
  go_enter Tryd.func21, Tryd.ntmps21
  go_wp2_with fail
  refine (tcip_nil V).mono ?_
  rintro e V1 ⟨rfl, h1⟩
  go_wp2_with fail
  refine (fkey_nil V1).mono ?_
  rintro e V2 ⟨rfl, h2⟩
  have h12 := h1.trans (h2.mono h1.size)
  go_wp2_with fail
  refine (fnew zF V2 zF_lt (HX.out.keep (h12))).mono ?_
  rintro e V3 ⟨gC, rfl, hgC, hC, h3⟩
  have h13 := h12.trans (h3.mono h12.size)
  go_wp2_with fail
  refine (tnew (some ⟨gC, 0, none⟩) zF V3 zF_lt (exp_made gC zF V3 hC) (HX.out.keep h13)).mono ?_
  rintro e V4 ⟨gT, rfl, hgT, hT, h4⟩
  go_wp2_with fail
  go_ret
  exact ⟨_, rfl, tabc_made gT _ zF V4 hT ((exp_made gC zF V3 hC).to h4), h13.trans (h4.mono h13.size)⟩
theorem haF_eq {f s : Nat → Nat} {l : List UInt8} {n N o : Nat} (hl : l.length = n) (hN : n / 16 = N) (ho : 16 * N = o) : adF (hsF f s (pt l) N) (hrF f s (atF zF s N) (l.drop o)) = haF f s l := by
  subst hl; subst hN; subst ho; rfl
theorem hfacts {n N o : Nat} (hn : n ≤ 1000000) (hN : n / 16 = N) (ho : 16 * N = o) : ((n : Int)).tdiv 16 = (N : Int) ∧ (n : Int) / 16 = (N : Int) ∧ wrap64 ((N : Int) * 16) = (o : Int) ∧ IntKind.i64.wrap ((N : Int) * 16) = (o : Int) ∧ (N : Int) * 16 = (o : Int) ∧ IntKind.i64.wrap (o : Int) = (o : Int) ∧ IntKind.i64.wrap (N : Int) = (N : Int) := by
  refine ⟨by rw [Int.tdiv_eq_ediv_of_nonneg (by omega)]; omega, by omega, ?_, ?_, by omega, wraps_i64' _ (by omega) (by omega), wraps_i64' _ (by omega) (by omega)⟩
  · rw [IntWalk.wrap64_in _ (by omega)]; omega
  · rw [wraps_i64' _ (by omega) (by omega)]; omega
theorem hrF_no {f s o : Nat → Nat} {l : List UInt8} {n : Nat} (hl : l.length = n) (h : n = 0 ∨ 16 ≤ n) : hrF f s o l = zF := by
  unfold hrF; rw [if_pos (by omega)]
theorem hrF_yes {f s o : Nat → Nat} {l : List UInt8} {n : Nat} (hl : l.length = n) (h0 : n ≠ 0) (h : n < 16) : hrF f s o l = enF f (adF (lF (padL l 16)) (adF o s)) := by
  unfold hrF; rw [if_neg (by omega)]

set_option maxHeartbeats 1600000 in
theorem hfull (q : Option Addr) (f s : Nat → Nat) (A : Option Addr) (n c : Nat) (P : Nat → Nat → Nat) (w : World) (hf : B16 f) (hs : enF f zF = s) (hP : ∀ k, B16 (P k)) (hS : S16 w A n P) (hn : n ≤ 1000000) (hm : TabM w q f) (hx : Boxes w) :
    Calls Tryd.prog 14 #[.pointer q, .slice A n c] w fun e w' => e = .returned (.tuple #[.agg (arL 16 (hsF f s P n)).toArray, .agg (arL 16 (atF zF s n)).toArray]) ∧ Below w.heap.size w w' := by
  obtain ⟨w1, hw1⟩ : ∃ V : World, V = w.alloc (.cells (arL 16 (fun _ => 0)).toArray 22) := ⟨_, rfl⟩
  have hs1 : w1.heap.size = w.heap.size + 1 := by rw [hw1]; simp
  have hBw1 : Below w.heap.size w w1 := by rw [hw1]; exact (Below.refl _ _).alloc (Nat.le_refl _) _
  have hSw1 : Ar w1 w.heap.size 16 (fun _ => 0) := by rw [hw1]; exact Ar.new w 16 _ _
  obtain ⟨w2, hw2⟩ : ∃ V : World, V = w1.alloc (.cells (arL 16 (fun _ => 0)).toArray 22) := ⟨_, rfl⟩
  have hs2 : w2.heap.size = w.heap.size + 2 := by rw [hw2]; simp [hs1]
  have hBw2 : Below w.heap.size w w2 := by rw [hw2]; exact hBw1.alloc (by omega) _
  have hSw2 := hSw1.alloc (by omega) (.cells (arL 16 (fun _ => 0)).toArray 22)
  rw [← hw2] at hSw2
  have hLw2 : Ar w2 (w.heap.size + 1) 16 (fun _ => 0) := by rw [hw2, ← hs1]; exact Ar.new w1 16 _ _
  clear hSw1 hBw1
  have hz := zero16b
  have HFB := Lib.hid hf
  have HPB := Lib.hid hP
  have HS := Lib.hid hS
  have HM := Lib.hid hm
  have HX := Lib.hid hx
  have HN := Lib.hid hn
  have HS0 := Lib.hid hs
  clear hf hP hS hm hx hs
  go_enter Tryd.func14, Tryd.ntmps14
  go_upto_region 1 with fail
  rw [← hw1, ← hw2]
  clear hw1 hw2
  try simp only [Nat.add_assoc, Nat.reduceAdd]
  obtain ⟨gL, hgL⟩ : ∃ g : Nat, w.heap.size + 1 = g := ⟨_, rfl⟩
  rw [hgL] at hLw2
  try rw [hgL]
  have hlL : w.heap.size < gL := by omega
  clear hs1 hs2 hgL
  go_wp2_with fail
  refine (HM.out _ hBw2).mono ?_
  rintro e x1 ⟨q1, rfl, hTx1, hq⟩
  have hSx1 := (hSw2).to (by omega) hq
  have hLx1 := (hLw2).to (by omega) hq
  have hBx1 := hBw2.trans (hq.mono hBw2.size)
  clear hq hSw2 hLw2 hBw2
  go_wp2_with fail
  refine (hnum A n c x1).mono ?_
  rintro e x2 ⟨rfl, hx2⟩
  obtain ⟨gN, hgN⟩ : ∃ g : Nat, x1.heap.size = g := ⟨_, rfl⟩
  have hq : Below x1.heap.size x1 x2 := by rw [hx2]; exact (Below.refl _ _).alloc (Nat.le_refl _) _
  have hcN : x2.cell? ⟨gN, 0, none⟩ = some (.slice A n c) := by rw [hx2, ← hgN, World.cell?_alloc_at _ _ _ _ rfl]; rfl
  have hlN : gN < x2.heap.size := by rw [hx2, ← hgN]; simp
  rw [hgN]
  have hSx2 := (hSx1).to (by omega) hq
  have hLx2 := (hLx1).to (by omega) hq
  have hTx2 := (hTx1).to hq
  have hBx2 := hBx1.trans (hq.mono hBx1.size)
  clear hq hx2 hgN hSx1 hLx1 hTx1 hBx1
  have HCN := Lib.hid hcN
  clear hcN
  go_wp2_with fail
  refine (htotal q1 f s P n 59 #[.pointer (some ⟨gN, 0, none⟩)] (Below x2.heap.size) (fun pre => ∃ k, k ≤ n ∧ pre = List.range k) x2 HFB.out HS0.out HPB.out HN.out hTx2 (HX.out.keep hBx2) (enters_of Tryd.func59 (by kernel_rfl) rfl) (num_stops 4 (by omega) gN A n c P x2 HN.out (HS.out.to hBx2) HCN.out hlN) (fun h k => h.trans k) (fun W l o o' h h1 h2 h3 => belowK_b (w := x2) (Nat.le_refl _) W l o o' h h1 h2 h3) (fun _ _ h => h)).mono ?_
  rintro e x3 ⟨rfl, hq⟩
  have hSx3 := (hSx2).to (by omega) hq
  have hLx3 := (hLx2).to (by omega) hq
  have hTx3 := (hTx2).to hq
  have hBx3 := hBx2.trans (hq.mono hBx2.size)
  clear hq hSx2 hLx2 hTx2 hBx2
  go_wp2_with (first | (refine wpList_store_ar rfl _ _ _ rfl _ _ _ (hsF f s P n) rfl rfl hSx3 (size16b _) ?_; intro y8 hSy8 bel8 siz8 kee8) | (refine wpList_store_ar rfl _ _ _ rfl _ _ _ (atF zF s n) rfl rfl (kee8 _ _ _ (by omega) hLx3) (size16b _) ?_; intro y9 hLy9 bel9 siz9 kee9))
  have hSy9 := hSy8.keep (by omega) bel9
  have hBy9 := (hBx3.trans (bel8.mono (Nat.le_refl _))).trans (bel9.mono (by omega))
  refine bodyPost_ret (results_ar2 rfl rfl rfl hSy9 hLy9 Tryd.arr16b (size16b _) (size16b _)) rfl ⟨rfl, hBy9⟩

set_option maxHeartbeats 4000000 in
theorem hrest (v : Value) (f o : Nat → Nat) (A : Option Addr) (n c : Nat) (l : List UInt8) (w : World) (hf : B16 f) (ho : B16 o) (hS : Sl w w.heap.size A n l) (ht : TabC w v f) (hx : Boxes w) :
    Calls Tryd.prog 16 #[v, .agg (arL 16 o).toArray, .slice A n c] w fun e w' => e = .returned (.agg (arL 16 (hrF f (enF f zF) o l)).toArray) ∧ Below w.heap.size w w' := by
  obtain ⟨kK, hkK⟩ : ∃ k : Array Value, (arL 16 (o)).toArray = k := ⟨_, rfl⟩
  obtain ⟨w1, hw1⟩ : ∃ V : World, V = w.alloc (.cells (arL 16 (o)).toArray 22) := ⟨_, rfl⟩
  have hs1 : w1.heap.size = w.heap.size + 1 := by rw [hw1]; simp
  have hBw1 : Below w.heap.size w w1 := by rw [hw1]; exact (Below.refl _ _).alloc (Nat.le_refl _) _
  have hKw1 : Ar w1 w.heap.size 16 (o) := by rw [hw1]; exact Ar.new w 16 _ _
  obtain ⟨w2, hw2⟩ : ∃ V : World, V = w1.alloc (.cells (arL 16 (fun _ => 0)).toArray 22) := ⟨_, rfl⟩
  have hs2 : w2.heap.size = w.heap.size + 2 := by rw [hw2]; simp [hs1]
  have hBw2 : Below w.heap.size w w2 := by rw [hw2]; exact hBw1.alloc (by omega) _
  have hKw2 := hKw1.alloc (by omega) (.cells (arL 16 (fun _ => 0)).toArray 22)
  rw [← hw2] at hKw2
  have hRw2 : Ar w2 (w.heap.size + 1) 16 (fun _ => 0) := by rw [hw2, ← hs1]; exact Ar.new w1 16 _ _
  clear hKw1 hBw1
  have HKK := Lib.hid hkK
  rw [hkK] at hw1
  rw [hkK]
  clear hkK
  have hz := zero16b
  have z0 := Lib.hid run_zero16
  have hlen := hS.len
  have HFB := Lib.hid hf
  have HOB := Lib.hid ho
  have HSL := Lib.hid (show B16 (enF f zF) from enR_lt hf zF_lt 10)
  have HSS := Lib.hid hS
  have HX := Lib.hid hx
  obtain ⟨p, hV, hC, hcip⟩ := ht
  have HV := Lib.hid hV
  have HC := Lib.hid hC
  have HCIP := Lib.hid hcip
  obtain ⟨s, hs0⟩ : ∃ s : Nat → Nat, enF f zF = s := ⟨_, rfl⟩
  rw [hs0] at HSL HV
  rw [hs0]
  clear hf ho hS hx hV hC hcip hs0
  go_enter Tryd.func16, Tryd.ntmps16
  go_upto_region 1 with fail
  rw [← hw1, ← hw2]
  clear hw1 hw2
  try simp only [Nat.add_assoc, Nat.reduceAdd]
  obtain ⟨gR, hgR⟩ : ∃ g : Nat, w.heap.size + 1 = g := ⟨_, rfl⟩
  rw [hgR] at hRw2
  try rw [hgR]
  have hlR : w.heap.size < gR := by omega
  clear hs1 hs2 hgR
  by_cases h16 : 16 ≤ n
  · go_wp2_with fail
    refine (bpad_no A n c _ h16).mono ?_
    rintro e x1 ⟨rfl, hq⟩
    have hKx1 := (hKw2).to (by omega) hq
    have hRx1 := (hRw2).to (by omega) hq
    have hBx1 := hBw2.trans (hq.mono hBw2.size)
    clear hq hKw2 hRw2 hBw2
    obtain ⟨gb, hgb⟩ : ∃ g : Nat, x1.heap.size = g := ⟨_, rfl⟩
    have hlw_heap_sizegb : w.heap.size < gb := by rw [← hgb]; exact hKx1.lt (by omega)
    have hlgRgb : gR < gb := by rw [← hgb]; exact hRx1.lt (by omega)
    have hlwgb : w.heap.size ≤ gb := by rw [← hgb]; exact hBx1.size
    have hq : Below x1.heap.size x1 (x1.alloc (.cells (arL 16 fun _ => 0).toArray 22)) := (Below.refl _ _).alloc (Nat.le_refl _) _
    have hKx2a := (hKx1).to (by omega) hq
    have hRx2a := (hRx1).to (by omega) hq
    have hbx2a := Ar.new x1 16 (fun _ => 0) 22
    have hBx2a := hBx1.alloc hBx1.size (.cells (arL 16 fun _ => 0).toArray 22)
    rw [hgb] at hbx2a
    clear hq hKx1 hRx1 hBx1
    go_upto_region 2 with (first | (refine wpList_store_ar rfl _ _ _ rfl _ _ _ (fun _ => 0) rfl rfl hbx2a (size16b _) ?_; intro x2 hbx2 belx2 sizx2 keex2) | fail)
    have hKx2 := (hKx2a).keep hlw_heap_sizegb belx2
    have hRx2 := (hRx2a).keep hlgRgb belx2
    have hBx2 := hBx2a.trans (belx2.mono hlwgb)
    clear hKx2a hRx2a hbx2a hBx2a belx2 sizx2 keex2 hgb
    try dsimp only [Act.put]
    go_wp2_with (first | (refine wpList_build_by rfl _ _ rfl [] rfl _ (z0.out _) ?_) | (refine wpList_store_ar rfl _ _ _ rfl _ _ _ (fun _ => 0) rfl rfl hRx2 (size16b _) ?_; intro y8 hRy8 bel8 siz8 kee8))
    refine bodyPost_ret_ar rfl rfl hRy8 Tryd.arr16b (size16b _) rfl ⟨by rw [hrF_no hlen (.inr h16)]; rfl, hBx2.trans (bel8.mono (by omega))⟩
  · have hn16 : n < 16 := by omega
    obtain ⟨P, hPd⟩ : ∃ P : Nat → Nat, lF (padL l 16) = P := ⟨_, rfl⟩
    have HPB := Lib.hid (show B16 P by rw [← hPd]; exact fun _ _ => lF_lt _ _)
    have hpd := bpad A n c l w2 ((HSS.out.below hBw2).more hBw2.size) hn16
    rw [hPd] at hpd
    have HPD := Lib.hid hPd
    have HPAD := Lib.hid hpd
    clear hpd hPd
    go_wp2_with fail
    refine (HPAD.out).mono ?_
    rintro e x3 ⟨rfl, hq⟩
    have hKx3 := (hKw2).to (by omega) hq
    have hRx3 := (hRw2).to (by omega) hq
    have hBx3 := hBw2.trans (hq.mono hBw2.size)
    clear hq hKw2 hRw2 hBw2
    clear HPAD
    obtain ⟨gb, hgb⟩ : ∃ g : Nat, x3.heap.size = g := ⟨_, rfl⟩
    have hlw_heap_sizegb : w.heap.size < gb := by rw [← hgb]; exact hKx3.lt (by omega)
    have hlgRgb : gR < gb := by rw [← hgb]; exact hRx3.lt (by omega)
    have hlwgb : w.heap.size ≤ gb := by rw [← hgb]; exact hBx3.size
    have hq : Below x3.heap.size x3 (x3.alloc (.cells (arL 16 fun _ => 0).toArray 22)) := (Below.refl _ _).alloc (Nat.le_refl _) _
    have hKx4a := (hKx3).to (by omega) hq
    have hRx4a := (hRx3).to (by omega) hq
    have hbx4a := Ar.new x3 16 (fun _ => 0) 22
    have hBx4a := hBx3.alloc hBx3.size (.cells (arL 16 fun _ => 0).toArray 22)
    rw [hgb] at hbx4a
    clear hq hKx3 hRx3 hBx3
    go_upto_region 2 with (first | (refine wpList_store_ar rfl _ _ _ rfl _ _ _ (P) rfl rfl hbx4a (size16b _) ?_; intro x4 hbx4 belx4 sizx4 keex4) | fail)
    have hKx4 := (hKx4a).keep hlw_heap_sizegb belx4
    have hRx4 := (hRx4a).keep hlgRgb belx4
    have hBx4 := hBx4a.trans (belx4.mono hlwgb)
    clear hKx4a hRx4a hbx4a hBx4a belx4 sizx4 keex4 hgb
    try dsimp only [Act.put]
    by_cases hn0 : n = 0
    · have hni : (n : Int) = 0 := by omega
      go_wp2_with (first | (refine wpList_build_by rfl _ _ rfl [] rfl _ (z0.out _) ?_) | (refine wpList_store_ar rfl _ _ _ rfl _ _ _ (fun _ => 0) rfl rfl hRx4 (size16b _) ?_; intro y8 hRy8 bel8 siz8 kee8))
      refine bodyPost_ret_ar rfl rfl hRy8 Tryd.arr16b (size16b _) rfl ⟨by rw [hrF_no hlen (.inl hn0)]; rfl, hBx4.trans (bel8.mono (by omega))⟩
    · have hni : ¬ (n : Int) = 0 := by omega
      go_upto_region 4 with fail
      refine wp_region_noPanic ?_
      have hRad := hRx4.drew
      refine wp_region_held_drew (S := fun W => Ar W gb 16 (P) ∧ Ar W w.heap.size 16 (o) ∧ Below w.heap.size w W) (by kernel_rfl) ⟨hbx4.drew, hKx4.drew, hBx4.drew⟩ (fun hHeld => ?_)
      clear hbx4 hKx4 hBx4 hRx4
      generalize World.drew x4 = ad at *
      refine wpAnyH_take (i := 0) (v := ?va1) rfl (by kernel_rfl) (by kernel_rfl) (by kernel_rfl) (fun _ _ _ h => h) (Or.inl ⟨by rfl, ?hya1⟩) (by assumption) ?resta1
      case hya1 =>
        intro W hSw
        go_simp
        try with_reducible rfl
      simp only [Act.put, List.setIfInBounds_toArray, List.set_cons_zero, List.set_cons_succ, List.getElem_toArray, List.getElem_cons_zero]
      refine wpAnyH_take (i := 2) (v := .agg (arL 16 (P)).toArray) rfl (by kernel_rfl) (by kernel_rfl) (by kernel_rfl) (fun _ _ _ h => h) (yieldsIf_load_mid (by rfl) _ _ rfl gb (0) rfl (arL 16 (P)) _ (fun W hSw => hSw.1.range) Tryd.arr16b rfl (size16b _)) (by assumption) ?_
      simp only [Act.put, List.setIfInBounds_toArray, List.set_cons_zero, List.set_cons_succ, List.getElem_toArray, List.getElem_cons_zero, List.getElem_cons_succ]
      refine wpAnyH_take (i := 3) (v := .agg (arL 16 (o)).toArray) rfl (by kernel_rfl) (by kernel_rfl) (by kernel_rfl) (fun _ _ _ h => h) (yieldsIf_load_mid (by rfl) _ _ rfl w.heap.size (0) rfl (arL 16 (o)) _ (fun W hSw => hSw.2.1.range) Tryd.arr16b rfl (size16b _)) (by assumption) ?_
      simp only [Act.put, List.setIfInBounds_toArray, List.set_cons_zero, List.set_cons_succ, List.getElem_toArray, List.getElem_cons_zero, List.getElem_cons_succ]
      refine wpAnyH_take (i := 4) (v := ?va2) rfl (by kernel_rfl) (by kernel_rfl) (by kernel_rfl) (fun _ _ _ h => h) (Or.inl ⟨by rfl, ?hya2⟩) (by assumption) ?resta2
      case hya2 =>
        intro W hSw
        go_simp
        try with_reducible rfl
      simp only [Act.put, List.setIfInBounds_toArray, List.set_cons_zero, List.set_cons_succ, List.getElem_toArray, List.getElem_cons_zero, List.getElem_cons_succ]
      refine wpAnyH_ready (rs := [1]) (by kernel_rfl) (by simp) ?_
      refine AllReadyH.cons rfl (fun K hK => ?_) AllReadyH.nil
      go_simp
      refine (HCIP.out _ (hHeld.2.2)).mono ?_
      rintro e a3 ⟨rfl, hq⟩
      go_wp2_with fail
      have hRa3 := (hRad).to (by omega) hq
      refine hK.out _ _ ⟨(hHeld.1).to (by omega) hq, (hHeld.2.1).to (by omega) hq, (hHeld.2.2).trans (hq.mono (hHeld.2.2).size)⟩ (fun hHeld2 => ?_)
      clear hK K hHeld hq hRad
      have hHeld := hHeld2
      clear hHeld2
      try simp only [Act.put, List.setIfInBounds_toArray, List.set_cons_zero, List.set_cons_succ, List.getElem_toArray, List.getElem_cons_zero, List.getElem_cons_succ]
      refine wpAnyH_ready (rs := [5]) (by kernel_rfl) (by simp) ?_
      refine AllReadyH.cons rfl (fun K hK => ?_) AllReadyH.nil
      go_simp
      refine (tstar v p s _ (HV.out.to (hHeld.2.2))).mono ?_
      rintro e a4 ⟨rfl, hq⟩
      go_wp2_with fail
      have hRa4 := (hRa3).to (by omega) hq
      refine hK.out _ _ ⟨(hHeld.1).to (by omega) hq, (hHeld.2.1).to (by omega) hq, (hHeld.2.2).trans (hq.mono (hHeld.2.2).size)⟩ (fun hHeld2 => ?_)
      clear hK K hHeld hq hRa3
      have hHeld := hHeld2
      clear hHeld2
      try simp only [Act.put, List.setIfInBounds_toArray, List.set_cons_zero, List.set_cons_succ, List.getElem_toArray, List.getElem_cons_zero, List.getElem_cons_succ]
      refine wpAnyH_ready (rs := [6]) (by kernel_rfl) (by simp) ?_
      refine AllReadyH.cons rfl (fun K hK => ?_) AllReadyH.nil
      go_simp
      refine (bxor o s _ HOB.out HSL.out).mono ?_
      rintro e a5 ⟨rfl, hq⟩
      go_wp2_with fail
      have hRa5 := (hRa4).to (by omega) hq
      refine hK.out _ _ ⟨(hHeld.1).to (by omega) hq, (hHeld.2.1).to (by omega) hq, (hHeld.2.2).trans (hq.mono (hHeld.2.2).size)⟩ (fun hHeld2 => ?_)
      clear hK K hHeld hq hRa4
      have hHeld := hHeld2
      clear hHeld2
      try simp only [Act.put, List.setIfInBounds_toArray, List.set_cons_zero, List.set_cons_succ, List.getElem_toArray, List.getElem_cons_zero, List.getElem_cons_succ]
      refine wpAnyH_ready (rs := [7]) (by kernel_rfl) (by simp) ?_
      refine AllReadyH.cons rfl (fun K hK => ?_) AllReadyH.nil
      go_simp
      refine (bxor P (adF o s) _ HPB.out (adF_lt HOB.out HSL.out)).mono ?_
      rintro e a6 ⟨rfl, hq⟩
      go_wp2_with fail
      have hRa6 := (hRa5).to (by omega) hq
      refine hK.out _ _ ⟨(hHeld.1).to (by omega) hq, (hHeld.2.1).to (by omega) hq, (hHeld.2.2).trans (hq.mono (hHeld.2.2).size)⟩ (fun hHeld2 => ?_)
      clear hK K hHeld hq hRa5
      have hHeld := hHeld2
      clear hHeld2
      try simp only [Act.put, List.setIfInBounds_toArray, List.set_cons_zero, List.set_cons_succ, List.getElem_toArray, List.getElem_cons_zero, List.getElem_cons_succ]
      refine wpAnyH_ready (rs := [8]) (by kernel_rfl) (by simp) ?_
      refine AllReadyH.cons rfl (fun K hK => ?_) AllReadyH.nil
      go_simp
      refine (fencrypt (.pointer p) f (adF P (adF o s)) _ HFB.out (adF_lt HPB.out (adF_lt HOB.out HSL.out)) (HC.out.to (hHeld.2.2)) (HX.out.keep (hHeld.2.2))).mono ?_
      rintro e a7 ⟨rfl, hq⟩
      go_wp2_with fail
      have hRa7 := (hRa6).to (by omega) hq
      refine hK.out _ _ ⟨(hHeld.1).to (by omega) hq, (hHeld.2.1).to (by omega) hq, (hHeld.2.2).trans (hq.mono (hHeld.2.2).size)⟩ (fun hHeld2 => ?_)
      clear hK K hHeld hq hRa6
      have hHeld := hHeld2
      clear hHeld2
      try simp only [Act.put, List.setIfInBounds_toArray, List.set_cons_zero, List.set_cons_succ, List.getElem_toArray, List.getElem_cons_zero, List.getElem_cons_succ]
      refine wpAnyH_ready (rs := [9]) (by kernel_rfl) (by simp) ?_
      refine AllReadyH.cons rfl (fun K hK => ?_) AllReadyH.nil
      rw [if_pos (by rfl)]
      refine wp_store_mid _ _ _ rfl gR 0 (arL 16 (enF f (adF P (adF o s)))).toArray rfl rfl hRa7.there (size16b _) (all_oneCell_toArray (arL_one 16 (enF f (adF P (adF o s))))) ?_
      have hRa8 := hRa7.whole (enF f (adF P (adF o s)))
      have hSa8 := show Ar (World.setCells a7 gR 0 (arL 16 (enF f (adF P (adF o s))))) gb 16 (P) ∧ Ar (World.setCells a7 gR 0 (arL 16 (enF f (adF P (adF o s))))) w.heap.size 16 (o) ∧ Below w.heap.size w (World.setCells a7 gR 0 (arL 16 (enF f (adF P (adF o s))))) from ⟨(hHeld.1).apart (b := gR) (by omega) (arL 16 (enF f (adF P (adF o s)))) 0, (hHeld.2.1).apart (b := gR) (by omega) (arL 16 (enF f (adF P (adF o s)))) 0, (hHeld.2.2).trans (Below.setCells (Below.refl w.heap.size _) (b := gR) (by omega) (arL 16 (enF f (adF P (adF o s)))) 0)⟩
      dsimp only [List.toList_toArray]
      generalize World.setCells a7 gR 0 (arL 16 (enF f (adF P (adF o s)))) = a8 at *
      refine hK.out _ _ hSa8 (fun hHeld2 => ?_)
      clear hK K hHeld hSa8 hRa7
      have hHeld := hHeld2
      clear hHeld2
      try simp only [Act.put]
      refine wpAnyH_done (by kernel_rfl) ?_ _
      have hR9 := hRa8
      have hB9 := hHeld.2.2
      clear hHeld hRa8
      refine NoPanic.normal ?_
      go_wp2_with fail
      refine bodyPost_ret_ar rfl rfl hR9 Tryd.arr16b (size16b _) rfl ⟨by rw [hrF_yes hlen hn0 hn16, HPD.out], hB9⟩

set_option maxHeartbeats 4000000 in
theorem hsum (q : Option Addr) (f s : Nat → Nat) (A : Option Addr) (n c : Nat) (l : List UInt8) (w : World) (hf : B16 f) (hs : enF f zF = s) (hS : Sl w w.heap.size A n l) (hnc : n ≤ c) (hn : n ≤ 1000000) (hm : TabM w q f) (hx : Boxes w) :
    Calls Tryd.prog 8 #[.pointer q, .slice A n c] w fun e w' => e = .returned (.agg (arL 16 (haF f s l)).toArray) ∧ Below w.heap.size w w' := by
  obtain ⟨w1, hw1⟩ : ∃ V : World, V = w.alloc (.cells (arL 16 (fun _ => 0)).toArray 22) := ⟨_, rfl⟩
  have hs1 : w1.heap.size = w.heap.size + 1 := by rw [hw1]; simp
  have hBw1 : Below w.heap.size w w1 := by rw [hw1]; exact (Below.refl _ _).alloc (Nat.le_refl _) _
  have hRw1 : Ar w1 w.heap.size 16 (fun _ => 0) := by rw [hw1]; exact Ar.new w 16 _ _
  have hz := zero16b
  have hlen := hS.len
  have HLEN := Lib.hid hlen
  have HFB := Lib.hid hf
  have HS := Lib.hid hS
  have HM := Lib.hid hm
  have HX := Lib.hid hx
  have HN := Lib.hid hn
  have HS0 := Lib.hid hs
  have HSL := Lib.hid (show B16 s by rw [← hs]; exact enR_lt hf zF_lt 10)
  obtain ⟨N, hN⟩ : ∃ N : Nat, n / 16 = N := ⟨_, rfl⟩
  obtain ⟨o, ho⟩ : ∃ o : Nat, 16 * N = o := ⟨_, rfl⟩
  have HFA := Lib.hid (hfacts hn hN ho)
  have HNN := Lib.hid hN
  have HO := Lib.hid ho
  obtain ⟨A9, hsl, hsl3⟩ := slice_from A n c o (by omega) hnc
  have HSLI := Lib.hid hsl
  have HSL2 := Lib.hid hsl3
  have HN6 := Lib.hid (show N ≤ 1000000 by omega)
  clear hf hS hm hx hn hs hN ho hsl hsl3 hlen hnc
  go_enter Tryd.func8, Tryd.ntmps8
  go_upto_region 1 with fail
  rw [← hw1]
  clear hw1
  try simp only [Nat.add_assoc, Nat.reduceAdd]
  clear hs1 
  go_wp2_with fail
  refine (HM.out _ hBw1).mono ?_
  rintro e x1 ⟨q1, rfl, hT0, hq⟩
  obtain ⟨gM, hgM⟩ : ∃ g, x1.heap.size - 1 = g := ⟨_, rfl⟩
  have hMx1 : TabB x1 gM (.pointer q1) f := by rw [← hgM]; exact TabB.new hT0 (Nat.lt_of_lt_of_le (Nat.zero_lt_of_lt (hRw1.lt (by omega))) hq.size)
  clear hT0 hgM
  have hRx1 := (hRw1).to (by omega) hq
  have hBx1 := hBw1.trans (hq.mono hBw1.size)
  clear hq hRw1 hBw1
  have HB1 := Lib.hid (ball A n c l x1 ((HS.out.below hBx1).more hBx1.size) HN.out)
  go_wp2_with fail
  refine (HB1.out).mono ?_
  rintro e x2 ⟨gA, Bs, rfl, la, lb, lc, hcB, hAl, hq⟩
  have HCB := Lib.hid hcB
  have HAL := Lib.hid hAl
  have HLC := Lib.hid lc
  clear hcB hAl la lb lc HB1
  have hRx2 := (hRx1).to (by omega) hq
  have hMx2 := (hMx1).to hq
  have hBx2 := hBx1.trans (hq.mono hBx1.size)
  clear hq hRx1 hMx1 hBx1
  go_wp2_with fail
  refine (htotal q1 f s (pt l) N 61 #[.pointer (some ⟨Bs, 0, none⟩)] (KpP x2.heap.size Bs) (fun pre => ∃ k, k ≤ n / 16 ∧ pre = List.range k) x2 HFB.out HS0.out (fun k j _ => pt_lt _ _ _) HN6.out hMx2.tab (HX.out.keep hBx2) (enters_of Tryd.func61 (by kernel_rfl) rfl) (HNN.out ▸ parts_stops 4 (by omega) Bs x2.heap.size _ n n l HN.out (Nat.le_refl _) x2 (Nat.le_refl _) HLC.out HCB.out HAL.out) (fun h k => h.trans k) (KpP.putObj (Nat.le_refl _) HLC.out) (fun _ _ h => ⟨h, h.block Bs HLC.out⟩)).mono ?_
  rintro e x3 ⟨rfl, hq⟩
  have hRx3 := (hRx2).to (by omega) hq
  have hMx3 := (hMx2).to hq
  have hBx3 := hBx2.trans (hq.mono hBx2.size)
  clear hq hRx2 hMx2 hBx2
  clear HCB HAL HLC
  obtain ⟨v1, hv1⟩ : ∃ V : World, V = x3.alloc (.cells (arL 16 fun _ => 0).toArray 22) := ⟨_, rfl⟩
  have hsv1 : v1.heap.size = x3.heap.size + 1 := by rw [hv1]; simp
  have hq : Below x3.heap.size x3 v1 := by rw [hv1]; exact (Below.refl _ _).alloc (Nat.le_refl _) _
  have hRv1 := (hRx3).to (by omega) hq
  have hMv1 := (hMx3).to hq
  have hBv1 := hBx3.trans (hq.mono hBx3.size)
  have hUv1 : Ar v1 x3.heap.size 16 (fun _ => 0) := by rw [hv1]; exact Ar.new x3 16 _ _
  have hlMU : gM < x3.heap.size := hMx3.lt
  have hlRU : w.heap.size < x3.heap.size := hRx3.lt (by omega)
  clear hq hRx3 hMx3 hBx3
  obtain ⟨v2, hv2⟩ : ∃ V : World, V = v1.alloc (.cells (arL 16 fun _ => 0).toArray 22) := ⟨_, rfl⟩
  have hq : Below v1.heap.size v1 v2 := by rw [hv2]; exact (Below.refl _ _).alloc (Nat.le_refl _) _
  have hRv2 := (hRv1).to (by omega) hq
  have hMv2 := (hMv1).to hq
  have hUv2 := hUv1.to (by omega) hq
  have hBv2 := hBv1.trans (hq.mono hBv1.size)
  have hOv2 : Ar v2 (x3.heap.size + 1) 16 (fun _ => 0) := by rw [hv2, ← hsv1]; exact Ar.new v1 16 _ _
  clear hq hsv1 hRv1 hMv1 hUv1 hBv1
  go_upto_region 3 with (first | (refine wpList_store_ar rfl _ _ _ rfl _ _ _ (hsF f s (pt l) N) rfl rfl (by rw [← hv1, ← hv2]; exact hUv2) (size16b _) ?_; intro y8 hUy8 bel8 siz8 kee8) | (refine wpList_store_ar rfl _ _ _ rfl _ _ _ (atF zF s N) rfl rfl (kee8 _ _ _ (by omega) (by rw [← hv1, ← hv2]; exact hOv2)) (size16b _) ?_; intro y9 hOy9 bel9 siz9 kee9) | fail)
  rw [← hv1, ← hv2] at bel8
  obtain ⟨gU, hgU⟩ : ∃ g : Nat, x3.heap.size = g := ⟨_, rfl⟩
  obtain ⟨gO, hgO⟩ : ∃ g : Nat, x3.heap.size + 1 = g := ⟨_, rfl⟩
  have hlUO : gU < gO := by omega
  try rw [hgO]
  try rw [hgU]
  rw [hgU] at hUy8 bel8 hlMU hlRU
  rw [hgO] at hOy9 bel9
  have hUy9 := hUy8.keep hlUO bel9
  have hRy9 := (hRv2.keep hlRU bel8).keep (by omega) bel9
  have hMy9 := (hMv2.keep hlMU bel8).keep (by omega) bel9
  have hBy9 := (hBv2.trans (bel8.mono (by omega))).trans (bel9.mono (by omega))
  clear hUy8 bel8 bel9 hRv2 hMv2 hBv2 hUv2 hOv2 siz8 siz9 kee8 kee9 hv1 hv2 hgU hgO
  try dsimp only [Act.put]
  refine wp_region_noPanic ?_
  have hMd := hMy9.drew
  have hRad := hRy9.drew
  refine wp_region_held_drew (S := fun W => Ar W gU 16 (hsF f s (pt l) N) ∧ Ar W gO 16 (atF zF s N) ∧ Below w.heap.size w W) (by kernel_rfl) ⟨hUy9.drew, hOy9.drew, hBy9.drew⟩ (fun hHeld => ?_)
  clear hUy9 hOy9 hMy9 hBy9 hRy9
  generalize World.drew y9 = ad at *
  refine wpAnyH_take (i := 0) (v := .agg (arL 16 (hsF f s (pt l) N)).toArray) rfl (by kernel_rfl) (by kernel_rfl) (by kernel_rfl) (fun _ _ _ h => h) (yieldsIf_load_mid (by rfl) _ _ rfl gU (0) rfl (arL 16 (hsF f s (pt l) N)) _ (fun W hSw => hSw.1.range) Tryd.arr16b rfl (size16b _)) (by assumption) ?_
  simp only [Act.put, List.setIfInBounds_toArray, List.set_cons_zero, List.set_cons_succ, List.getElem_toArray, List.getElem_cons_zero]
  refine wpAnyH_take (i := 1) (v := ?va1) rfl (by kernel_rfl) (by kernel_rfl) (by kernel_rfl) (fun _ _ _ h => h) (Or.inl ⟨by rfl, ?hya1⟩) (by assumption) ?resta1
  case hya1 =>
    intro W hSw
    go_simp
    try with_reducible rfl
  simp only [Act.put, List.setIfInBounds_toArray, List.set_cons_zero, List.set_cons_succ, List.getElem_toArray, List.getElem_cons_zero, List.getElem_cons_succ]
  refine wpAnyH_take (i := 2) (v := .agg (arL 16 (atF zF s N)).toArray) rfl (by kernel_rfl) (by kernel_rfl) (by kernel_rfl) (fun _ _ _ h => h) (yieldsIf_load_mid (by rfl) _ _ rfl gO (0) rfl (arL 16 (atF zF s N)) _ (fun W hSw => hSw.2.1.range) Tryd.arr16b rfl (size16b _)) (by assumption) ?_
  simp only [Act.put, List.setIfInBounds_toArray, List.set_cons_zero, List.set_cons_succ, List.getElem_toArray, List.getElem_cons_zero, List.getElem_cons_succ]
  refine wpAnyH_take (i := 3) (v := ?va2) rfl (by kernel_rfl) (by kernel_rfl) (by kernel_rfl) (fun _ _ _ h => h) (Or.inl ⟨by rfl, ?hya2⟩) (by assumption) ?resta2
  case hya2 =>
    intro W hSw
    go_simp
    try with_reducible rfl
  simp only [Act.put, List.setIfInBounds_toArray, List.set_cons_zero, List.set_cons_succ, List.getElem_toArray, List.getElem_cons_zero, List.getElem_cons_succ]
  refine wpAnyH_take (i := 4) (v := ?va3) rfl (by kernel_rfl) (by kernel_rfl) (by kernel_rfl) (fun _ _ _ h => h) (Or.inl ⟨by rfl, ?hya3⟩) (by assumption) ?resta3
  case hya3 =>
    intro W hSw
    go_simp
    try with_reducible rfl
  simp only [Act.put, List.setIfInBounds_toArray, List.set_cons_zero, List.set_cons_succ, List.getElem_toArray, List.getElem_cons_zero, List.getElem_cons_succ]
  refine wpAnyH_take (i := 5) (v := ?va4) rfl (by kernel_rfl) (by kernel_rfl) (by kernel_rfl) (fun _ _ _ h => h) (Or.inl ⟨by rfl, ?hya4⟩) (by assumption) ?resta4
  case hya4 =>
    intro W hSw
    go_simp
    try with_reducible rfl
  simp only [Act.put, List.setIfInBounds_toArray, List.set_cons_zero, List.set_cons_succ, List.getElem_toArray, List.getElem_cons_zero, List.getElem_cons_succ]
  refine wpAnyH_take (i := 6) (v := ?va5) rfl (by kernel_rfl) (by kernel_rfl) (by kernel_rfl) (fun _ _ _ h => h) (Or.inl ⟨by rfl, ?hya5⟩) (by assumption) ?resta5
  case hya5 =>
    intro W hSw
    obtain ⟨j1, j2, j3, j4, j5, j6, j7⟩ := HFA.out
    go_simp
    try with_reducible rfl
  simp only [Act.put, List.setIfInBounds_toArray, List.set_cons_zero, List.set_cons_succ, List.getElem_toArray, List.getElem_cons_zero, List.getElem_cons_succ]
  refine wpAnyH_take (i := 7) (v := ?va6) rfl (by kernel_rfl) (by kernel_rfl) (by kernel_rfl) (fun _ _ _ h => h) (Or.inl ⟨by rfl, ?hya6⟩) (by assumption) ?resta6
  case hya6 =>
    intro W hSw
    obtain ⟨j1, j2, j3, j4, j5, j6, j7⟩ := HFA.out
    go_simp
    try with_reducible rfl
  simp only [Act.put, List.setIfInBounds_toArray, List.set_cons_zero, List.set_cons_succ, List.getElem_toArray, List.getElem_cons_zero, List.getElem_cons_succ]
  refine wpAnyH_take (i := 8) (v := ?va7) rfl (by kernel_rfl) (by kernel_rfl) (by kernel_rfl) (fun _ _ _ h => h) (Or.inl ⟨by rfl, ?hya7⟩) (by assumption) ?resta7
  case hya7 =>
    intro W hSw
    have hslc := HSLI.out
    go_simp
    try with_reducible rfl
  simp only [Act.put, List.setIfInBounds_toArray, List.set_cons_zero, List.set_cons_succ, List.getElem_toArray, List.getElem_cons_zero, List.getElem_cons_succ]
  refine wpAnyH_ready (rs := [9]) (by kernel_rfl) (by simp) ?_
  refine AllReadyH.cons rfl (fun K hK => ?_) AllReadyH.nil
  go_simp
  refine (hrest (.pointer q1) f (atF zF s N) A9 (n - o) (c - o) (l.drop o) _ HFB.out (atF_lt zF_lt HSL.out N) (HSL2.out _ _ _ ((HS.out.below (hHeld.2.2)).more (hHeld.2.2).size)) hMd.tab (HX.out.keep (hHeld.2.2))).mono ?_
  rintro e a8 ⟨rfl, hq⟩
  rw [HS0.out]
  go_wp2_with fail
  have hRa8 := (hRad).to (by omega) hq
  refine hK.out _ _ ⟨(hHeld.1).to (by omega) hq, (hHeld.2.1).to (by omega) hq, (hHeld.2.2).trans (hq.mono (hHeld.2.2).size)⟩ (fun hHeld2 => ?_)
  clear hK K hHeld hq hRad
  have hHeld := hHeld2
  clear hHeld2
  try simp only [Act.put, List.setIfInBounds_toArray, List.set_cons_zero, List.set_cons_succ, List.getElem_toArray, List.getElem_cons_zero, List.getElem_cons_succ]
  refine wpAnyH_ready (rs := [10]) (by kernel_rfl) (by simp) ?_
  refine AllReadyH.cons rfl (fun K hK => ?_) AllReadyH.nil
  go_simp
  refine (bxor (hsF f s (pt l) N) (hrF f s (atF zF s N) (l.drop o)) _ (hsF_lt HFB.out HSL.out (fun k j _ => pt_lt _ _ _) N) (hrF_lt HFB.out HSL.out (atF_lt zF_lt HSL.out N) _)).mono ?_
  rintro e a9 ⟨rfl, hq⟩
  go_wp2_with fail
  have hRa9 := (hRa8).to (by omega) hq
  refine hK.out _ _ ⟨(hHeld.1).to (by omega) hq, (hHeld.2.1).to (by omega) hq, (hHeld.2.2).trans (hq.mono (hHeld.2.2).size)⟩ (fun hHeld2 => ?_)
  clear hK K hHeld hq hRa8
  have hHeld := hHeld2
  clear hHeld2
  try simp only [Act.put, List.setIfInBounds_toArray, List.set_cons_zero, List.set_cons_succ, List.getElem_toArray, List.getElem_cons_zero, List.getElem_cons_succ]
  refine wpAnyH_ready (rs := [11]) (by kernel_rfl) (by simp) ?_
  refine AllReadyH.cons rfl (fun K hK => ?_) AllReadyH.nil
  rw [if_pos (by rfl)]
  refine wp_store_mid _ _ _ rfl w.heap.size 0 (arL 16 (adF (hsF f s (pt l) N) (hrF f s (atF zF s N) (l.drop o)))).toArray rfl rfl hRa9.there (size16b _) (all_oneCell_toArray (arL_one 16 (adF (hsF f s (pt l) N) (hrF f s (atF zF s N) (l.drop o))))) ?_
  have hRa10 := hRa9.whole (adF (hsF f s (pt l) N) (hrF f s (atF zF s N) (l.drop o)))
  have hSa10 := show Ar (World.setCells a9 w.heap.size 0 (arL 16 (adF (hsF f s (pt l) N) (hrF f s (atF zF s N) (l.drop o))))) gU 16 (hsF f s (pt l) N) ∧ Ar (World.setCells a9 w.heap.size 0 (arL 16 (adF (hsF f s (pt l) N) (hrF f s (atF zF s N) (l.drop o))))) gO 16 (atF zF s N) ∧ Below w.heap.size w (World.setCells a9 w.heap.size 0 (arL 16 (adF (hsF f s (pt l) N) (hrF f s (atF zF s N) (l.drop o))))) from ⟨(hHeld.1).apart (b := w.heap.size) (by omega) (arL 16 (adF (hsF f s (pt l) N) (hrF f s (atF zF s N) (l.drop o)))) 0, (hHeld.2.1).apart (b := w.heap.size) (by omega) (arL 16 (adF (hsF f s (pt l) N) (hrF f s (atF zF s N) (l.drop o)))) 0, (hHeld.2.2).trans (Below.setCells (Below.refl w.heap.size _) (b := w.heap.size) (by omega) (arL 16 (adF (hsF f s (pt l) N) (hrF f s (atF zF s N) (l.drop o)))) 0)⟩
  dsimp only [List.toList_toArray]
  generalize World.setCells a9 w.heap.size 0 (arL 16 (adF (hsF f s (pt l) N) (hrF f s (atF zF s N) (l.drop o)))) = a10 at *
  refine hK.out _ _ hSa10 (fun hHeld2 => ?_)
  clear hK K hHeld hSa10 hRa9
  have hHeld := hHeld2
  clear hHeld2
  try simp only [Act.put]
  refine wpAnyH_done (by kernel_rfl) ?_ _
  have hR9 := hRa10
  have hB9 := hHeld.2.2
  clear hHeld hRa10
  refine NoPanic.normal ?_
  go_wp2_with fail
  refine bodyPost_ret_ar rfl rfl hR9 Tryd.arr16b (size16b _) rfl ⟨by rw [haF_eq HLEN.out HNN.out HO.out], hB9⟩
end Go.Proofs.YtflbpohcoghonaaDoor
