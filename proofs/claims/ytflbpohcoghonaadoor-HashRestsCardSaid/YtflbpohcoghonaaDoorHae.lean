/-
  Contract of the reference package of layer 11, by a walk through its text; what was there stays as it was.
-/
import Derived.Test.YtflbpohcoghonaaDoorHad
import Derived.Test.YtflbpohcoghonaaDoorGtb
import Derived.Test.YtflbpohcoghonaaDoorGbk
import Derived.Deep.RegionHeld3
namespace Go.Proofs.YtflbpohcoghonaaDoor
open Go.RowKit
set_option linter.unusedVariables false
set_option maxRecDepth 100000
set_option linter.unusedSimpArgs false
set_option maxHeartbeats 1600000 in
theorem refpart3 (g o n c i : Nat) (f : Nat → Nat) (w : World) (hi : 16 * i + 16 ≤ n) (hnc : n ≤ c) (hn6 : n ≤ 1000000) (hcell : ∀ j, j < 16 → w.cell? ⟨g, o + 16 * i + j, none⟩ = some (.int .u8 (f j : Nat))) (hg : g < w.heap.size) :
    Calls Tryd.prog 13 #[.slice (some ⟨g, o, none⟩) n c, .int .i64 (i : Int)] w fun e w' => e = .returned (.agg (arL 16 f).toArray) ∧ Below w.heap.size w w' := by
  have hz := zero16x
  obtain ⟨w2, hw2⟩ : ∃ w2 : World, w2 = w.alloc (.cells (arL 16 fun _ => 0).toArray 22) := ⟨_, rfl⟩
  have hb2 : Below w.heap.size w w2 := by rw [hw2]; exact (Below.refl _ _).alloc (by omega) _
  have hR2 : Ar w2 w.heap.size 16 (fun _ => 0) := by rw [hw2]; exact Ar.new w 16 _ _
  obtain ⟨s, hs⟩ : ∃ s : Nat, 16 * i = s := ⟨_, rfl⟩
  have hr : w2.rangeAt g (o + s) (arL 16 f) := fun j v hv => by
    obtain ⟨hj, rfl⟩ := arL_get_some hv
    rw [hw2, World.cell?_alloc_lt w _ ⟨g, o + s + j, none⟩ hg, ← hs]
    exact hcell j hj
  have e1 : wrap64 (16 * (i : Int)) = (s : Int) := by rw [IntWalk.wrap64_in _ (by omega)]; omega
  have e2 : IntKind.i64.wrap (16 * (i : Int)) = (s : Int) := by rw [wraps_i64' _ (by omega) (by omega)]; omega
  have e3 : 16 * (i : Int) = (s : Int) := by omega
  have e4 : (s : Int) + 16 ≤ (c : Int) := by omega
  clear hs hcell
  go_enter Tryd.func13, Tryd.ntmps13
  go_upto_region 1 with fail
  rw [← hw2]
  clear hw2
  have hat := arrayAt16
  have e5 : s + 16 - s = 16 := by omega
  go_wp2_with (first
    | (refine wpList_load_mid rfl _ _ rfl g (o + s) rfl (arL 16 f) _ hr Tryd.arr16x rfl (size16x _) ?_)
    | (refine wpList_store_ar rfl _ _ _ rfl _ _ _ f rfl rfl hR2 (size16x _) ?_; intro w8 hA8 hb8 _ _))
  refine bodyPost_ret_ar rfl rfl hA8 Tryd.arr16x (size16x _) rfl ⟨rfl, ?_⟩
  exact hb2.trans (hb8.mono (by omega))

theorem pt_cell3 {w : World} {B n b o : Nat} {xs : List UInt8} (h : Sl w B (some ⟨b, o, none⟩) n xs) (k : Nat) (hk : 16 * k + 16 ≤ n) (j : Nat) (hj : j < 16) : w.cell? ⟨b, o + 16 * k + j, none⟩ = some (.int .u8 (pt xs k j : Nat)) := by
  have := pt_cells h k hk j _ (arL_get 16 _ j hj)
  rwa [Addr.add_mid] at this
/-- A region in every order that is left, and what follows once. -/
theorem wp_region_via {P : Program} {c : Code} {Q : Exit → Act → World → Prop} {a : Act} {w : World} {T : Act} (F : World → Prop) (h1 : Code.wp P c (fun e a w => e = .normal ∧ a = T ∧ F w) a w) (h2 : ∀ w, F w → Q .normal T w) : Code.wp P c Q a w :=
  Code.wp_mono (fun e a w h => by obtain ⟨rfl, rfl, h⟩ := h; exact h2 w h) h1
theorem wp_region_viaG {P : Program} {c : Code} {Q : Exit → Act → World → Prop} {a : Act} {w : World} {T : Nat → Act} (F : Nat → World → Prop) (h1 : Code.wp P c (fun e a w => e = .normal ∧ ∃ g, a = T g ∧ F g w) a w) (h2 : ∀ g w, F g w → Q .normal (T g) w) : Code.wp P c Q a w :=
  Code.wp_mono (fun e a w h => by obtain ⟨rfl, g, rfl, h⟩ := h; exact h2 g w h) h1
theorem rfacts {k q : Nat} (h : k + 1 = q) (hk : k < 1000000) : (k : Int) + 1 = (q : Int) ∧ wrap64 ((k : Int) + 1) = (q : Int) ∧ IntKind.i64.wrap ((k : Int) + 1) = (q : Int) ∧ wrap64 (q : Int) = (q : Int) ∧ IntKind.u64.wrap (q : Int) = (q : Int) ∧ IntKind.i64.wrap (q : Int) = (q : Int) := by
  subst h
  refine ⟨by omega, ?_, ?_, IntWalk.wrap64_in _ (by omega), wraps_u64' _ (by omega) (by omega), wraps_i64' _ (by omega) (by omega)⟩
  · rw [IntWalk.wrap64_in _ (by omega)]; omega
  · rw [wraps_i64' _ (by omega) (by omega)]; omega
theorem rfacts2 {n N o : Nat} (hn : n ≤ 1000000) (hN : n / 16 = N) (ho : 16 * N = o) : wrap64 (16 * (N : Int)) = (o : Int) ∧ IntKind.i64.wrap (16 * (N : Int)) = (o : Int) ∧ 16 * (N : Int) = (o : Int) ∧ IntKind.i64.wrap (o : Int) = (o : Int) := by
  refine ⟨?_, ?_, by omega, wraps_i64' _ (by omega) (by omega)⟩
  · rw [IntWalk.wrap64_in _ (by omega)]; omega
  · rw [wraps_i64' _ (by omega) (by omega)]; omega
theorem haF_none {f s : Nat → Nat} {l : List UInt8} {n N r : Nat} (hl : l.length = n) (hN : n / 16 = N) (hr : n % 16 = r) (h : r = 0) : hsF f s (pt l) N = haF f s l := by
  subst hl; subst hN
  unfold haF
  rw [hrF_no rfl (.inl (by rw [List.length_drop]; omega)), ad_zero]
theorem haF_some {f s P u a : Nat → Nat} {l : List UInt8} {n N r o : Nat} (hl : l.length = n) (hN : n / 16 = N) (hr : n % 16 = r) (h : r ≠ 0) (ho : 16 * N = o) (hP : lF (padL (l.drop o) 16) = P) (hu : hsF f s (pt l) N = u) (ha : atF zF s N = a) : adF u (enF f (adF P (adF a s))) = haF f s l := by
  subst hl; subst hN; subst ho; subst hP; subst hu; subst ha
  unfold haF
  rw [hrF_yes rfl (by rw [List.length_drop]; omega) (by rw [List.length_drop]; omega)]
theorem rfacts3 {n r : Nat} (hr : n % 16 = r) : ((n : Int)).tmod 16 = (r : Int) ∧ (n : Int) % 16 = (r : Int) := by
  refine ⟨?_, by omega⟩
  rw [Int.tmod_eq_emod_of_nonneg (by omega)]; omega

set_option maxHeartbeats 4000000 in
theorem rsum (f s : Nat → Nat) (A : Option Addr) (n c : Nat) (l : List UInt8) (w : World) (hf : B16 f) (hs : enF f zF = s) (hS : Sl w w.heap.size A n l) (hnc : n ≤ c) (hn : n ≤ 1000000) :
    Calls Tryd.prog 11 #[.agg (arL 432 (pkF (ek f) sb)).toArray, .slice A n c] w fun e w' => e = .returned (.agg (arL 16 (haF f s l)).toArray) ∧ Below w.heap.size w w' := by
  obtain ⟨dK, hfs, hrow⟩ := Tryd.structK
  have HS := Lib.hid hfs
  have HW := Lib.hid hrow
  clear hfs hrow
  obtain ⟨kE, hkE⟩ : ∃ k : Array Value, (arL 432 (pkF (ek f) sb)).toArray = k := ⟨_, rfl⟩
  obtain ⟨w1, hw1⟩ : ∃ V : World, V = w.alloc (.cells (arL 432 (pkF (ek f) sb)).toArray 34) := ⟨_, rfl⟩
  have hs1 : w1.heap.size = w.heap.size + 1 := by rw [hw1]; simp
  have hBw1 : Below w.heap.size w w1 := by rw [hw1]; exact (Below.refl _ _).alloc (Nat.le_refl _) _
  have hEw1 : Ar w1 w.heap.size 432 (pkF (ek f) sb) := by rw [hw1]; exact Ar.new w 432 _ _
  obtain ⟨w2, hw2⟩ : ∃ V : World, V = w1.alloc (.cells (arL 16 (fun _ => 0)).toArray 22) := ⟨_, rfl⟩
  have hs2 : w2.heap.size = w.heap.size + 2 := by rw [hw2]; simp [hs1]
  have hBw2 : Below w.heap.size w w2 := by rw [hw2]; exact hBw1.alloc (by omega) _
  have hEw2 := hEw1.alloc (by omega) (.cells (arL 16 (fun _ => 0)).toArray 22)
  rw [← hw2] at hEw2
  have hRw2 : Ar w2 (w.heap.size + 1) 16 (fun _ => 0) := by rw [hw2, ← hs1]; exact Ar.new w1 16 _ _
  clear hEw1 hBw1
  have HKE := Lib.hid hkE
  rw [hkE] at hw1
  rw [hkE]
  clear hkE
  have hz := zero16b
  have hlen := hS.len
  have HLEN := Lib.hid hlen
  have HFB := Lib.hid hf
  have HSS := Lib.hid hS
  have HSL := Lib.hid (show B16 s by rw [← hs]; exact enR_lt hf zF_lt 10)
  have hst := Lib.hid (fun V => refstar f V hf zF_lt)
  rw [hs] at hst
  obtain ⟨N, hN⟩ : ∃ N : Nat, n / 16 = N := ⟨_, rfl⟩
  obtain ⟨o, ho⟩ : ∃ o : Nat, 16 * N = o := ⟨_, rfl⟩
  obtain ⟨r, hr⟩ : ∃ r : Nat, n % 16 = r := ⟨_, rfl⟩
  have HFA := Lib.hid (hfacts hn hN ho)
  have HFB2 := Lib.hid (rfacts2 hn hN ho)
  have HFR := Lib.hid (rfacts3 hr)
  have HRR := Lib.hid hr
  have HNN := Lib.hid hN
  have HO := Lib.hid ho
  obtain ⟨A9, hsl, hsl3⟩ := slice_from A n c o (by omega) hnc
  have HSLI := Lib.hid hsl
  have HSL2 := Lib.hid hsl3
  have HN6 := Lib.hid (show N ≤ 1000000 by omega)
  have HN := Lib.hid hn
  have HNC := Lib.hid hnc
  have HPB := Lib.hid (fun k (j : Nat) (_ : j < 16) => pt_lt l k j)
  clear hf hS hn hs hN ho hr hsl hsl3 hlen hnc
  go_enter Tryd.func11, Tryd.ntmps11
  go_upto_region 1 with fail
  rw [← hw1, ← hw2]
  clear hw1 hw2
  try simp only [Nat.add_assoc, Nat.reduceAdd]
  obtain ⟨gR, hgR⟩ : ∃ g : Nat, w.heap.size + 1 = g := ⟨_, rfl⟩
  rw [hgR] at hRw2
  try rw [hgR]
  have hlR : w.heap.size < gR := by omega
  clear hs1 hs2 hgR
  go_wp2_with (refine wpList_load_mid rfl _ _ rfl w.heap.size 0 rfl (arL 432 (pkF (ek f) sb)) _ hEw2.range HS.out HW.out (sizeK _) ?_)
  refine (hst.out _).mono ?_
  rintro e x1 ⟨rfl, hq⟩
  have hEx1 := (hEw2).to (by omega) hq
  have hRx1 := (hRw2).to (by omega) hq
  have hBx1 := hBw2.trans (hq.mono hBw2.size)
  clear hq hEw2 hRw2 hBw2
  obtain ⟨gs, hgs⟩ : ∃ g : Nat, x1.heap.size = g := ⟨_, rfl⟩
  have hlw_heap_sizegs : w.heap.size < gs := by rw [← hgs]; exact hEx1.lt (by omega)
  have hlgRgs : gR < gs := by rw [← hgs]; exact hRx1.lt (by omega)
  have hlwgs : w.heap.size ≤ gs := by rw [← hgs]; exact hBx1.size
  have hq : Below x1.heap.size x1 (x1.alloc (.cells (arL 16 fun _ => 0).toArray 22)) := (Below.refl _ _).alloc (Nat.le_refl _) _
  have hEx2a := (hEx1).to (by omega) hq
  have hRx2a := (hRx1).to (by omega) hq
  have hsx2a := Ar.new x1 16 (fun _ => 0) 22
  have hBx2a := hBx1.alloc hBx1.size (.cells (arL 16 fun _ => 0).toArray 22)
  rw [hgs] at hsx2a
  clear hq hEx1 hRx1 hBx1
  go_upto_region 2 with (first | (refine wpList_store_ar rfl _ _ _ rfl _ _ _ (s) rfl rfl hsx2a (size16b _) ?_; intro x2 hsx2 belx2 sizx2 keex2) | fail)
  have hEx2 := (hEx2a).keep hlw_heap_sizegs belx2
  have hRx2 := (hRx2a).keep hlgRgs belx2
  have hBx2 := hBx2a.trans (belx2.mono hlwgs)
  clear hEx2a hRx2a hsx2a hBx2a belx2 sizx2 keex2 hgs
  try dsimp only [Act.put]
  obtain ⟨x3, hx3⟩ : ∃ V : World, V = x2.alloc (.cells (arL 16 fun _ => 0).toArray 22) := ⟨_, rfl⟩
  have hq : Below x2.heap.size x2 x3 := by rw [hx3]; exact (Below.refl _ _).alloc (Nat.le_refl _) _
  have hEx3 := (hEx2).to (by omega) hq
  have hRx3 := (hRx2).to (by omega) hq
  have hsx3 := (hsx2).to (by omega) hq
  have hBx3 := hBx2.trans (hq.mono hBx2.size)
  have hUx3 : Ar x3 x2.heap.size 16 (fun _ => 0) := by rw [hx3]; exact Ar.new x2 16 _ _
  have hlgsgU : gs < x2.heap.size := hsx2.lt (by omega)
  clear hq hEx2 hRx2 hsx2 hBx2
  go_upto_region 3 with fail
  rw [← hx3]
  clear hx3
  obtain ⟨gU, hgU⟩ : ∃ g : Nat, x2.heap.size = g := ⟨_, rfl⟩
  try rw [hgU]
  rw [hgU] at hUx3 hlgsgU
  clear hgU
  obtain ⟨x4, hx4⟩ : ∃ V : World, V = x3.alloc (.cells (arL 16 fun _ => 0).toArray 22) := ⟨_, rfl⟩
  have hq : Below x3.heap.size x3 x4 := by rw [hx4]; exact (Below.refl _ _).alloc (Nat.le_refl _) _
  have hEx4 := (hEx3).to (by omega) hq
  have hRx4 := (hRx3).to (by omega) hq
  have hsx4 := (hsx3).to (by omega) hq
  have hUx4 := (hUx3).to (by omega) hq
  have hBx4 := hBx3.trans (hq.mono hBx3.size)
  have hOx4 : Ar x4 x3.heap.size 16 (fun _ => 0) := by rw [hx4]; exact Ar.new x3 16 _ _
  have hlgUgO : gU < x3.heap.size := hUx3.lt (by omega)
  clear hq hEx3 hRx3 hsx3 hUx3 hBx3
  go_upto_region 4 with fail
  rw [← hx4]
  clear hx4
  obtain ⟨gO, hgO⟩ : ∃ g : Nat, x3.heap.size = g := ⟨_, rfl⟩
  try rw [hgO]
  rw [hgO] at hOx4 hlgUgO
  clear hgO
  obtain ⟨j1, j2, _⟩ := HFA.out
  have hN6 := HN6.out
  go_wp2_with fail
  clear j1 j2
  have hO0 := (hOx4.ext (f' := atF zF s 0) (fun j _ => by rw [atF_zero]; rfl))
  clear hOx4
  have hOx4 := hO0
  clear hO0
  go_loopw [9] (fun i wr => ∃ (k : Nat), k ≤ N ∧ i = .int .i64 k ∧ Ar wr w.heap.size 432 (pkF (ek f) sb) ∧ Ar wr gR 16 (fun _ => 0) ∧ Ar wr gs 16 (s) ∧ Ar wr gU 16 (hsF f s (pt l) k) ∧ Ar wr gO 16 (atF zF s k) ∧ Below w.heap.size w wr) (fun i _ => N - (intOf i).toNat)
  case atStart => exact ⟨0, Nat.zero_le _, rfl, hEx4, hRx4, hsx4, hUx4, hOx4, hBx4⟩
  case round =>
    clear hEx4 hRx4 hsx4 hUx4 hOx4 hBx4
    obtain ⟨k, hk, rfl, hE0, hR0, hs0, hU0, hO0, hB0⟩ := hrel
    have hEwr := hE0
    have hRwr := hR0
    have hswr := hs0
    have hUwr := hU0
    have hOwr := hO0
    have hBwr := hB0
    clear hE0 hR0 hs0 hU0 hO0 hB0
    by_cases hlt : k < N
    · have i1 : (k : Int) < (N : Int) := by omega
      have HK6 := Lib.hid (show 16 * k + 16 ≤ n by have := HNN.out; omega)
      obtain ⟨b, ob, hA1, hbl⟩ := sl_some HSS.out (Nat.lt_of_lt_of_le (Nat.succ_pos _) HK6.out)
      subst hA1
      obtain ⟨q, hq0⟩ : ∃ q : Nat, k + 1 = q := ⟨_, rfl⟩
      have HQF := Lib.hid (rfacts hq0 (by omega))
      have hub := Lib.hid (hsF_lt HFB.out HSL.out HPB.out k)
      have hob := Lib.hid (atF_lt zF_lt HSL.out k)
      have HST := Lib.hid (atF_step zF s k)
      have hfor := Lib.hid (fun V => reffor s (k + 1) V HSL.out (by omega))
      have HUE := Lib.hid (show adF (hsF f s (pt l) k) (enF f (adF (pt l k) (atF zF s (k + 1)))) = hsF f s (pt l) (k + 1) from rfl)
      obtain ⟨uk, huk⟩ : ∃ u, hsF f s (pt l) k = u := ⟨_, rfl⟩
      obtain ⟨ok, hok⟩ : ∃ u, atF zF s k = u := ⟨_, rfl⟩
      rw [huk] at hub HUE
      rw [hok] at hob HST
      rw [hq0] at HST hfor HUE
      have hdb := Lib.hid (dk_lt HSL.out (zer q + 2))
      obtain ⟨d, hd⟩ : ∃ d, dk s (zer q + 2) = d := ⟨_, rfl⟩
      rw [hd] at HST hfor hdb
      have ho1b := Lib.hid (adF_lt hob.out hdb.out)
      obtain ⟨o1, ho1⟩ : ∃ o1, atF zF s q = o1 := ⟨_, rfl⟩
      rw [HST.out, ho1] at ho1b
      rw [ho1] at HST HUE
      have hpb := Lib.hid (HPB.out k)
      obtain ⟨P, hP⟩ : ∃ P, pt l k = P := ⟨_, rfl⟩
      have HPC := Lib.hid (fun V hb => pt_cell3 ((HSS.out.below (w' := V) hb)) k HK6.out)
      rw [hP] at hpb HUE HPC
      have hxb := Lib.hid (adF_lt hpb.out ho1b.out)
      have heb := Lib.hid (show B16 (enF f (adF P o1)) from enR_lt HFB.out hxb.out 10)
      have HQ0 := Lib.hid hq0
      have HO1 := Lib.hid ho1
      rw [huk] at hUwr
      rw [hok] at hOwr
      clear huk hok hd hP hq0 ho1 hN6
      go_upto_region 8 with fail
      apply wp_region_via (F := fun W => Ar W w.heap.size 432 (pkF (ek f) sb) ∧ Ar W gR 16 (fun _ => 0) ∧ Ar W gs 16 (s) ∧ Ar W gU 16 (uk) ∧ Ar W gO 16 (o1) ∧ Below w.heap.size w W)
      case h1 =>
        refine wp_region_noPanic ?_
        have hOad := hOwr.drew
        refine wp_region_held_drew (S := fun W => Ar W w.heap.size 432 (pkF (ek f) sb) ∧ Ar W gR 16 (fun _ => 0) ∧ Ar W gs 16 (s) ∧ Ar W gU 16 (uk) ∧ Below w.heap.size w W) (by kernel_rfl) ⟨hEwr.drew, hRwr.drew, hswr.drew, hUwr.drew, hBwr.drew⟩ (fun hHeld => ?_)
        generalize World.drew wr = ad at *
        refine wpAnyH_take (i := 1) (v := .agg (arL 16 (s)).toArray) rfl (by kernel_rfl) (by kernel_rfl) (by kernel_rfl) (fun _ _ _ h => h) (yieldsIf_load_mid (by rfl) _ _ rfl gs (0) rfl (arL 16 (s)) _ (fun W hSw => hSw.2.2.1.range) Tryd.arr16b rfl (size16b _)) (by assumption) ?_
        simp only [Act.put, List.setIfInBounds_toArray, List.set_cons_zero, List.set_cons_succ, List.getElem_toArray, List.getElem_cons_zero, List.getElem_cons_succ]
        refine wpAnyH_take (i := 2) (v := ?va1) rfl (by kernel_rfl) (by kernel_rfl) (by kernel_rfl) (fun _ _ _ h => h) (Or.inl ⟨by rfl, ?hya1⟩) (by assumption) ?resta1
        case hya1 =>
          intro W hSw
          go_simp
          try with_reducible rfl
        simp only [Act.put, List.setIfInBounds_toArray, List.set_cons_zero, List.set_cons_succ, List.getElem_toArray, List.getElem_cons_zero, List.getElem_cons_succ]
        refine wpAnyH_take (i := 3) (v := ?va2) rfl (by kernel_rfl) (by kernel_rfl) (by kernel_rfl) (fun _ _ _ h => h) (Or.inl ⟨by rfl, ?hya2⟩) (by assumption) ?resta2
        case hya2 =>
          intro W hSw
          obtain ⟨j1, j2, j3, j4, j5, j6⟩ := HQF.out
          go_simp
          try with_reducible rfl
        simp only [Act.put, List.setIfInBounds_toArray, List.set_cons_zero, List.set_cons_succ, List.getElem_toArray, List.getElem_cons_zero, List.getElem_cons_succ]
        refine wpAnyH_take (i := 4) (v := ?va3) rfl (by kernel_rfl) (by kernel_rfl) (by kernel_rfl) (fun _ _ _ h => h) (Or.inl ⟨by rfl, ?hya3⟩) (by assumption) ?resta3
        case hya3 =>
          intro W hSw
          obtain ⟨j1, j2, j3, j4, j5, j6⟩ := HQF.out
          go_simp
          try with_reducible rfl
        simp only [Act.put, List.setIfInBounds_toArray, List.set_cons_zero, List.set_cons_succ, List.getElem_toArray, List.getElem_cons_zero, List.getElem_cons_succ]
        refine wpAnyH_ready (rs := [0, 5]) (by kernel_rfl) (by simp) ?_
        refine AllReadyH.cons rfl (fun K hK => ?_) (AllReadyH.cons rfl (fun K hK => ?_) AllReadyH.nil)
        · rw [if_pos (by rfl)]
          refine wp_load_mid _ _ rfl gO 0 rfl (arL 16 (ok)) _ hOad.range Tryd.arr16b rfl (size16b _) ?_
          refine hK.out _ _ hHeld (fun hHeld2 => ?_)
          clear hK K hHeld
          have hHeld := hHeld2
          clear hHeld2
          try simp only [Act.put, List.setIfInBounds_toArray, List.set_cons_zero, List.set_cons_succ, List.getElem_toArray, List.getElem_cons_zero]
          refine wpAnyH_ready (rs := [5]) (by kernel_rfl) (by simp) ?_
          refine AllReadyH.cons rfl (fun K hK => ?_) AllReadyH.nil
          go_simp
          refine (hfor.out _).mono ?_
          rintro e a4 ⟨rfl, hq⟩
          go_wp2_with fail
          have hOa4 := (hOad).to (by omega) hq
          refine hK.out _ _ ⟨(hHeld.1).to (by omega) hq, (hHeld.2.1).to (by omega) hq, (hHeld.2.2.1).to (by omega) hq, (hHeld.2.2.2.1).to (by omega) hq, (hHeld.2.2.2.2).trans (hq.mono (hHeld.2.2.2.2).size)⟩ (fun hHeld2 => ?_)
          clear hK K hHeld hq hOad
          have hHeld := hHeld2
          clear hHeld2
          try simp only [Act.put, List.setIfInBounds_toArray, List.set_cons_zero, List.set_cons_succ, List.getElem_toArray, List.getElem_cons_zero, List.getElem_cons_succ]
          refine wpAnyH_ready (rs := [6]) (by kernel_rfl) (by simp) ?_
          refine AllReadyH.cons rfl (fun K hK => ?_) AllReadyH.nil
          go_simp
          refine (refxor8 ok d _ hob.out hdb.out).mono ?_
          rintro e a5 ⟨rfl, hq⟩
          rw [HST.out]
          go_wp2_with fail
          have hOa5 := (hOa4).to (by omega) hq
          refine hK.out _ _ ⟨(hHeld.1).to (by omega) hq, (hHeld.2.1).to (by omega) hq, (hHeld.2.2.1).to (by omega) hq, (hHeld.2.2.2.1).to (by omega) hq, (hHeld.2.2.2.2).trans (hq.mono (hHeld.2.2.2.2).size)⟩ (fun hHeld2 => ?_)
          clear hK K hHeld hq hOa4
          have hHeld := hHeld2
          clear hHeld2
          try simp only [Act.put, List.setIfInBounds_toArray, List.set_cons_zero, List.set_cons_succ, List.getElem_toArray, List.getElem_cons_zero, List.getElem_cons_succ]
          refine wpAnyH_ready (rs := [7]) (by kernel_rfl) (by simp) ?_
          refine AllReadyH.cons rfl (fun K hK => ?_) AllReadyH.nil
          rw [if_pos (by rfl)]
          refine wp_store_mid _ _ _ rfl gO 0 (arL 16 (o1)).toArray rfl rfl hOa5.there (size16b _) (all_oneCell_toArray (arL_one 16 (o1))) ?_
          have hOa6 := hOa5.whole (o1)
          have hSa6 := show Ar (World.setCells a5 gO 0 (arL 16 (o1))) w.heap.size 432 (pkF (ek f) sb) ∧ Ar (World.setCells a5 gO 0 (arL 16 (o1))) gR 16 (fun _ => 0) ∧ Ar (World.setCells a5 gO 0 (arL 16 (o1))) gs 16 (s) ∧ Ar (World.setCells a5 gO 0 (arL 16 (o1))) gU 16 (uk) ∧ Below w.heap.size w (World.setCells a5 gO 0 (arL 16 (o1))) from ⟨(hHeld.1).apart (b := gO) (by omega) (arL 16 (o1)) 0, (hHeld.2.1).apart (b := gO) (by omega) (arL 16 (o1)) 0, (hHeld.2.2.1).apart (b := gO) (by omega) (arL 16 (o1)) 0, (hHeld.2.2.2.1).apart (b := gO) (by omega) (arL 16 (o1)) 0, (hHeld.2.2.2.2).trans (Below.setCells (Below.refl w.heap.size _) (b := gO) (by omega) (arL 16 (o1)) 0)⟩
          dsimp only [List.toList_toArray]
          generalize World.setCells a5 gO 0 (arL 16 (o1)) = a6 at *
          refine hK.out _ _ hSa6 (fun hHeld2 => ?_)
          clear hK K hHeld hSa6 hOa5
          have hHeld := hHeld2
          clear hHeld2
          try simp only [Act.put]
          refine wpAnyH_done (by kernel_rfl) ?_ _
          refine NoPanic.normal ?_
          exact ⟨rfl, rfl, hHeld.1, hHeld.2.1, hHeld.2.2.1, hHeld.2.2.2.1, hOa6, hHeld.2.2.2.2⟩
        · go_simp
          refine (hfor.out _).mono ?_
          rintro e a7 ⟨rfl, hq⟩
          go_wp2_with fail
          have hOa7 := (hOad).to (by omega) hq
          refine hK.out _ _ ⟨(hHeld.1).to (by omega) hq, (hHeld.2.1).to (by omega) hq, (hHeld.2.2.1).to (by omega) hq, (hHeld.2.2.2.1).to (by omega) hq, (hHeld.2.2.2.2).trans (hq.mono (hHeld.2.2.2.2).size)⟩ (fun hHeld2 => ?_)
          clear hK K hHeld hq hOad
          have hHeld := hHeld2
          clear hHeld2
          try simp only [Act.put, List.setIfInBounds_toArray, List.set_cons_zero, List.set_cons_succ, List.getElem_toArray, List.getElem_cons_zero, List.getElem_cons_succ]
          refine wpAnyH_ready (rs := [0]) (by kernel_rfl) (by simp) ?_
          refine AllReadyH.cons rfl (fun K hK => ?_) AllReadyH.nil
          rw [if_pos (by rfl)]
          refine wp_load_mid _ _ rfl gO 0 rfl (arL 16 (ok)) _ hOa7.range Tryd.arr16b rfl (size16b _) ?_
          refine hK.out _ _ hHeld (fun hHeld2 => ?_)
          clear hK K hHeld
          have hHeld := hHeld2
          clear hHeld2
          try simp only [Act.put, List.setIfInBounds_toArray, List.set_cons_zero, List.set_cons_succ, List.getElem_toArray, List.getElem_cons_zero]
          refine wpAnyH_ready (rs := [6]) (by kernel_rfl) (by simp) ?_
          refine AllReadyH.cons rfl (fun K hK => ?_) AllReadyH.nil
          go_simp
          refine (refxor8 ok d _ hob.out hdb.out).mono ?_
          rintro e a8 ⟨rfl, hq⟩
          rw [HST.out]
          go_wp2_with fail
          have hOa8 := (hOa7).to (by omega) hq
          refine hK.out _ _ ⟨(hHeld.1).to (by omega) hq, (hHeld.2.1).to (by omega) hq, (hHeld.2.2.1).to (by omega) hq, (hHeld.2.2.2.1).to (by omega) hq, (hHeld.2.2.2.2).trans (hq.mono (hHeld.2.2.2.2).size)⟩ (fun hHeld2 => ?_)
          clear hK K hHeld hq hOa7
          have hHeld := hHeld2
          clear hHeld2
          try simp only [Act.put, List.setIfInBounds_toArray, List.set_cons_zero, List.set_cons_succ, List.getElem_toArray, List.getElem_cons_zero, List.getElem_cons_succ]
          refine wpAnyH_ready (rs := [7]) (by kernel_rfl) (by simp) ?_
          refine AllReadyH.cons rfl (fun K hK => ?_) AllReadyH.nil
          rw [if_pos (by rfl)]
          refine wp_store_mid _ _ _ rfl gO 0 (arL 16 (o1)).toArray rfl rfl hOa8.there (size16b _) (all_oneCell_toArray (arL_one 16 (o1))) ?_
          have hOa9 := hOa8.whole (o1)
          have hSa9 := show Ar (World.setCells a8 gO 0 (arL 16 (o1))) w.heap.size 432 (pkF (ek f) sb) ∧ Ar (World.setCells a8 gO 0 (arL 16 (o1))) gR 16 (fun _ => 0) ∧ Ar (World.setCells a8 gO 0 (arL 16 (o1))) gs 16 (s) ∧ Ar (World.setCells a8 gO 0 (arL 16 (o1))) gU 16 (uk) ∧ Below w.heap.size w (World.setCells a8 gO 0 (arL 16 (o1))) from ⟨(hHeld.1).apart (b := gO) (by omega) (arL 16 (o1)) 0, (hHeld.2.1).apart (b := gO) (by omega) (arL 16 (o1)) 0, (hHeld.2.2.1).apart (b := gO) (by omega) (arL 16 (o1)) 0, (hHeld.2.2.2.1).apart (b := gO) (by omega) (arL 16 (o1)) 0, (hHeld.2.2.2.2).trans (Below.setCells (Below.refl w.heap.size _) (b := gO) (by omega) (arL 16 (o1)) 0)⟩
          dsimp only [List.toList_toArray]
          generalize World.setCells a8 gO 0 (arL 16 (o1)) = a9 at *
          refine hK.out _ _ hSa9 (fun hHeld2 => ?_)
          clear hK K hHeld hSa9 hOa8
          have hHeld := hHeld2
          clear hHeld2
          try simp only [Act.put]
          refine wpAnyH_done (by kernel_rfl) ?_ _
          refine NoPanic.normal ?_
          exact ⟨rfl, rfl, hHeld.1, hHeld.2.1, hHeld.2.2.1, hHeld.2.2.2.1, hOa9, hHeld.2.2.2.2⟩
      rintro x5 ⟨hEx5, hRx5, hsx5, hUx5, hOx5, hBx5⟩
      clear hEwr hRwr hswr hUwr hOwr hBwr
      go_upto_region 9 with fail
      apply wp_region_via (F := fun W => Ar W w.heap.size 432 (pkF (ek f) sb) ∧ Ar W gR 16 (fun _ => 0) ∧ Ar W gs 16 (s) ∧ Ar W gO 16 (o1) ∧ Ar W gU 16 (adF uk (enF f (adF P o1))) ∧ Below w.heap.size w W)
      case h1 =>
        refine wp_region_noPanic ?_
        have hUbd := hUx5.drew
        refine wp_region_held_drew (S := fun W => Ar W w.heap.size 432 (pkF (ek f) sb) ∧ Ar W gR 16 (fun _ => 0) ∧ Ar W gs 16 (s) ∧ Ar W gO 16 (o1) ∧ Below w.heap.size w W) (by kernel_rfl) ⟨hEx5.drew, hRx5.drew, hsx5.drew, hOx5.drew, hBx5.drew⟩ (fun hHeld => ?_)
        generalize World.drew x5 = bd at *
        refine wpAnyH_take (i := 1) (v := .agg (arL 432 (pkF (ek f) sb)).toArray) rfl (by kernel_rfl) (by kernel_rfl) (by kernel_rfl) (fun _ _ _ h => h) (yieldsIf_load_mid (by rfl) _ _ rfl w.heap.size (0) rfl (arL 432 (pkF (ek f) sb)) _ (fun W hSw => hSw.1.range) HS.out HW.out (sizeK _)) (by assumption) ?_
        simp only [Act.put, List.setIfInBounds_toArray, List.set_cons_zero, List.set_cons_succ, List.getElem_toArray, List.getElem_cons_zero, List.getElem_cons_succ]
        refine wpAnyH_take (i := 2) (v := ?vb1) rfl (by kernel_rfl) (by kernel_rfl) (by kernel_rfl) (fun _ _ _ h => h) (Or.inl ⟨by rfl, ?hyb1⟩) (by assumption) ?restb1
        case hyb1 =>
          intro W hSw
          go_simp
          try with_reducible rfl
        simp only [Act.put, List.setIfInBounds_toArray, List.set_cons_zero, List.set_cons_succ, List.getElem_toArray, List.getElem_cons_zero, List.getElem_cons_succ]
        refine wpAnyH_take (i := 3) (v := ?vb2) rfl (by kernel_rfl) (by kernel_rfl) (by kernel_rfl) (fun _ _ _ h => h) (Or.inl ⟨by rfl, ?hyb2⟩) (by assumption) ?restb2
        case hyb2 =>
          intro W hSw
          go_simp
          try with_reducible rfl
        simp only [Act.put, List.setIfInBounds_toArray, List.set_cons_zero, List.set_cons_succ, List.getElem_toArray, List.getElem_cons_zero, List.getElem_cons_succ]
        refine wpAnyH_take (i := 5) (v := .agg (arL 16 (o1)).toArray) rfl (by kernel_rfl) (by kernel_rfl) (by kernel_rfl) (fun _ _ _ h => h) (yieldsIf_load_mid (by rfl) _ _ rfl gO (0) rfl (arL 16 (o1)) _ (fun W hSw => hSw.2.2.2.1.range) Tryd.arr16b rfl (size16b _)) (by assumption) ?_
        simp only [Act.put, List.setIfInBounds_toArray, List.set_cons_zero, List.set_cons_succ, List.getElem_toArray, List.getElem_cons_zero, List.getElem_cons_succ]
        refine wpAnyH_ready (rs := [0, 4]) (by kernel_rfl) (by simp) ?_
        refine AllReadyH.cons rfl (fun K hK => ?_) (AllReadyH.cons rfl (fun K hK => ?_) AllReadyH.nil)
        · rw [if_pos (by rfl)]
          refine wp_load_mid _ _ rfl gU 0 rfl (arL 16 (uk)) _ hUbd.range Tryd.arr16b rfl (size16b _) ?_
          refine hK.out _ _ hHeld (fun hHeld2 => ?_)
          clear hK K hHeld
          have hHeld := hHeld2
          clear hHeld2
          try simp only [Act.put, List.setIfInBounds_toArray, List.set_cons_zero, List.set_cons_succ, List.getElem_toArray, List.getElem_cons_zero]
          refine wpAnyH_ready (rs := [4]) (by kernel_rfl) (by simp) ?_
          refine AllReadyH.cons rfl (fun K hK => ?_) AllReadyH.nil
          go_simp
          refine (refpart3 b ob n c k P _ HK6.out HNC.out HN.out (HPC.out _ (hHeld.2.2.2.2)) (Nat.lt_of_lt_of_le hbl (hHeld.2.2.2.2).size)).mono ?_
          rintro e b3 ⟨rfl, hq⟩
          go_wp2_with fail
          have hUb3 := (hUbd).to (by omega) hq
          refine hK.out _ _ ⟨(hHeld.1).to (by omega) hq, (hHeld.2.1).to (by omega) hq, (hHeld.2.2.1).to (by omega) hq, (hHeld.2.2.2.1).to (by omega) hq, (hHeld.2.2.2.2).trans (hq.mono (hHeld.2.2.2.2).size)⟩ (fun hHeld2 => ?_)
          clear hK K hHeld hq hUbd
          have hHeld := hHeld2
          clear hHeld2
          try simp only [Act.put, List.setIfInBounds_toArray, List.set_cons_zero, List.set_cons_succ, List.getElem_toArray, List.getElem_cons_zero, List.getElem_cons_succ]
          refine wpAnyH_ready (rs := [6]) (by kernel_rfl) (by simp) ?_
          refine AllReadyH.cons rfl (fun K hK => ?_) AllReadyH.nil
          go_simp
          refine (refxor8 P o1 _ hpb.out ho1b.out).mono ?_
          rintro e b4 ⟨rfl, hq⟩
          go_wp2_with fail
          have hUb4 := (hUb3).to (by omega) hq
          refine hK.out _ _ ⟨(hHeld.1).to (by omega) hq, (hHeld.2.1).to (by omega) hq, (hHeld.2.2.1).to (by omega) hq, (hHeld.2.2.2.1).to (by omega) hq, (hHeld.2.2.2.2).trans (hq.mono (hHeld.2.2.2.2).size)⟩ (fun hHeld2 => ?_)
          clear hK K hHeld hq hUb3
          have hHeld := hHeld2
          clear hHeld2
          try simp only [Act.put, List.setIfInBounds_toArray, List.set_cons_zero, List.set_cons_succ, List.getElem_toArray, List.getElem_cons_zero, List.getElem_cons_succ]
          refine wpAnyH_ready (rs := [7]) (by kernel_rfl) (by simp) ?_
          refine AllReadyH.cons rfl (fun K hK => ?_) AllReadyH.nil
          go_simp
          refine (refencrypt f (adF P o1) _ HFB.out hxb.out).mono ?_
          rintro e b5 ⟨rfl, hq⟩
          go_wp2_with fail
          have hUb5 := (hUb4).to (by omega) hq
          refine hK.out _ _ ⟨(hHeld.1).to (by omega) hq, (hHeld.2.1).to (by omega) hq, (hHeld.2.2.1).to (by omega) hq, (hHeld.2.2.2.1).to (by omega) hq, (hHeld.2.2.2.2).trans (hq.mono (hHeld.2.2.2.2).size)⟩ (fun hHeld2 => ?_)
          clear hK K hHeld hq hUb4
          have hHeld := hHeld2
          clear hHeld2
          try simp only [Act.put, List.setIfInBounds_toArray, List.set_cons_zero, List.set_cons_succ, List.getElem_toArray, List.getElem_cons_zero, List.getElem_cons_succ]
          refine wpAnyH_ready (rs := [8]) (by kernel_rfl) (by simp) ?_
          refine AllReadyH.cons rfl (fun K hK => ?_) AllReadyH.nil
          go_simp
          refine (refxor8 uk (enF f (adF P o1)) _ hub.out heb.out).mono ?_
          rintro e b6 ⟨rfl, hq⟩
          go_wp2_with fail
          have hUb6 := (hUb5).to (by omega) hq
          refine hK.out _ _ ⟨(hHeld.1).to (by omega) hq, (hHeld.2.1).to (by omega) hq, (hHeld.2.2.1).to (by omega) hq, (hHeld.2.2.2.1).to (by omega) hq, (hHeld.2.2.2.2).trans (hq.mono (hHeld.2.2.2.2).size)⟩ (fun hHeld2 => ?_)
          clear hK K hHeld hq hUb5
          have hHeld := hHeld2
          clear hHeld2
          try simp only [Act.put, List.setIfInBounds_toArray, List.set_cons_zero, List.set_cons_succ, List.getElem_toArray, List.getElem_cons_zero, List.getElem_cons_succ]
          refine wpAnyH_ready (rs := [9]) (by kernel_rfl) (by simp) ?_
          refine AllReadyH.cons rfl (fun K hK => ?_) AllReadyH.nil
          rw [if_pos (by rfl)]
          refine wp_store_mid _ _ _ rfl gU 0 (arL 16 (adF uk (enF f (adF P o1)))).toArray rfl rfl hUb6.there (size16b _) (all_oneCell_toArray (arL_one 16 (adF uk (enF f (adF P o1))))) ?_
          have hUb7 := hUb6.whole (adF uk (enF f (adF P o1)))
          have hSb7 := show Ar (World.setCells b6 gU 0 (arL 16 (adF uk (enF f (adF P o1))))) w.heap.size 432 (pkF (ek f) sb) ∧ Ar (World.setCells b6 gU 0 (arL 16 (adF uk (enF f (adF P o1))))) gR 16 (fun _ => 0) ∧ Ar (World.setCells b6 gU 0 (arL 16 (adF uk (enF f (adF P o1))))) gs 16 (s) ∧ Ar (World.setCells b6 gU 0 (arL 16 (adF uk (enF f (adF P o1))))) gO 16 (o1) ∧ Below w.heap.size w (World.setCells b6 gU 0 (arL 16 (adF uk (enF f (adF P o1))))) from ⟨(hHeld.1).apart (b := gU) (by omega) (arL 16 (adF uk (enF f (adF P o1)))) 0, (hHeld.2.1).apart (b := gU) (by omega) (arL 16 (adF uk (enF f (adF P o1)))) 0, (hHeld.2.2.1).apart (b := gU) (by omega) (arL 16 (adF uk (enF f (adF P o1)))) 0, (hHeld.2.2.2.1).apart (b := gU) (by omega) (arL 16 (adF uk (enF f (adF P o1)))) 0, (hHeld.2.2.2.2).trans (Below.setCells (Below.refl w.heap.size _) (b := gU) (by omega) (arL 16 (adF uk (enF f (adF P o1)))) 0)⟩
          dsimp only [List.toList_toArray]
          generalize World.setCells b6 gU 0 (arL 16 (adF uk (enF f (adF P o1)))) = b7 at *
          refine hK.out _ _ hSb7 (fun hHeld2 => ?_)
          clear hK K hHeld hSb7 hUb6
          have hHeld := hHeld2
          clear hHeld2
          try simp only [Act.put]
          refine wpAnyH_done (by kernel_rfl) ?_ _
          refine NoPanic.normal ?_
          exact ⟨rfl, rfl, hHeld.1, hHeld.2.1, hHeld.2.2.1, hHeld.2.2.2.1, hUb7, hHeld.2.2.2.2⟩
        · go_simp
          refine (refpart3 b ob n c k P _ HK6.out HNC.out HN.out (HPC.out _ (hHeld.2.2.2.2)) (Nat.lt_of_lt_of_le hbl (hHeld.2.2.2.2).size)).mono ?_
          rintro e b8 ⟨rfl, hq⟩
          go_wp2_with fail
          have hUb8 := (hUbd).to (by omega) hq
          refine hK.out _ _ ⟨(hHeld.1).to (by omega) hq, (hHeld.2.1).to (by omega) hq, (hHeld.2.2.1).to (by omega) hq, (hHeld.2.2.2.1).to (by omega) hq, (hHeld.2.2.2.2).trans (hq.mono (hHeld.2.2.2.2).size)⟩ (fun hHeld2 => ?_)
          clear hK K hHeld hq hUbd
          have hHeld := hHeld2
          clear hHeld2
          try simp only [Act.put, List.setIfInBounds_toArray, List.set_cons_zero, List.set_cons_succ, List.getElem_toArray, List.getElem_cons_zero, List.getElem_cons_succ]
          refine wpAnyH_ready (rs := [0, 6]) (by kernel_rfl) (by simp) ?_
          refine AllReadyH.cons rfl (fun K hK => ?_) (AllReadyH.cons rfl (fun K hK => ?_) AllReadyH.nil)
          · rw [if_pos (by rfl)]
            refine wp_load_mid _ _ rfl gU 0 rfl (arL 16 (uk)) _ hUb8.range Tryd.arr16b rfl (size16b _) ?_
            refine hK.out _ _ hHeld (fun hHeld2 => ?_)
            clear hK K hHeld
            have hHeld := hHeld2
            clear hHeld2
            try simp only [Act.put, List.setIfInBounds_toArray, List.set_cons_zero, List.set_cons_succ, List.getElem_toArray, List.getElem_cons_zero]
            refine wpAnyH_ready (rs := [6]) (by kernel_rfl) (by simp) ?_
            refine AllReadyH.cons rfl (fun K hK => ?_) AllReadyH.nil
            go_simp
            refine (refxor8 P o1 _ hpb.out ho1b.out).mono ?_
            rintro e b9 ⟨rfl, hq⟩
            go_wp2_with fail
            have hUb9 := (hUb8).to (by omega) hq
            refine hK.out _ _ ⟨(hHeld.1).to (by omega) hq, (hHeld.2.1).to (by omega) hq, (hHeld.2.2.1).to (by omega) hq, (hHeld.2.2.2.1).to (by omega) hq, (hHeld.2.2.2.2).trans (hq.mono (hHeld.2.2.2.2).size)⟩ (fun hHeld2 => ?_)
            clear hK K hHeld hq hUb8
            have hHeld := hHeld2
            clear hHeld2
            try simp only [Act.put, List.setIfInBounds_toArray, List.set_cons_zero, List.set_cons_succ, List.getElem_toArray, List.getElem_cons_zero, List.getElem_cons_succ]
            refine wpAnyH_ready (rs := [7]) (by kernel_rfl) (by simp) ?_
            refine AllReadyH.cons rfl (fun K hK => ?_) AllReadyH.nil
            go_simp
            refine (refencrypt f (adF P o1) _ HFB.out hxb.out).mono ?_
            rintro e b10 ⟨rfl, hq⟩
            go_wp2_with fail
            have hUb10 := (hUb9).to (by omega) hq
            refine hK.out _ _ ⟨(hHeld.1).to (by omega) hq, (hHeld.2.1).to (by omega) hq, (hHeld.2.2.1).to (by omega) hq, (hHeld.2.2.2.1).to (by omega) hq, (hHeld.2.2.2.2).trans (hq.mono (hHeld.2.2.2.2).size)⟩ (fun hHeld2 => ?_)
            clear hK K hHeld hq hUb9
            have hHeld := hHeld2
            clear hHeld2
            try simp only [Act.put, List.setIfInBounds_toArray, List.set_cons_zero, List.set_cons_succ, List.getElem_toArray, List.getElem_cons_zero, List.getElem_cons_succ]
            refine wpAnyH_ready (rs := [8]) (by kernel_rfl) (by simp) ?_
            refine AllReadyH.cons rfl (fun K hK => ?_) AllReadyH.nil
            go_simp
            refine (refxor8 uk (enF f (adF P o1)) _ hub.out heb.out).mono ?_
            rintro e b11 ⟨rfl, hq⟩
            go_wp2_with fail
            have hUb11 := (hUb10).to (by omega) hq
            refine hK.out _ _ ⟨(hHeld.1).to (by omega) hq, (hHeld.2.1).to (by omega) hq, (hHeld.2.2.1).to (by omega) hq, (hHeld.2.2.2.1).to (by omega) hq, (hHeld.2.2.2.2).trans (hq.mono (hHeld.2.2.2.2).size)⟩ (fun hHeld2 => ?_)
            clear hK K hHeld hq hUb10
            have hHeld := hHeld2
            clear hHeld2
            try simp only [Act.put, List.setIfInBounds_toArray, List.set_cons_zero, List.set_cons_succ, List.getElem_toArray, List.getElem_cons_zero, List.getElem_cons_succ]
            refine wpAnyH_ready (rs := [9]) (by kernel_rfl) (by simp) ?_
            refine AllReadyH.cons rfl (fun K hK => ?_) AllReadyH.nil
            rw [if_pos (by rfl)]
            refine wp_store_mid _ _ _ rfl gU 0 (arL 16 (adF uk (enF f (adF P o1)))).toArray rfl rfl hUb11.there (size16b _) (all_oneCell_toArray (arL_one 16 (adF uk (enF f (adF P o1))))) ?_
            have hUb12 := hUb11.whole (adF uk (enF f (adF P o1)))
            have hSb12 := show Ar (World.setCells b11 gU 0 (arL 16 (adF uk (enF f (adF P o1))))) w.heap.size 432 (pkF (ek f) sb) ∧ Ar (World.setCells b11 gU 0 (arL 16 (adF uk (enF f (adF P o1))))) gR 16 (fun _ => 0) ∧ Ar (World.setCells b11 gU 0 (arL 16 (adF uk (enF f (adF P o1))))) gs 16 (s) ∧ Ar (World.setCells b11 gU 0 (arL 16 (adF uk (enF f (adF P o1))))) gO 16 (o1) ∧ Below w.heap.size w (World.setCells b11 gU 0 (arL 16 (adF uk (enF f (adF P o1))))) from ⟨(hHeld.1).apart (b := gU) (by omega) (arL 16 (adF uk (enF f (adF P o1)))) 0, (hHeld.2.1).apart (b := gU) (by omega) (arL 16 (adF uk (enF f (adF P o1)))) 0, (hHeld.2.2.1).apart (b := gU) (by omega) (arL 16 (adF uk (enF f (adF P o1)))) 0, (hHeld.2.2.2.1).apart (b := gU) (by omega) (arL 16 (adF uk (enF f (adF P o1)))) 0, (hHeld.2.2.2.2).trans (Below.setCells (Below.refl w.heap.size _) (b := gU) (by omega) (arL 16 (adF uk (enF f (adF P o1)))) 0)⟩
            dsimp only [List.toList_toArray]
            generalize World.setCells b11 gU 0 (arL 16 (adF uk (enF f (adF P o1)))) = b12 at *
            refine hK.out _ _ hSb12 (fun hHeld2 => ?_)
            clear hK K hHeld hSb12 hUb11
            have hHeld := hHeld2
            clear hHeld2
            try simp only [Act.put]
            refine wpAnyH_done (by kernel_rfl) ?_ _
            refine NoPanic.normal ?_
            exact ⟨rfl, rfl, hHeld.1, hHeld.2.1, hHeld.2.2.1, hHeld.2.2.2.1, hUb12, hHeld.2.2.2.2⟩
          · go_simp
            refine (refxor8 P o1 _ hpb.out ho1b.out).mono ?_
            rintro e b13 ⟨rfl, hq⟩
            go_wp2_with fail
            have hUb13 := (hUb8).to (by omega) hq
            refine hK.out _ _ ⟨(hHeld.1).to (by omega) hq, (hHeld.2.1).to (by omega) hq, (hHeld.2.2.1).to (by omega) hq, (hHeld.2.2.2.1).to (by omega) hq, (hHeld.2.2.2.2).trans (hq.mono (hHeld.2.2.2.2).size)⟩ (fun hHeld2 => ?_)
            clear hK K hHeld hq hUb8
            have hHeld := hHeld2
            clear hHeld2
            try simp only [Act.put, List.setIfInBounds_toArray, List.set_cons_zero, List.set_cons_succ, List.getElem_toArray, List.getElem_cons_zero, List.getElem_cons_succ]
            refine wpAnyH_ready (rs := [0, 7]) (by kernel_rfl) (by simp) ?_
            refine AllReadyH.cons rfl (fun K hK => ?_) (AllReadyH.cons rfl (fun K hK => ?_) AllReadyH.nil)
            · rw [if_pos (by rfl)]
              refine wp_load_mid _ _ rfl gU 0 rfl (arL 16 (uk)) _ hUb13.range Tryd.arr16b rfl (size16b _) ?_
              refine hK.out _ _ hHeld (fun hHeld2 => ?_)
              clear hK K hHeld
              have hHeld := hHeld2
              clear hHeld2
              try simp only [Act.put, List.setIfInBounds_toArray, List.set_cons_zero, List.set_cons_succ, List.getElem_toArray, List.getElem_cons_zero]
              refine wpAnyH_ready (rs := [7]) (by kernel_rfl) (by simp) ?_
              refine AllReadyH.cons rfl (fun K hK => ?_) AllReadyH.nil
              go_simp
              refine (refencrypt f (adF P o1) _ HFB.out hxb.out).mono ?_
              rintro e b14 ⟨rfl, hq⟩
              go_wp2_with fail
              have hUb14 := (hUb13).to (by omega) hq
              refine hK.out _ _ ⟨(hHeld.1).to (by omega) hq, (hHeld.2.1).to (by omega) hq, (hHeld.2.2.1).to (by omega) hq, (hHeld.2.2.2.1).to (by omega) hq, (hHeld.2.2.2.2).trans (hq.mono (hHeld.2.2.2.2).size)⟩ (fun hHeld2 => ?_)
              clear hK K hHeld hq hUb13
              have hHeld := hHeld2
              clear hHeld2
              try simp only [Act.put, List.setIfInBounds_toArray, List.set_cons_zero, List.set_cons_succ, List.getElem_toArray, List.getElem_cons_zero, List.getElem_cons_succ]
              refine wpAnyH_ready (rs := [8]) (by kernel_rfl) (by simp) ?_
              refine AllReadyH.cons rfl (fun K hK => ?_) AllReadyH.nil
              go_simp
              refine (refxor8 uk (enF f (adF P o1)) _ hub.out heb.out).mono ?_
              rintro e b15 ⟨rfl, hq⟩
              go_wp2_with fail
              have hUb15 := (hUb14).to (by omega) hq
              refine hK.out _ _ ⟨(hHeld.1).to (by omega) hq, (hHeld.2.1).to (by omega) hq, (hHeld.2.2.1).to (by omega) hq, (hHeld.2.2.2.1).to (by omega) hq, (hHeld.2.2.2.2).trans (hq.mono (hHeld.2.2.2.2).size)⟩ (fun hHeld2 => ?_)
              clear hK K hHeld hq hUb14
              have hHeld := hHeld2
              clear hHeld2
              try simp only [Act.put, List.setIfInBounds_toArray, List.set_cons_zero, List.set_cons_succ, List.getElem_toArray, List.getElem_cons_zero, List.getElem_cons_succ]
              refine wpAnyH_ready (rs := [9]) (by kernel_rfl) (by simp) ?_
              refine AllReadyH.cons rfl (fun K hK => ?_) AllReadyH.nil
              rw [if_pos (by rfl)]
              refine wp_store_mid _ _ _ rfl gU 0 (arL 16 (adF uk (enF f (adF P o1)))).toArray rfl rfl hUb15.there (size16b _) (all_oneCell_toArray (arL_one 16 (adF uk (enF f (adF P o1))))) ?_
              have hUb16 := hUb15.whole (adF uk (enF f (adF P o1)))
              have hSb16 := show Ar (World.setCells b15 gU 0 (arL 16 (adF uk (enF f (adF P o1))))) w.heap.size 432 (pkF (ek f) sb) ∧ Ar (World.setCells b15 gU 0 (arL 16 (adF uk (enF f (adF P o1))))) gR 16 (fun _ => 0) ∧ Ar (World.setCells b15 gU 0 (arL 16 (adF uk (enF f (adF P o1))))) gs 16 (s) ∧ Ar (World.setCells b15 gU 0 (arL 16 (adF uk (enF f (adF P o1))))) gO 16 (o1) ∧ Below w.heap.size w (World.setCells b15 gU 0 (arL 16 (adF uk (enF f (adF P o1))))) from ⟨(hHeld.1).apart (b := gU) (by omega) (arL 16 (adF uk (enF f (adF P o1)))) 0, (hHeld.2.1).apart (b := gU) (by omega) (arL 16 (adF uk (enF f (adF P o1)))) 0, (hHeld.2.2.1).apart (b := gU) (by omega) (arL 16 (adF uk (enF f (adF P o1)))) 0, (hHeld.2.2.2.1).apart (b := gU) (by omega) (arL 16 (adF uk (enF f (adF P o1)))) 0, (hHeld.2.2.2.2).trans (Below.setCells (Below.refl w.heap.size _) (b := gU) (by omega) (arL 16 (adF uk (enF f (adF P o1)))) 0)⟩
              dsimp only [List.toList_toArray]
              generalize World.setCells b15 gU 0 (arL 16 (adF uk (enF f (adF P o1)))) = b16 at *
              refine hK.out _ _ hSb16 (fun hHeld2 => ?_)
              clear hK K hHeld hSb16 hUb15
              have hHeld := hHeld2
              clear hHeld2
              try simp only [Act.put]
              refine wpAnyH_done (by kernel_rfl) ?_ _
              refine NoPanic.normal ?_
              exact ⟨rfl, rfl, hHeld.1, hHeld.2.1, hHeld.2.2.1, hHeld.2.2.2.1, hUb16, hHeld.2.2.2.2⟩
            · go_simp
              refine (refencrypt f (adF P o1) _ HFB.out hxb.out).mono ?_
              rintro e b17 ⟨rfl, hq⟩
              go_wp2_with fail
              have hUb17 := (hUb13).to (by omega) hq
              refine hK.out _ _ ⟨(hHeld.1).to (by omega) hq, (hHeld.2.1).to (by omega) hq, (hHeld.2.2.1).to (by omega) hq, (hHeld.2.2.2.1).to (by omega) hq, (hHeld.2.2.2.2).trans (hq.mono (hHeld.2.2.2.2).size)⟩ (fun hHeld2 => ?_)
              clear hK K hHeld hq hUb13
              have hHeld := hHeld2
              clear hHeld2
              try simp only [Act.put, List.setIfInBounds_toArray, List.set_cons_zero, List.set_cons_succ, List.getElem_toArray, List.getElem_cons_zero, List.getElem_cons_succ]
              refine wpAnyH_ready (rs := [0]) (by kernel_rfl) (by simp) ?_
              refine AllReadyH.cons rfl (fun K hK => ?_) AllReadyH.nil
              rw [if_pos (by rfl)]
              refine wp_load_mid _ _ rfl gU 0 rfl (arL 16 (uk)) _ hUb17.range Tryd.arr16b rfl (size16b _) ?_
              refine hK.out _ _ hHeld (fun hHeld2 => ?_)
              clear hK K hHeld
              have hHeld := hHeld2
              clear hHeld2
              try simp only [Act.put, List.setIfInBounds_toArray, List.set_cons_zero, List.set_cons_succ, List.getElem_toArray, List.getElem_cons_zero]
              refine wpAnyH_ready (rs := [8]) (by kernel_rfl) (by simp) ?_
              refine AllReadyH.cons rfl (fun K hK => ?_) AllReadyH.nil
              go_simp
              refine (refxor8 uk (enF f (adF P o1)) _ hub.out heb.out).mono ?_
              rintro e b18 ⟨rfl, hq⟩
              go_wp2_with fail
              have hUb18 := (hUb17).to (by omega) hq
              refine hK.out _ _ ⟨(hHeld.1).to (by omega) hq, (hHeld.2.1).to (by omega) hq, (hHeld.2.2.1).to (by omega) hq, (hHeld.2.2.2.1).to (by omega) hq, (hHeld.2.2.2.2).trans (hq.mono (hHeld.2.2.2.2).size)⟩ (fun hHeld2 => ?_)
              clear hK K hHeld hq hUb17
              have hHeld := hHeld2
              clear hHeld2
              try simp only [Act.put, List.setIfInBounds_toArray, List.set_cons_zero, List.set_cons_succ, List.getElem_toArray, List.getElem_cons_zero, List.getElem_cons_succ]
              refine wpAnyH_ready (rs := [9]) (by kernel_rfl) (by simp) ?_
              refine AllReadyH.cons rfl (fun K hK => ?_) AllReadyH.nil
              rw [if_pos (by rfl)]
              refine wp_store_mid _ _ _ rfl gU 0 (arL 16 (adF uk (enF f (adF P o1)))).toArray rfl rfl hUb18.there (size16b _) (all_oneCell_toArray (arL_one 16 (adF uk (enF f (adF P o1))))) ?_
              have hUb19 := hUb18.whole (adF uk (enF f (adF P o1)))
              have hSb19 := show Ar (World.setCells b18 gU 0 (arL 16 (adF uk (enF f (adF P o1))))) w.heap.size 432 (pkF (ek f) sb) ∧ Ar (World.setCells b18 gU 0 (arL 16 (adF uk (enF f (adF P o1))))) gR 16 (fun _ => 0) ∧ Ar (World.setCells b18 gU 0 (arL 16 (adF uk (enF f (adF P o1))))) gs 16 (s) ∧ Ar (World.setCells b18 gU 0 (arL 16 (adF uk (enF f (adF P o1))))) gO 16 (o1) ∧ Below w.heap.size w (World.setCells b18 gU 0 (arL 16 (adF uk (enF f (adF P o1))))) from ⟨(hHeld.1).apart (b := gU) (by omega) (arL 16 (adF uk (enF f (adF P o1)))) 0, (hHeld.2.1).apart (b := gU) (by omega) (arL 16 (adF uk (enF f (adF P o1)))) 0, (hHeld.2.2.1).apart (b := gU) (by omega) (arL 16 (adF uk (enF f (adF P o1)))) 0, (hHeld.2.2.2.1).apart (b := gU) (by omega) (arL 16 (adF uk (enF f (adF P o1)))) 0, (hHeld.2.2.2.2).trans (Below.setCells (Below.refl w.heap.size _) (b := gU) (by omega) (arL 16 (adF uk (enF f (adF P o1)))) 0)⟩
              dsimp only [List.toList_toArray]
              generalize World.setCells b18 gU 0 (arL 16 (adF uk (enF f (adF P o1)))) = b19 at *
              refine hK.out _ _ hSb19 (fun hHeld2 => ?_)
              clear hK K hHeld hSb19 hUb18
              have hHeld := hHeld2
              clear hHeld2
              try simp only [Act.put]
              refine wpAnyH_done (by kernel_rfl) ?_ _
              refine NoPanic.normal ?_
              exact ⟨rfl, rfl, hHeld.1, hHeld.2.1, hHeld.2.2.1, hHeld.2.2.2.1, hUb19, hHeld.2.2.2.2⟩
      rintro x6 ⟨hEx6, hRx6, hsx6, hOx6, hUx6, hBx6⟩
      clear hEx5 hRx5 hsx5 hOx5 hUx5 hBx5
      have hN6 := HN6.out
      go_wp2_with fail
      go_roundw
      case rel => exact ⟨k + 1, by omega, by go_num, hEx6, hRx6, hsx6, by rw [HQ0.out, ← HUE.out]; exact hUx6, by rw [HQ0.out, HO1.out]; exact hOx6, hBx6⟩
      case measure => simp [intOf]; omega
    · have e : k = N := by omega
      rw [e] at hUwr hOwr
      have i1 : ¬ (k : Int) < (N : Int) := by omega
      clear e
      have hr16 : r < 16 := by have := HRR.out; omega
      by_cases hr0 : r = 0
      · have j1 : (n : Int).tmod 16 = 0 := by rw [HFR.out.1, hr0]; rfl
        have j2 : (n : Int) % 16 = 0 := by rw [HFR.out.2, hr0]; rfl
        go_wp2_with (first | (refine wpList_load_ar rfl _ _ rfl _ _ _ rfl hUwr Tryd.arr16b (size16b _) ?_) | (refine wpList_store_ar rfl _ _ _ rfl _ _ _ (hsF f s (pt l) N) rfl rfl hRwr (size16b _) ?_; intro y8 hRy8 bel8 siz8 kee8))
        refine bodyPost_ret_ar rfl rfl hRy8 Tryd.arr16b (size16b _) rfl ⟨by rw [haF_none HLEN.out HNN.out HRR.out hr0], hBwr.trans (bel8.mono (by omega))⟩
      · obtain ⟨j1, j2⟩ := HFR.out
        have j3 : (0 : Int) < (r : Int) := by omega
        have hno : n - o < 16 := by have := HNN.out; have := HO.out; omega
        have HPAD := Lib.hid (fun V (hb : Below w.heap.size w V) => refpad A9 (n - o) (c - o) (l.drop o) V (HSL2.out V V.heap.size l ((HSS.out.below hb).more hb.size)) hno)
        have hub := Lib.hid (hsF_lt HFB.out HSL.out HPB.out N)
        have hob := Lib.hid (atF_lt zF_lt HSL.out N)
        obtain ⟨P, hP⟩ : ∃ P : Nat → Nat, lF (padL (l.drop o) 16) = P := ⟨_, rfl⟩
        have hpb := Lib.hid (show B16 P by rw [← hP]; exact fun _ _ => lF_lt _ _)
        rw [hP] at HPAD
        have HPD := Lib.hid hP
        obtain ⟨u, hu⟩ : ∃ u, hsF f s (pt l) N = u := ⟨_, rfl⟩
        obtain ⟨a, ha⟩ : ∃ a, atF zF s N = a := ⟨_, rfl⟩
        rw [hu] at hUwr hub
        rw [ha] at hOwr hob
        have HUD := Lib.hid hu
        have HAD := Lib.hid ha
        clear hP hu ha hno
        have hab := Lib.hid (adF_lt hob.out HSL.out)
        have hxb := Lib.hid (adF_lt hpb.out hab.out)
        have heb := Lib.hid (show B16 (enF f (adF P (adF a s))) from enR_lt HFB.out hxb.out 10)
        go_upto_region 11 with fail
        clear j1 j2 j3 i1
        apply wp_region_viaG (F := fun gp W => Ar W w.heap.size 432 (pkF (ek f) sb) ∧ Ar W gR 16 (fun _ => 0) ∧ Ar W gs 16 (s) ∧ Ar W gO 16 (a) ∧ Ar W gU 16 (u) ∧ Ar W gp 16 (adF P (adF a s)) ∧ gO < gp ∧ Below w.heap.size w W)
        case h1 =>
          refine wp_region_noPanic ?_
          have hUcd := hUwr.drew
          refine wp_region_held_drew (S := fun W => Ar W w.heap.size 432 (pkF (ek f) sb) ∧ Ar W gR 16 (fun _ => 0) ∧ Ar W gs 16 (s) ∧ Ar W gO 16 (a) ∧ Below w.heap.size w W) (by kernel_rfl) ⟨hEwr.drew, hRwr.drew, hswr.drew, hOwr.drew, hBwr.drew⟩ (fun hHeld => ?_)
          generalize World.drew wr = cd at *
          refine wpAnyH_take (i := 0) (v := ?vc1) rfl (by kernel_rfl) (by kernel_rfl) (by kernel_rfl) (fun _ _ _ h => h) (Or.inl ⟨by rfl, ?hyc1⟩) (by assumption) ?restc1
          case hyc1 =>
            intro W hSw
            go_simp
            try with_reducible rfl
          simp only [Act.put, List.setIfInBounds_toArray, List.set_cons_zero, List.set_cons_succ, List.getElem_toArray, List.getElem_cons_zero]
          refine wpAnyH_take (i := 1) (v := ?vc2) rfl (by kernel_rfl) (by kernel_rfl) (by kernel_rfl) (fun _ _ _ h => h) (Or.inl ⟨by rfl, ?hyc2⟩) (by assumption) ?restc2
          case hyc2 =>
            intro W hSw
            go_simp
            try with_reducible rfl
          simp only [Act.put, List.setIfInBounds_toArray, List.set_cons_zero, List.set_cons_succ, List.getElem_toArray, List.getElem_cons_zero, List.getElem_cons_succ]
          refine wpAnyH_take (i := 2) (v := ?vc3) rfl (by kernel_rfl) (by kernel_rfl) (by kernel_rfl) (fun _ _ _ h => h) (Or.inl ⟨by rfl, ?hyc3⟩) (by assumption) ?restc3
          case hyc3 =>
            intro W hSw
            obtain ⟨j1, j2, j3, j4⟩ := HFB2.out
            go_simp
            try with_reducible rfl
          simp only [Act.put, List.setIfInBounds_toArray, List.set_cons_zero, List.set_cons_succ, List.getElem_toArray, List.getElem_cons_zero, List.getElem_cons_succ]
          refine wpAnyH_take (i := 3) (v := ?vc4) rfl (by kernel_rfl) (by kernel_rfl) (by kernel_rfl) (fun _ _ _ h => h) (Or.inl ⟨by rfl, ?hyc4⟩) (by assumption) ?restc4
          case hyc4 =>
            intro W hSw
            have hslc := HSLI.out
            go_simp
            try with_reducible rfl
          simp only [Act.put, List.setIfInBounds_toArray, List.set_cons_zero, List.set_cons_succ, List.getElem_toArray, List.getElem_cons_zero, List.getElem_cons_succ]
          refine wpAnyH_take (i := 5) (v := .agg (arL 16 (a)).toArray) rfl (by kernel_rfl) (by kernel_rfl) (by kernel_rfl) (fun _ _ _ h => h) (yieldsIf_load_mid (by rfl) _ _ rfl gO (0) rfl (arL 16 (a)) _ (fun W hSw => hSw.2.2.2.1.range) Tryd.arr16b rfl (size16b _)) (by assumption) ?_
          simp only [Act.put, List.setIfInBounds_toArray, List.set_cons_zero, List.set_cons_succ, List.getElem_toArray, List.getElem_cons_zero, List.getElem_cons_succ]
          refine wpAnyH_take (i := 6) (v := .agg (arL 16 (s)).toArray) rfl (by kernel_rfl) (by kernel_rfl) (by kernel_rfl) (fun _ _ _ h => h) (yieldsIf_load_mid (by rfl) _ _ rfl gs (0) rfl (arL 16 (s)) _ (fun W hSw => hSw.2.2.1.range) Tryd.arr16b rfl (size16b _)) (by assumption) ?_
          simp only [Act.put, List.setIfInBounds_toArray, List.set_cons_zero, List.set_cons_succ, List.getElem_toArray, List.getElem_cons_zero, List.getElem_cons_succ]
          refine wpAnyH_ready (rs := [4, 9]) (by kernel_rfl) (by simp) ?_
          refine AllReadyH.cons rfl (fun K hK => ?_) (AllReadyH.cons rfl (fun K hK => ?_) AllReadyH.nil)
          · go_simp
            refine (HPAD.out _ (hHeld.2.2.2.2)).mono ?_
            rintro e c5 ⟨rfl, hq⟩
            go_wp2_with fail
            have hUc5 := (hUcd).to (by omega) hq
            refine hK.out _ _ ⟨(hHeld.1).to (by omega) hq, (hHeld.2.1).to (by omega) hq, (hHeld.2.2.1).to (by omega) hq, (hHeld.2.2.2.1).to (by omega) hq, (hHeld.2.2.2.2).trans (hq.mono (hHeld.2.2.2.2).size)⟩ (fun hHeld2 => ?_)
            clear hK K hHeld hq hUcd
            have hHeld := hHeld2
            clear hHeld2
            try simp only [Act.put, List.setIfInBounds_toArray, List.set_cons_zero, List.set_cons_succ, List.getElem_toArray, List.getElem_cons_zero, List.getElem_cons_succ]
            refine wpAnyH_ready (rs := [7, 9]) (by kernel_rfl) (by simp) ?_
            refine AllReadyH.cons rfl (fun K hK => ?_) (AllReadyH.cons rfl (fun K hK => ?_) AllReadyH.nil)
            · go_simp
              refine (refxor8 a s _ hob.out HSL.out).mono ?_
              rintro e c6 ⟨rfl, hq⟩
              go_wp2_with fail
              have hUc6 := (hUc5).to (by omega) hq
              refine hK.out _ _ ⟨(hHeld.1).to (by omega) hq, (hHeld.2.1).to (by omega) hq, (hHeld.2.2.1).to (by omega) hq, (hHeld.2.2.2.1).to (by omega) hq, (hHeld.2.2.2.2).trans (hq.mono (hHeld.2.2.2.2).size)⟩ (fun hHeld2 => ?_)
              clear hK K hHeld hq hUc5
              have hHeld := hHeld2
              clear hHeld2
              try simp only [Act.put, List.setIfInBounds_toArray, List.set_cons_zero, List.set_cons_succ, List.getElem_toArray, List.getElem_cons_zero, List.getElem_cons_succ]
              refine wpAnyH_ready (rs := [8, 9]) (by kernel_rfl) (by simp) ?_
              refine AllReadyH.cons rfl (fun K hK => ?_) (AllReadyH.cons rfl (fun K hK => ?_) AllReadyH.nil)
              · go_simp
                refine (refxor8 P (adF a s) _ hpb.out hab.out).mono ?_
                rintro e c7 ⟨rfl, hq⟩
                go_wp2_with fail
                have hUc7 := (hUc6).to (by omega) hq
                refine hK.out _ _ ⟨(hHeld.1).to (by omega) hq, (hHeld.2.1).to (by omega) hq, (hHeld.2.2.1).to (by omega) hq, (hHeld.2.2.2.1).to (by omega) hq, (hHeld.2.2.2.2).trans (hq.mono (hHeld.2.2.2.2).size)⟩ (fun hHeld2 => ?_)
                clear hK K hHeld hq hUc6
                have hHeld := hHeld2
                clear hHeld2
                try simp only [Act.put, List.setIfInBounds_toArray, List.set_cons_zero, List.set_cons_succ, List.getElem_toArray, List.getElem_cons_zero, List.getElem_cons_succ]
                refine wpAnyH_ready (rs := [9]) (by kernel_rfl) (by simp) ?_
                refine AllReadyH.cons rfl (fun K hK => ?_) AllReadyH.nil
                obtain ⟨gp, hggp⟩ : ∃ g : Nat, c7.heap.size = g := ⟨_, rfl⟩
                have hlgOgp : gO < gp := by rw [← hggp]; exact (hHeld.2.2.2.1).lt (by omega)
                have hq : Below c7.heap.size c7 (c7.alloc (.cells (arL 16 fun _ => 0).toArray 22)) := (Below.refl _ _).alloc (Nat.le_refl _) _
                have hpc8 := Ar.new c7 16 (fun _ => 0) 22
                rw [hggp] at hpc8
                have hUc8 := (hUc7).to (by omega) hq
                have hSc8 := show Ar (c7.alloc (.cells (arL 16 fun _ => 0).toArray 22)) w.heap.size 432 (pkF (ek f) sb) ∧ Ar (c7.alloc (.cells (arL 16 fun _ => 0).toArray 22)) gR 16 (fun _ => 0) ∧ Ar (c7.alloc (.cells (arL 16 fun _ => 0).toArray 22)) gs 16 (s) ∧ Ar (c7.alloc (.cells (arL 16 fun _ => 0).toArray 22)) gO 16 (a) ∧ Below w.heap.size w (c7.alloc (.cells (arL 16 fun _ => 0).toArray 22)) from ⟨(hHeld.1).to (by omega) hq, (hHeld.2.1).to (by omega) hq, (hHeld.2.2.1).to (by omega) hq, (hHeld.2.2.2.1).to (by omega) hq, (hHeld.2.2.2.2).trans (hq.mono (hHeld.2.2.2.2).size)⟩
                go_simp
                obtain ⟨c8, hwc8⟩ : ∃ V : World, V = c7.alloc (.cells (arL 16 fun _ => 0).toArray 22) := ⟨_, rfl⟩
                rw [show c7.alloc (.cells (arL 16 fun _ => 0).toArray 22) = c8 from hwc8.symm] at hSc8
                have hpc8 : Ar c8 gp 16 (fun _ => 0) := by rw [hwc8]; exact hpc8
                have hUc8 : Ar c8 gU 16 (u) := by rw [hwc8]; exact hUc8
                try rw [hggp]
                rw [← hwc8]
                refine hK.out _ _ hSc8 (fun hHeld2 => ?_)
                clear hK K hHeld hq hSc8 hwc8 hggp hUc7
                have hHeld := hHeld2
                clear hHeld2
                try simp only [Act.put, List.setIfInBounds_toArray, List.set_cons_zero, List.set_cons_succ, List.getElem_toArray, List.getElem_cons_zero, List.getElem_cons_succ]
                refine wpAnyH_ready (rs := [10]) (by kernel_rfl) (by simp) ?_
                refine AllReadyH.cons rfl (fun K hK => ?_) AllReadyH.nil
                rw [if_pos (by rfl)]
                refine wp_store_mid _ _ _ rfl gp 0 (arL 16 (adF P (adF a s))).toArray rfl rfl hpc8.there (size16b _) (all_oneCell_toArray (arL_one 16 (adF P (adF a s)))) ?_
                have hpc9 := hpc8.whole (adF P (adF a s))
                have hUc9 := hUc8.apart (b := gp) (by omega) (arL 16 (adF P (adF a s))) 0
                have hSc9 := show Ar (World.setCells c8 gp 0 (arL 16 (adF P (adF a s)))) w.heap.size 432 (pkF (ek f) sb) ∧ Ar (World.setCells c8 gp 0 (arL 16 (adF P (adF a s)))) gR 16 (fun _ => 0) ∧ Ar (World.setCells c8 gp 0 (arL 16 (adF P (adF a s)))) gs 16 (s) ∧ Ar (World.setCells c8 gp 0 (arL 16 (adF P (adF a s)))) gO 16 (a) ∧ Below w.heap.size w (World.setCells c8 gp 0 (arL 16 (adF P (adF a s)))) from ⟨(hHeld.1).apart (b := gp) (by omega) (arL 16 (adF P (adF a s))) 0, (hHeld.2.1).apart (b := gp) (by omega) (arL 16 (adF P (adF a s))) 0, (hHeld.2.2.1).apart (b := gp) (by omega) (arL 16 (adF P (adF a s))) 0, (hHeld.2.2.2.1).apart (b := gp) (by omega) (arL 16 (adF P (adF a s))) 0, (hHeld.2.2.2.2).trans (Below.setCells (Below.refl w.heap.size _) (b := gp) (by omega) (arL 16 (adF P (adF a s))) 0)⟩
                dsimp only [List.toList_toArray]
                generalize World.setCells c8 gp 0 (arL 16 (adF P (adF a s))) = c9 at *
                refine hK.out _ _ hSc9 (fun hHeld2 => ?_)
                clear hK K hHeld hSc9 hUc8 hpc8
                have hHeld := hHeld2
                clear hHeld2
                try simp only [Act.put]
                refine wpAnyH_done (by kernel_rfl) ?_ _
                refine NoPanic.normal ?_
                exact ⟨rfl, gp, rfl, hHeld.1, hHeld.2.1, hHeld.2.2.1, hHeld.2.2.2.1, hUc9, hpc9, by omega, hHeld.2.2.2.2⟩
              · obtain ⟨gp, hggp⟩ : ∃ g : Nat, c6.heap.size = g := ⟨_, rfl⟩
                have hlgOgp : gO < gp := by rw [← hggp]; exact (hHeld.2.2.2.1).lt (by omega)
                have hq : Below c6.heap.size c6 (c6.alloc (.cells (arL 16 fun _ => 0).toArray 22)) := (Below.refl _ _).alloc (Nat.le_refl _) _
                have hpc10 := Ar.new c6 16 (fun _ => 0) 22
                rw [hggp] at hpc10
                have hUc10 := (hUc6).to (by omega) hq
                have hSc10 := show Ar (c6.alloc (.cells (arL 16 fun _ => 0).toArray 22)) w.heap.size 432 (pkF (ek f) sb) ∧ Ar (c6.alloc (.cells (arL 16 fun _ => 0).toArray 22)) gR 16 (fun _ => 0) ∧ Ar (c6.alloc (.cells (arL 16 fun _ => 0).toArray 22)) gs 16 (s) ∧ Ar (c6.alloc (.cells (arL 16 fun _ => 0).toArray 22)) gO 16 (a) ∧ Below w.heap.size w (c6.alloc (.cells (arL 16 fun _ => 0).toArray 22)) from ⟨(hHeld.1).to (by omega) hq, (hHeld.2.1).to (by omega) hq, (hHeld.2.2.1).to (by omega) hq, (hHeld.2.2.2.1).to (by omega) hq, (hHeld.2.2.2.2).trans (hq.mono (hHeld.2.2.2.2).size)⟩
                go_simp
                obtain ⟨c10, hwc10⟩ : ∃ V : World, V = c6.alloc (.cells (arL 16 fun _ => 0).toArray 22) := ⟨_, rfl⟩
                rw [show c6.alloc (.cells (arL 16 fun _ => 0).toArray 22) = c10 from hwc10.symm] at hSc10
                have hpc10 : Ar c10 gp 16 (fun _ => 0) := by rw [hwc10]; exact hpc10
                have hUc10 : Ar c10 gU 16 (u) := by rw [hwc10]; exact hUc10
                try rw [hggp]
                rw [← hwc10]
                refine hK.out _ _ hSc10 (fun hHeld2 => ?_)
                clear hK K hHeld hq hSc10 hwc10 hggp hUc6
                have hHeld := hHeld2
                clear hHeld2
                try simp only [Act.put, List.setIfInBounds_toArray, List.set_cons_zero, List.set_cons_succ, List.getElem_toArray, List.getElem_cons_zero, List.getElem_cons_succ]
                refine wpAnyH_ready (rs := [8]) (by kernel_rfl) (by simp) ?_
                refine AllReadyH.cons rfl (fun K hK => ?_) AllReadyH.nil
                go_simp
                refine (refxor8 P (adF a s) _ hpb.out hab.out).mono ?_
                rintro e c11 ⟨rfl, hq⟩
                go_wp2_with fail
                have hUc11 := (hUc10).to (by omega) hq
                have hpc11 := (hpc10).to (by omega) hq
                refine hK.out _ _ ⟨(hHeld.1).to (by omega) hq, (hHeld.2.1).to (by omega) hq, (hHeld.2.2.1).to (by omega) hq, (hHeld.2.2.2.1).to (by omega) hq, (hHeld.2.2.2.2).trans (hq.mono (hHeld.2.2.2.2).size)⟩ (fun hHeld2 => ?_)
                clear hK K hHeld hq hUc10 hpc10
                have hHeld := hHeld2
                clear hHeld2
                try simp only [Act.put, List.setIfInBounds_toArray, List.set_cons_zero, List.set_cons_succ, List.getElem_toArray, List.getElem_cons_zero, List.getElem_cons_succ]
                refine wpAnyH_ready (rs := [10]) (by kernel_rfl) (by simp) ?_
                refine AllReadyH.cons rfl (fun K hK => ?_) AllReadyH.nil
                rw [if_pos (by rfl)]
                refine wp_store_mid _ _ _ rfl gp 0 (arL 16 (adF P (adF a s))).toArray rfl rfl hpc11.there (size16b _) (all_oneCell_toArray (arL_one 16 (adF P (adF a s)))) ?_
                have hpc12 := hpc11.whole (adF P (adF a s))
                have hUc12 := hUc11.apart (b := gp) (by omega) (arL 16 (adF P (adF a s))) 0
                have hSc12 := show Ar (World.setCells c11 gp 0 (arL 16 (adF P (adF a s)))) w.heap.size 432 (pkF (ek f) sb) ∧ Ar (World.setCells c11 gp 0 (arL 16 (adF P (adF a s)))) gR 16 (fun _ => 0) ∧ Ar (World.setCells c11 gp 0 (arL 16 (adF P (adF a s)))) gs 16 (s) ∧ Ar (World.setCells c11 gp 0 (arL 16 (adF P (adF a s)))) gO 16 (a) ∧ Below w.heap.size w (World.setCells c11 gp 0 (arL 16 (adF P (adF a s)))) from ⟨(hHeld.1).apart (b := gp) (by omega) (arL 16 (adF P (adF a s))) 0, (hHeld.2.1).apart (b := gp) (by omega) (arL 16 (adF P (adF a s))) 0, (hHeld.2.2.1).apart (b := gp) (by omega) (arL 16 (adF P (adF a s))) 0, (hHeld.2.2.2.1).apart (b := gp) (by omega) (arL 16 (adF P (adF a s))) 0, (hHeld.2.2.2.2).trans (Below.setCells (Below.refl w.heap.size _) (b := gp) (by omega) (arL 16 (adF P (adF a s))) 0)⟩
                dsimp only [List.toList_toArray]
                generalize World.setCells c11 gp 0 (arL 16 (adF P (adF a s))) = c12 at *
                refine hK.out _ _ hSc12 (fun hHeld2 => ?_)
                clear hK K hHeld hSc12 hUc11 hpc11
                have hHeld := hHeld2
                clear hHeld2
                try simp only [Act.put]
                refine wpAnyH_done (by kernel_rfl) ?_ _
                refine NoPanic.normal ?_
                exact ⟨rfl, gp, rfl, hHeld.1, hHeld.2.1, hHeld.2.2.1, hHeld.2.2.2.1, hUc12, hpc12, by omega, hHeld.2.2.2.2⟩
            · obtain ⟨gp, hggp⟩ : ∃ g : Nat, c5.heap.size = g := ⟨_, rfl⟩
              have hlgOgp : gO < gp := by rw [← hggp]; exact (hHeld.2.2.2.1).lt (by omega)
              have hq : Below c5.heap.size c5 (c5.alloc (.cells (arL 16 fun _ => 0).toArray 22)) := (Below.refl _ _).alloc (Nat.le_refl _) _
              have hpc13 := Ar.new c5 16 (fun _ => 0) 22
              rw [hggp] at hpc13
              have hUc13 := (hUc5).to (by omega) hq
              have hSc13 := show Ar (c5.alloc (.cells (arL 16 fun _ => 0).toArray 22)) w.heap.size 432 (pkF (ek f) sb) ∧ Ar (c5.alloc (.cells (arL 16 fun _ => 0).toArray 22)) gR 16 (fun _ => 0) ∧ Ar (c5.alloc (.cells (arL 16 fun _ => 0).toArray 22)) gs 16 (s) ∧ Ar (c5.alloc (.cells (arL 16 fun _ => 0).toArray 22)) gO 16 (a) ∧ Below w.heap.size w (c5.alloc (.cells (arL 16 fun _ => 0).toArray 22)) from ⟨(hHeld.1).to (by omega) hq, (hHeld.2.1).to (by omega) hq, (hHeld.2.2.1).to (by omega) hq, (hHeld.2.2.2.1).to (by omega) hq, (hHeld.2.2.2.2).trans (hq.mono (hHeld.2.2.2.2).size)⟩
              go_simp
              obtain ⟨c13, hwc13⟩ : ∃ V : World, V = c5.alloc (.cells (arL 16 fun _ => 0).toArray 22) := ⟨_, rfl⟩
              rw [show c5.alloc (.cells (arL 16 fun _ => 0).toArray 22) = c13 from hwc13.symm] at hSc13
              have hpc13 : Ar c13 gp 16 (fun _ => 0) := by rw [hwc13]; exact hpc13
              have hUc13 : Ar c13 gU 16 (u) := by rw [hwc13]; exact hUc13
              try rw [hggp]
              rw [← hwc13]
              refine hK.out _ _ hSc13 (fun hHeld2 => ?_)
              clear hK K hHeld hq hSc13 hwc13 hggp hUc5
              have hHeld := hHeld2
              clear hHeld2
              try simp only [Act.put, List.setIfInBounds_toArray, List.set_cons_zero, List.set_cons_succ, List.getElem_toArray, List.getElem_cons_zero, List.getElem_cons_succ]
              refine wpAnyH_ready (rs := [7]) (by kernel_rfl) (by simp) ?_
              refine AllReadyH.cons rfl (fun K hK => ?_) AllReadyH.nil
              go_simp
              refine (refxor8 a s _ hob.out HSL.out).mono ?_
              rintro e c14 ⟨rfl, hq⟩
              go_wp2_with fail
              have hUc14 := (hUc13).to (by omega) hq
              have hpc14 := (hpc13).to (by omega) hq
              refine hK.out _ _ ⟨(hHeld.1).to (by omega) hq, (hHeld.2.1).to (by omega) hq, (hHeld.2.2.1).to (by omega) hq, (hHeld.2.2.2.1).to (by omega) hq, (hHeld.2.2.2.2).trans (hq.mono (hHeld.2.2.2.2).size)⟩ (fun hHeld2 => ?_)
              clear hK K hHeld hq hUc13 hpc13
              have hHeld := hHeld2
              clear hHeld2
              try simp only [Act.put, List.setIfInBounds_toArray, List.set_cons_zero, List.set_cons_succ, List.getElem_toArray, List.getElem_cons_zero, List.getElem_cons_succ]
              refine wpAnyH_ready (rs := [8]) (by kernel_rfl) (by simp) ?_
              refine AllReadyH.cons rfl (fun K hK => ?_) AllReadyH.nil
              go_simp
              refine (refxor8 P (adF a s) _ hpb.out hab.out).mono ?_
              rintro e c15 ⟨rfl, hq⟩
              go_wp2_with fail
              have hUc15 := (hUc14).to (by omega) hq
              have hpc15 := (hpc14).to (by omega) hq
              refine hK.out _ _ ⟨(hHeld.1).to (by omega) hq, (hHeld.2.1).to (by omega) hq, (hHeld.2.2.1).to (by omega) hq, (hHeld.2.2.2.1).to (by omega) hq, (hHeld.2.2.2.2).trans (hq.mono (hHeld.2.2.2.2).size)⟩ (fun hHeld2 => ?_)
              clear hK K hHeld hq hUc14 hpc14
              have hHeld := hHeld2
              clear hHeld2
              try simp only [Act.put, List.setIfInBounds_toArray, List.set_cons_zero, List.set_cons_succ, List.getElem_toArray, List.getElem_cons_zero, List.getElem_cons_succ]
              refine wpAnyH_ready (rs := [10]) (by kernel_rfl) (by simp) ?_
              refine AllReadyH.cons rfl (fun K hK => ?_) AllReadyH.nil
              rw [if_pos (by rfl)]
              refine wp_store_mid _ _ _ rfl gp 0 (arL 16 (adF P (adF a s))).toArray rfl rfl hpc15.there (size16b _) (all_oneCell_toArray (arL_one 16 (adF P (adF a s)))) ?_
              have hpc16 := hpc15.whole (adF P (adF a s))
              have hUc16 := hUc15.apart (b := gp) (by omega) (arL 16 (adF P (adF a s))) 0
              have hSc16 := show Ar (World.setCells c15 gp 0 (arL 16 (adF P (adF a s)))) w.heap.size 432 (pkF (ek f) sb) ∧ Ar (World.setCells c15 gp 0 (arL 16 (adF P (adF a s)))) gR 16 (fun _ => 0) ∧ Ar (World.setCells c15 gp 0 (arL 16 (adF P (adF a s)))) gs 16 (s) ∧ Ar (World.setCells c15 gp 0 (arL 16 (adF P (adF a s)))) gO 16 (a) ∧ Below w.heap.size w (World.setCells c15 gp 0 (arL 16 (adF P (adF a s)))) from ⟨(hHeld.1).apart (b := gp) (by omega) (arL 16 (adF P (adF a s))) 0, (hHeld.2.1).apart (b := gp) (by omega) (arL 16 (adF P (adF a s))) 0, (hHeld.2.2.1).apart (b := gp) (by omega) (arL 16 (adF P (adF a s))) 0, (hHeld.2.2.2.1).apart (b := gp) (by omega) (arL 16 (adF P (adF a s))) 0, (hHeld.2.2.2.2).trans (Below.setCells (Below.refl w.heap.size _) (b := gp) (by omega) (arL 16 (adF P (adF a s))) 0)⟩
              dsimp only [List.toList_toArray]
              generalize World.setCells c15 gp 0 (arL 16 (adF P (adF a s))) = c16 at *
              refine hK.out _ _ hSc16 (fun hHeld2 => ?_)
              clear hK K hHeld hSc16 hUc15 hpc15
              have hHeld := hHeld2
              clear hHeld2
              try simp only [Act.put]
              refine wpAnyH_done (by kernel_rfl) ?_ _
              refine NoPanic.normal ?_
              exact ⟨rfl, gp, rfl, hHeld.1, hHeld.2.1, hHeld.2.2.1, hHeld.2.2.2.1, hUc16, hpc16, by omega, hHeld.2.2.2.2⟩
          · obtain ⟨gp, hggp⟩ : ∃ g : Nat, cd.heap.size = g := ⟨_, rfl⟩
            have hlgOgp : gO < gp := by rw [← hggp]; exact (hHeld.2.2.2.1).lt (by omega)
            have hq : Below cd.heap.size cd (cd.alloc (.cells (arL 16 fun _ => 0).toArray 22)) := (Below.refl _ _).alloc (Nat.le_refl _) _
            have hpc17 := Ar.new cd 16 (fun _ => 0) 22
            rw [hggp] at hpc17
            have hUc17 := (hUcd).to (by omega) hq
            have hSc17 := show Ar (cd.alloc (.cells (arL 16 fun _ => 0).toArray 22)) w.heap.size 432 (pkF (ek f) sb) ∧ Ar (cd.alloc (.cells (arL 16 fun _ => 0).toArray 22)) gR 16 (fun _ => 0) ∧ Ar (cd.alloc (.cells (arL 16 fun _ => 0).toArray 22)) gs 16 (s) ∧ Ar (cd.alloc (.cells (arL 16 fun _ => 0).toArray 22)) gO 16 (a) ∧ Below w.heap.size w (cd.alloc (.cells (arL 16 fun _ => 0).toArray 22)) from ⟨(hHeld.1).to (by omega) hq, (hHeld.2.1).to (by omega) hq, (hHeld.2.2.1).to (by omega) hq, (hHeld.2.2.2.1).to (by omega) hq, (hHeld.2.2.2.2).trans (hq.mono (hHeld.2.2.2.2).size)⟩
            go_simp
            obtain ⟨c17, hwc17⟩ : ∃ V : World, V = cd.alloc (.cells (arL 16 fun _ => 0).toArray 22) := ⟨_, rfl⟩
            rw [show cd.alloc (.cells (arL 16 fun _ => 0).toArray 22) = c17 from hwc17.symm] at hSc17
            have hpc17 : Ar c17 gp 16 (fun _ => 0) := by rw [hwc17]; exact hpc17
            have hUc17 : Ar c17 gU 16 (u) := by rw [hwc17]; exact hUc17
            try rw [hggp]
            rw [← hwc17]
            refine hK.out _ _ hSc17 (fun hHeld2 => ?_)
            clear hK K hHeld hq hSc17 hwc17 hggp hUcd
            have hHeld := hHeld2
            clear hHeld2
            try simp only [Act.put, List.setIfInBounds_toArray, List.set_cons_zero, List.set_cons_succ, List.getElem_toArray, List.getElem_cons_zero, List.getElem_cons_succ]
            refine wpAnyH_ready (rs := [4]) (by kernel_rfl) (by simp) ?_
            refine AllReadyH.cons rfl (fun K hK => ?_) AllReadyH.nil
            go_simp
            refine (HPAD.out _ (hHeld.2.2.2.2)).mono ?_
            rintro e c18 ⟨rfl, hq⟩
            go_wp2_with fail
            have hUc18 := (hUc17).to (by omega) hq
            have hpc18 := (hpc17).to (by omega) hq
            refine hK.out _ _ ⟨(hHeld.1).to (by omega) hq, (hHeld.2.1).to (by omega) hq, (hHeld.2.2.1).to (by omega) hq, (hHeld.2.2.2.1).to (by omega) hq, (hHeld.2.2.2.2).trans (hq.mono (hHeld.2.2.2.2).size)⟩ (fun hHeld2 => ?_)
            clear hK K hHeld hq hUc17 hpc17
            have hHeld := hHeld2
            clear hHeld2
            try simp only [Act.put, List.setIfInBounds_toArray, List.set_cons_zero, List.set_cons_succ, List.getElem_toArray, List.getElem_cons_zero, List.getElem_cons_succ]
            refine wpAnyH_ready (rs := [7]) (by kernel_rfl) (by simp) ?_
            refine AllReadyH.cons rfl (fun K hK => ?_) AllReadyH.nil
            go_simp
            refine (refxor8 a s _ hob.out HSL.out).mono ?_
            rintro e c19 ⟨rfl, hq⟩
            go_wp2_with fail
            have hUc19 := (hUc18).to (by omega) hq
            have hpc19 := (hpc18).to (by omega) hq
            refine hK.out _ _ ⟨(hHeld.1).to (by omega) hq, (hHeld.2.1).to (by omega) hq, (hHeld.2.2.1).to (by omega) hq, (hHeld.2.2.2.1).to (by omega) hq, (hHeld.2.2.2.2).trans (hq.mono (hHeld.2.2.2.2).size)⟩ (fun hHeld2 => ?_)
            clear hK K hHeld hq hUc18 hpc18
            have hHeld := hHeld2
            clear hHeld2
            try simp only [Act.put, List.setIfInBounds_toArray, List.set_cons_zero, List.set_cons_succ, List.getElem_toArray, List.getElem_cons_zero, List.getElem_cons_succ]
            refine wpAnyH_ready (rs := [8]) (by kernel_rfl) (by simp) ?_
            refine AllReadyH.cons rfl (fun K hK => ?_) AllReadyH.nil
            go_simp
            refine (refxor8 P (adF a s) _ hpb.out hab.out).mono ?_
            rintro e c20 ⟨rfl, hq⟩
            go_wp2_with fail
            have hUc20 := (hUc19).to (by omega) hq
            have hpc20 := (hpc19).to (by omega) hq
            refine hK.out _ _ ⟨(hHeld.1).to (by omega) hq, (hHeld.2.1).to (by omega) hq, (hHeld.2.2.1).to (by omega) hq, (hHeld.2.2.2.1).to (by omega) hq, (hHeld.2.2.2.2).trans (hq.mono (hHeld.2.2.2.2).size)⟩ (fun hHeld2 => ?_)
            clear hK K hHeld hq hUc19 hpc19
            have hHeld := hHeld2
            clear hHeld2
            try simp only [Act.put, List.setIfInBounds_toArray, List.set_cons_zero, List.set_cons_succ, List.getElem_toArray, List.getElem_cons_zero, List.getElem_cons_succ]
            refine wpAnyH_ready (rs := [10]) (by kernel_rfl) (by simp) ?_
            refine AllReadyH.cons rfl (fun K hK => ?_) AllReadyH.nil
            rw [if_pos (by rfl)]
            refine wp_store_mid _ _ _ rfl gp 0 (arL 16 (adF P (adF a s))).toArray rfl rfl hpc20.there (size16b _) (all_oneCell_toArray (arL_one 16 (adF P (adF a s)))) ?_
            have hpc21 := hpc20.whole (adF P (adF a s))
            have hUc21 := hUc20.apart (b := gp) (by omega) (arL 16 (adF P (adF a s))) 0
            have hSc21 := show Ar (World.setCells c20 gp 0 (arL 16 (adF P (adF a s)))) w.heap.size 432 (pkF (ek f) sb) ∧ Ar (World.setCells c20 gp 0 (arL 16 (adF P (adF a s)))) gR 16 (fun _ => 0) ∧ Ar (World.setCells c20 gp 0 (arL 16 (adF P (adF a s)))) gs 16 (s) ∧ Ar (World.setCells c20 gp 0 (arL 16 (adF P (adF a s)))) gO 16 (a) ∧ Below w.heap.size w (World.setCells c20 gp 0 (arL 16 (adF P (adF a s)))) from ⟨(hHeld.1).apart (b := gp) (by omega) (arL 16 (adF P (adF a s))) 0, (hHeld.2.1).apart (b := gp) (by omega) (arL 16 (adF P (adF a s))) 0, (hHeld.2.2.1).apart (b := gp) (by omega) (arL 16 (adF P (adF a s))) 0, (hHeld.2.2.2.1).apart (b := gp) (by omega) (arL 16 (adF P (adF a s))) 0, (hHeld.2.2.2.2).trans (Below.setCells (Below.refl w.heap.size _) (b := gp) (by omega) (arL 16 (adF P (adF a s))) 0)⟩
            dsimp only [List.toList_toArray]
            generalize World.setCells c20 gp 0 (arL 16 (adF P (adF a s))) = c21 at *
            refine hK.out _ _ hSc21 (fun hHeld2 => ?_)
            clear hK K hHeld hSc21 hUc20 hpc20
            have hHeld := hHeld2
            clear hHeld2
            try simp only [Act.put]
            refine wpAnyH_done (by kernel_rfl) ?_ _
            refine NoPanic.normal ?_
            exact ⟨rfl, gp, rfl, hHeld.1, hHeld.2.1, hHeld.2.2.1, hHeld.2.2.2.1, hUc21, hpc21, by omega, hHeld.2.2.2.2⟩
        rintro gp x7 ⟨hEx7, hRx7, hsx7, hOx7, hUx7, hpx7, hlgp, hBx7⟩
        clear hEwr hRwr hswr hOwr hUwr hBwr
        go_upto_region 12 with fail
        apply wp_region_via (F := fun W => Ar W w.heap.size 432 (pkF (ek f) sb) ∧ Ar W gR 16 (fun _ => 0) ∧ Ar W gs 16 (s) ∧ Ar W gO 16 (a) ∧ Ar W gp 16 (adF P (adF a s)) ∧ Ar W gU 16 (adF u (enF f (adF P (adF a s)))) ∧ Below w.heap.size w W)
        case h1 =>
          refine wp_region_noPanic ?_
          have hUdd := hUx7.drew
          refine wp_region_held_drew (S := fun W => Ar W w.heap.size 432 (pkF (ek f) sb) ∧ Ar W gR 16 (fun _ => 0) ∧ Ar W gs 16 (s) ∧ Ar W gO 16 (a) ∧ Ar W gp 16 (adF P (adF a s)) ∧ Below w.heap.size w W) (by kernel_rfl) ⟨hEx7.drew, hRx7.drew, hsx7.drew, hOx7.drew, hpx7.drew, hBx7.drew⟩ (fun hHeld => ?_)
          generalize World.drew x7 = dd at *
          refine wpAnyH_take (i := 1) (v := .agg (arL 432 (pkF (ek f) sb)).toArray) rfl (by kernel_rfl) (by kernel_rfl) (by kernel_rfl) (fun _ _ _ h => h) (yieldsIf_load_mid (by rfl) _ _ rfl w.heap.size (0) rfl (arL 432 (pkF (ek f) sb)) _ (fun W hSw => hSw.1.range) HS.out HW.out (sizeK _)) (by assumption) ?_
          simp only [Act.put, List.setIfInBounds_toArray, List.set_cons_zero, List.set_cons_succ, List.getElem_toArray, List.getElem_cons_zero, List.getElem_cons_succ]
          refine wpAnyH_take (i := 2) (v := .agg (arL 16 (adF P (adF a s))).toArray) rfl (by kernel_rfl) (by kernel_rfl) (by kernel_rfl) (fun _ _ _ h => h) (yieldsIf_load_mid (by rfl) _ _ rfl gp (0) rfl (arL 16 (adF P (adF a s))) _ (fun W hSw => hSw.2.2.2.2.1.range) Tryd.arr16b rfl (size16b _)) (by assumption) ?_
          simp only [Act.put, List.setIfInBounds_toArray, List.set_cons_zero, List.set_cons_succ, List.getElem_toArray, List.getElem_cons_zero, List.getElem_cons_succ]
          refine wpAnyH_ready (rs := [0, 3]) (by kernel_rfl) (by simp) ?_
          refine AllReadyH.cons rfl (fun K hK => ?_) (AllReadyH.cons rfl (fun K hK => ?_) AllReadyH.nil)
          · rw [if_pos (by rfl)]
            refine wp_load_mid _ _ rfl gU 0 rfl (arL 16 (u)) _ hUdd.range Tryd.arr16b rfl (size16b _) ?_
            refine hK.out _ _ hHeld (fun hHeld2 => ?_)
            clear hK K hHeld
            have hHeld := hHeld2
            clear hHeld2
            try simp only [Act.put, List.setIfInBounds_toArray, List.set_cons_zero, List.set_cons_succ, List.getElem_toArray, List.getElem_cons_zero]
            refine wpAnyH_ready (rs := [3]) (by kernel_rfl) (by simp) ?_
            refine AllReadyH.cons rfl (fun K hK => ?_) AllReadyH.nil
            go_simp
            refine (refencrypt f (adF P (adF a s)) _ HFB.out hxb.out).mono ?_
            rintro e d1 ⟨rfl, hq⟩
            go_wp2_with fail
            have hUd1 := (hUdd).to (by omega) hq
            refine hK.out _ _ ⟨(hHeld.1).to (by omega) hq, (hHeld.2.1).to (by omega) hq, (hHeld.2.2.1).to (by omega) hq, (hHeld.2.2.2.1).to (by omega) hq, (hHeld.2.2.2.2.1).to (by omega) hq, (hHeld.2.2.2.2.2).trans (hq.mono (hHeld.2.2.2.2.2).size)⟩ (fun hHeld2 => ?_)
            clear hK K hHeld hq hUdd
            have hHeld := hHeld2
            clear hHeld2
            try simp only [Act.put, List.setIfInBounds_toArray, List.set_cons_zero, List.set_cons_succ, List.getElem_toArray, List.getElem_cons_zero, List.getElem_cons_succ]
            refine wpAnyH_ready (rs := [4]) (by kernel_rfl) (by simp) ?_
            refine AllReadyH.cons rfl (fun K hK => ?_) AllReadyH.nil
            go_simp
            refine (refxor8 u (enF f (adF P (adF a s))) _ hub.out heb.out).mono ?_
            rintro e d2 ⟨rfl, hq⟩
            go_wp2_with fail
            have hUd2 := (hUd1).to (by omega) hq
            refine hK.out _ _ ⟨(hHeld.1).to (by omega) hq, (hHeld.2.1).to (by omega) hq, (hHeld.2.2.1).to (by omega) hq, (hHeld.2.2.2.1).to (by omega) hq, (hHeld.2.2.2.2.1).to (by omega) hq, (hHeld.2.2.2.2.2).trans (hq.mono (hHeld.2.2.2.2.2).size)⟩ (fun hHeld2 => ?_)
            clear hK K hHeld hq hUd1
            have hHeld := hHeld2
            clear hHeld2
            try simp only [Act.put, List.setIfInBounds_toArray, List.set_cons_zero, List.set_cons_succ, List.getElem_toArray, List.getElem_cons_zero, List.getElem_cons_succ]
            refine wpAnyH_ready (rs := [5]) (by kernel_rfl) (by simp) ?_
            refine AllReadyH.cons rfl (fun K hK => ?_) AllReadyH.nil
            rw [if_pos (by rfl)]
            refine wp_store_mid _ _ _ rfl gU 0 (arL 16 (adF u (enF f (adF P (adF a s))))).toArray rfl rfl hUd2.there (size16b _) (all_oneCell_toArray (arL_one 16 (adF u (enF f (adF P (adF a s)))))) ?_
            have hUd3 := hUd2.whole (adF u (enF f (adF P (adF a s))))
            have hSd3 := show Ar (World.setCells d2 gU 0 (arL 16 (adF u (enF f (adF P (adF a s)))))) w.heap.size 432 (pkF (ek f) sb) ∧ Ar (World.setCells d2 gU 0 (arL 16 (adF u (enF f (adF P (adF a s)))))) gR 16 (fun _ => 0) ∧ Ar (World.setCells d2 gU 0 (arL 16 (adF u (enF f (adF P (adF a s)))))) gs 16 (s) ∧ Ar (World.setCells d2 gU 0 (arL 16 (adF u (enF f (adF P (adF a s)))))) gO 16 (a) ∧ Ar (World.setCells d2 gU 0 (arL 16 (adF u (enF f (adF P (adF a s)))))) gp 16 (adF P (adF a s)) ∧ Below w.heap.size w (World.setCells d2 gU 0 (arL 16 (adF u (enF f (adF P (adF a s)))))) from ⟨(hHeld.1).apart (b := gU) (by omega) (arL 16 (adF u (enF f (adF P (adF a s))))) 0, (hHeld.2.1).apart (b := gU) (by omega) (arL 16 (adF u (enF f (adF P (adF a s))))) 0, (hHeld.2.2.1).apart (b := gU) (by omega) (arL 16 (adF u (enF f (adF P (adF a s))))) 0, (hHeld.2.2.2.1).apart (b := gU) (by omega) (arL 16 (adF u (enF f (adF P (adF a s))))) 0, (hHeld.2.2.2.2.1).apart (b := gU) (by omega) (arL 16 (adF u (enF f (adF P (adF a s))))) 0, (hHeld.2.2.2.2.2).trans (Below.setCells (Below.refl w.heap.size _) (b := gU) (by omega) (arL 16 (adF u (enF f (adF P (adF a s))))) 0)⟩
            dsimp only [List.toList_toArray]
            generalize World.setCells d2 gU 0 (arL 16 (adF u (enF f (adF P (adF a s))))) = d3 at *
            refine hK.out _ _ hSd3 (fun hHeld2 => ?_)
            clear hK K hHeld hSd3 hUd2
            have hHeld := hHeld2
            clear hHeld2
            try simp only [Act.put]
            refine wpAnyH_done (by kernel_rfl) ?_ _
            refine NoPanic.normal ?_
            exact ⟨rfl, rfl, hHeld.1, hHeld.2.1, hHeld.2.2.1, hHeld.2.2.2.1, hHeld.2.2.2.2.1, hUd3, hHeld.2.2.2.2.2⟩
          · go_simp
            refine (refencrypt f (adF P (adF a s)) _ HFB.out hxb.out).mono ?_
            rintro e d4 ⟨rfl, hq⟩
            go_wp2_with fail
            have hUd4 := (hUdd).to (by omega) hq
            refine hK.out _ _ ⟨(hHeld.1).to (by omega) hq, (hHeld.2.1).to (by omega) hq, (hHeld.2.2.1).to (by omega) hq, (hHeld.2.2.2.1).to (by omega) hq, (hHeld.2.2.2.2.1).to (by omega) hq, (hHeld.2.2.2.2.2).trans (hq.mono (hHeld.2.2.2.2.2).size)⟩ (fun hHeld2 => ?_)
            clear hK K hHeld hq hUdd
            have hHeld := hHeld2
            clear hHeld2
            try simp only [Act.put, List.setIfInBounds_toArray, List.set_cons_zero, List.set_cons_succ, List.getElem_toArray, List.getElem_cons_zero, List.getElem_cons_succ]
            refine wpAnyH_ready (rs := [0]) (by kernel_rfl) (by simp) ?_
            refine AllReadyH.cons rfl (fun K hK => ?_) AllReadyH.nil
            rw [if_pos (by rfl)]
            refine wp_load_mid _ _ rfl gU 0 rfl (arL 16 (u)) _ hUd4.range Tryd.arr16b rfl (size16b _) ?_
            refine hK.out _ _ hHeld (fun hHeld2 => ?_)
            clear hK K hHeld
            have hHeld := hHeld2
            clear hHeld2
            try simp only [Act.put, List.setIfInBounds_toArray, List.set_cons_zero, List.set_cons_succ, List.getElem_toArray, List.getElem_cons_zero]
            refine wpAnyH_ready (rs := [4]) (by kernel_rfl) (by simp) ?_
            refine AllReadyH.cons rfl (fun K hK => ?_) AllReadyH.nil
            go_simp
            refine (refxor8 u (enF f (adF P (adF a s))) _ hub.out heb.out).mono ?_
            rintro e d5 ⟨rfl, hq⟩
            go_wp2_with fail
            have hUd5 := (hUd4).to (by omega) hq
            refine hK.out _ _ ⟨(hHeld.1).to (by omega) hq, (hHeld.2.1).to (by omega) hq, (hHeld.2.2.1).to (by omega) hq, (hHeld.2.2.2.1).to (by omega) hq, (hHeld.2.2.2.2.1).to (by omega) hq, (hHeld.2.2.2.2.2).trans (hq.mono (hHeld.2.2.2.2.2).size)⟩ (fun hHeld2 => ?_)
            clear hK K hHeld hq hUd4
            have hHeld := hHeld2
            clear hHeld2
            try simp only [Act.put, List.setIfInBounds_toArray, List.set_cons_zero, List.set_cons_succ, List.getElem_toArray, List.getElem_cons_zero, List.getElem_cons_succ]
            refine wpAnyH_ready (rs := [5]) (by kernel_rfl) (by simp) ?_
            refine AllReadyH.cons rfl (fun K hK => ?_) AllReadyH.nil
            rw [if_pos (by rfl)]
            refine wp_store_mid _ _ _ rfl gU 0 (arL 16 (adF u (enF f (adF P (adF a s))))).toArray rfl rfl hUd5.there (size16b _) (all_oneCell_toArray (arL_one 16 (adF u (enF f (adF P (adF a s)))))) ?_
            have hUd6 := hUd5.whole (adF u (enF f (adF P (adF a s))))
            have hSd6 := show Ar (World.setCells d5 gU 0 (arL 16 (adF u (enF f (adF P (adF a s)))))) w.heap.size 432 (pkF (ek f) sb) ∧ Ar (World.setCells d5 gU 0 (arL 16 (adF u (enF f (adF P (adF a s)))))) gR 16 (fun _ => 0) ∧ Ar (World.setCells d5 gU 0 (arL 16 (adF u (enF f (adF P (adF a s)))))) gs 16 (s) ∧ Ar (World.setCells d5 gU 0 (arL 16 (adF u (enF f (adF P (adF a s)))))) gO 16 (a) ∧ Ar (World.setCells d5 gU 0 (arL 16 (adF u (enF f (adF P (adF a s)))))) gp 16 (adF P (adF a s)) ∧ Below w.heap.size w (World.setCells d5 gU 0 (arL 16 (adF u (enF f (adF P (adF a s)))))) from ⟨(hHeld.1).apart (b := gU) (by omega) (arL 16 (adF u (enF f (adF P (adF a s))))) 0, (hHeld.2.1).apart (b := gU) (by omega) (arL 16 (adF u (enF f (adF P (adF a s))))) 0, (hHeld.2.2.1).apart (b := gU) (by omega) (arL 16 (adF u (enF f (adF P (adF a s))))) 0, (hHeld.2.2.2.1).apart (b := gU) (by omega) (arL 16 (adF u (enF f (adF P (adF a s))))) 0, (hHeld.2.2.2.2.1).apart (b := gU) (by omega) (arL 16 (adF u (enF f (adF P (adF a s))))) 0, (hHeld.2.2.2.2.2).trans (Below.setCells (Below.refl w.heap.size _) (b := gU) (by omega) (arL 16 (adF u (enF f (adF P (adF a s))))) 0)⟩
            dsimp only [List.toList_toArray]
            generalize World.setCells d5 gU 0 (arL 16 (adF u (enF f (adF P (adF a s))))) = d6 at *
            refine hK.out _ _ hSd6 (fun hHeld2 => ?_)
            clear hK K hHeld hSd6 hUd5
            have hHeld := hHeld2
            clear hHeld2
            try simp only [Act.put]
            refine wpAnyH_done (by kernel_rfl) ?_ _
            refine NoPanic.normal ?_
            exact ⟨rfl, rfl, hHeld.1, hHeld.2.1, hHeld.2.2.1, hHeld.2.2.2.1, hHeld.2.2.2.2.1, hUd6, hHeld.2.2.2.2.2⟩
        rintro x8 ⟨hEx8, hRx8, hsx8, hOx8, hpx8, hUx8, hBx8⟩
        clear hEx7 hRx7 hsx7 hOx7 hpx7 hUx7 hBx7
        go_wp2_with (first | (refine wpList_load_ar rfl _ _ rfl _ _ _ rfl hUx8 Tryd.arr16b (size16b _) ?_) | (refine wpList_store_ar rfl _ _ _ rfl _ _ _ (adF u (enF f (adF P (adF a s)))) rfl rfl hRx8 (size16b _) ?_; intro y8 hRy8 bel8 siz8 kee8))
        refine bodyPost_ret_ar rfl rfl hRy8 Tryd.arr16b (size16b _) rfl ⟨by rw [haF_some HLEN.out HNN.out HRR.out hr0 HO.out HPD.out HUD.out HAD.out], hBx8.trans (bel8.mono (by omega))⟩
end Go.Proofs.YtflbpohcoghonaaDoor
