/-
  The walk of the law HashParts of layer 11: for every key and all bytes it returns true, and writes nothing that was there.
-/
import Derived.Test.YtflbpohcoghonaaDoorHag
import Derived.Deep.RegionHeld3
namespace Go.Proofs.YtflbpohcoghonaaDoor
open Go.RowKit
set_option linter.unusedVariables false
set_option maxRecDepth 100000
set_option linter.unusedSimpArgs false
theorem blH_len (xs : List UInt8) : ∀ n, (blV xs (List.range n)).length = n * 16
  | 0 => rfl
  | n + 1 => by rw [List.range_succ, blV_snoc, List.length_append, blH_len xs n, arL_len]; omega
theorem blH_get (xs : List UInt8) (i j : Nat) (hj : j < 16) : ∀ n, i < n → (blV xs (List.range n))[i * 16 + j]? = some (n8 (pt xs i j))
  | 0, h => absurd h (by omega)
  | n + 1, h => by
    rw [List.range_succ, blV_snoc]
    by_cases hi : i < n
    · rw [List.getElem?_append_left (by rw [blH_len]; omega)]; exact blH_get xs i j hj n hi
    · obtain rfl : i = n := by omega
      rw [List.getElem?_append_right (by rw [blH_len]; omega), blH_len, show i * 16 + j - i * 16 = j by omega]
      exact arL_get 16 _ j hj
/-- The parts in the slice that a loop has made. -/
theorem own_partsH {w : World} {B : Nat} {A : Option Addr} {n c : Nat} {xs : List UInt8} (h : w.ownsRow B 22 16 (.slice A n c) n (blV xs (List.range n))) : S16 w A n (pt xs) := fun hn => by
  obtain ⟨g, cap, hv, hg, hlt⟩ := World.ownsRow.form h hn
  injection hv with e1 e2 e3
  subst e1
  refine ⟨g, 0, rfl, hlt, fun i hi j v hj => ?_⟩
  obtain ⟨hj16, rfl⟩ := arL_get_some hj
  have hc := World.ownsRow.cells h (g := g) rfl (i * 16 + j) _ (blH_get xs i j hj16 n hi)
  rw [Addr.add_mid] at hc
  rw [show 0 + i * 16 + j = 0 + (i * 16 + j) by omega]; exact hc
/-- A slice up to a place. -/
theorem slice_to (A : Option Addr) (n c o : Nat) (ho : o ≤ n) (hnc : n ≤ c) (W : World) : (Instr.sliceAt 23 (.slice A n c) none (some (.int .i64 (o : Int))) none).run Tryd.prog W = .ok (.slice A o c) W := by
  have hel : Tryd.prog.elem 23 = 5 := by simp [Program.elem]
  have hs : (sizeOf 5).run Tryd.prog W = .ok 1 W := by kernel_rfl
  have hu : Tryd.prog.underlying 23 = some (.slice (Tryd.prog.elem 23)) := by rw [hel]; exact Tryd.sl8
  rw [run_sliceAt_slice (P := Tryd.prog) W 23 _ _ _ _ hu]
  have h1 := run_slice_any (P := Tryd.prog) W 23 A n c hu none (some (.int .i64 (o : Int))) none
  rw [h1, hel]
  have h2 : o ≤ c := by omega
  cases A with
  | none => simp [Instr.sliceBounds, run_sliceBound, sliced, h2, hs]
  | some a =>
    simp [Instr.sliceBounds, run_sliceBound, sliced, h2, hs]
    intro _
    cases a
    simp [Addr.add]
theorem Sl.take {w : World} {B n o : Nat} {A : Option Addr} {l : List UInt8} (h : Sl w B A n l) (ho : o ≤ n) : Sl w B A o (l.take o) := by
  have hl := h.len
  refine ⟨by rw [List.length_take]; omega, fun h0 => ?_⟩
  obtain ⟨b, off, e, hb, hc⟩ := h.2 (by omega)
  refine ⟨b, off, e, hb, fun j u hj => hc j u ?_⟩
  rw [List.getElem?_take] at hj
  split at hj
  · exact hj
  · cases hj
theorem haF_take {f s : Nat → Nat} {l : List UInt8} {n N o : Nat} (hl : l.length = n) (hN : n / 16 = N) (ho : 16 * N = o) : E16 (hsF f s (pt l) N) (haF f s (l.take o)) := by
  subst hl; subst hN; subst ho
  have ht : (l.take (16 * (l.length / 16))).length = 16 * (l.length / 16) := by rw [List.length_take]; omega
  unfold haF
  rw [ht, show 16 * (l.length / 16) / 16 = l.length / 16 by omega, hrF_no (n := 0) (by rw [List.length_drop, ht, Nat.sub_self]) (.inl rfl), ad_zero]
  refine hsF_congr f s _ (fun k hk j hj => ?_)
  unfold pt lF
  rw [List.getD, List.getD, List.getElem?_take, if_pos (by omega)]

set_option maxHeartbeats 8000000 in
theorem hparts (f : Nat → Nat) (A : Option Addr) (n c : Nat) (l : List UInt8) (w : World) (hf : ∀ j, j < 16 → f j < 256) (hS : Sl w w.heap.size A n l) (hnc : n ≤ c) (hcm : c ≤ maxLen) (hs : Boxes w) :
    Calls Tryd.prog 4 #[.agg (arL 16 f).toArray, .slice A n c] w fun e w' => e = .returned (.bool true) ∧ Below w.heap.size w w' := by
  have HX := Lib.hid hs
  have hz := zero16b
  have hzK := zeroK
  have z0 := run_zero16
  have hlen := hS.len
  have HLEN := Lib.hid hlen
  have HSS := Lib.hid hS
  have HNC := Lib.hid hnc
  have hn63 : n ≤ 9223372036854775807 := by have h := hcm; simp [maxLen] at h; omega
  clear hlen hS hnc hcm
  obtain ⟨dK, hfs, hrow⟩ := Tryd.structK
  have HS := Lib.hid hfs
  have HW := Lib.hid hrow
  clear hfs hrow
  obtain ⟨i0, hi0, hz0, hz1, hz2⟩ := info_parts infoB
  have Hf := Lib.hid hf
  obtain ⟨kf, hkf⟩ : ∃ k : Array Value, (arL 16 f).toArray = k := ⟨_, rfl⟩
  obtain ⟨w1, hw1⟩ : ∃ V : World, V = w.alloc (.cells (arL 16 f).toArray 22) := ⟨_, rfl⟩
  have hs1 : w1.heap.size = w.heap.size + 1 := by rw [hw1]; simp
  have hBw1 : Below w.heap.size w w1 := by rw [hw1]; exact (Below.refl _ _).alloc (Nat.le_refl _) _
  have hfw1 : Ar w1 w.heap.size 16 f := by rw [hw1]; exact Ar.new w 16 f _
  rw [hkf] at hw1
  rw [hkf]
  clear hkf hs hf
  go_enter Tryd.func4, Tryd.ntmps4
  go_upto_region 1 with fail
  rw [← hw1]
  clear hw1
  try simp only [Nat.add_assoc, Nat.reduceAdd]
  obtain ⟨gf, hgf⟩ : ∃ g : Nat, w.heap.size = g := ⟨_, rfl⟩
  rw [hgf] at hfw1
  try simp only [hgf]
  have hlf : w.heap.size ≤ gf := by omega
  clear  hs1
  go_wp2_with fail
  refine (hawake _ (HX.out.keep hBw1)).mono ?_
  rintro e x1 ⟨rfl, hq⟩
  have hfx1 := (hfw1).to (by omega) hq
  have hBx1 := hBw1.trans (hq.mono hBw1.size)
  clear hq hfw1 hBw1
  by_cases h200 : 200 < n
  · have h201 : (200 : Int) < (n : Int) := by omega
    go_wp2_with fail
    refine (hawake _ (HX.out.keep hBx1)).mono ?_
    rintro e x2 ⟨rfl, hq⟩
    have hfx2 := (hfx1).to (by omega) hq
    have hBx2 := hBx1.trans (hq.mono hBx1.size)
    clear hq hfx1 hBx1
    go_wp2_with fail
    go_ret
    exact ⟨rfl, hBx2⟩
  · have h201 : ¬ (200 : Int) < (n : Int) := by omega
    obtain ⟨s, hs0⟩ : ∃ s : Nat → Nat, enF f zF = s := ⟨_, rfl⟩
    have HS0 := Lib.hid hs0
    have HSL := Lib.hid (show B16 s by rw [← hs0]; exact enR_lt Hf.out zF_lt 10)
    clear hs0
    go_wp2_with (refine wpList_load_ar rfl _ _ rfl _ _ _ rfl hfx1 Tryd.arr16b (size16b _) ?_)
    refine (fnew f _ Hf.out (HX.out.keep hBx1)).mono ?_
    rintro e x3 ⟨gC, rfl, hgC, hCx3, hq⟩
    have hfx3 := (hfx1).to (by omega) hq
    have hBx3 := hBx1.trans (hq.mono hBx1.size)
    clear hq hfx1 hBx1
    go_wp2_with fail
    refine (tnew (some ⟨gC, 0, none⟩) f _ Hf.out (exp_made gC f _ hCx3) (HX.out.keep hBx3)).mono ?_
    rintro e x4 ⟨gT, rfl, hgT, hTx4, hq⟩
    rw [HS0.out] at hTx4
    have hfx4 := (hfx3).to (by omega) hq
    have hCx4 := (hCx3).to hq
    have hBx4 := hBx3.trans (hq.mono hBx3.size)
    clear hq hfx3 hCx3 hBx3
    have hn200 : n ≤ 200 := by omega
    clear h201 h200 hn63
    have hn6 := Lib.hid (show n ≤ 1000000 by omega)
    obtain ⟨N, hN⟩ : ∃ N : Nat, n / 16 = N := ⟨_, rfl⟩
    obtain ⟨o, ho⟩ : ∃ o : Nat, 16 * N = o := ⟨_, rfl⟩
    have HFA := Lib.hid (hfacts hn6.out hN ho)
    have HFB2 := Lib.hid (rfacts2 hn6.out hN ho)
    have HNN := Lib.hid hN
    have HO := Lib.hid ho
    obtain ⟨A9, hsl, hsl3⟩ := slice_from A n c o (by omega) HNC.out
    have HSLI := Lib.hid hsl
    have HSL2 := Lib.hid hsl3
    have HSLT := Lib.hid (slice_to A n c o (by omega) HNC.out)
    have HON := Lib.hid (show o ≤ n by omega)
    have hN12 : N ≤ 12 := by omega
    have HPB := Lib.hid (fun k (j : Nat) (_ : j < 16) => pt_lt l k j)
    clear hn200 hN ho hsl hsl3
    obtain ⟨j1, j2, j3⟩ := HFA.out
    clear j3
    go_wp2_with fail
    clear j1 j2
    obtain ⟨b0, hb0⟩ : ∃ b : Nat, x4.heap.size = b := ⟨_, rfl⟩
    have hlgfb0 : gf < b0 := by rw [← hb0]; exact hfx4.lt (by omega)
    have hlgCb0 : gC < b0 := by rw [← hb0]; exact hCx4.lt
    have hlgTb0 : gT < b0 := by rw [← hb0]; exact hTx4.lt
    have hlwb0 : w.heap.size ≤ b0 := by rw [← hb0]; exact hBx4.size
    have hb0s : b0 ≤ x4.heap.size := by omega
    clear hb0
    go_loopw [6, 7] (fun v i wr => ∃ (k : Nat) (A2 : Option Addr) (c2 : Nat), k ≤ N ∧ i = .int .i64 k ∧ v = .slice A2 k c2 ∧ World.ownsRow wr b0 22 16 (.slice A2 k c2) k (blV l (List.range k)) ∧ b0 ≤ wr.heap.size ∧ Ar wr gf 16 (f) ∧ Ci wr gC (f) ∧ Ti wr gT (some ⟨gC, 0, none⟩) (s) ∧ Below w.heap.size w wr) (fun _ i _ => N - (intOf i).toNat)
    case atStart => exact ⟨0, none, 0, Nat.zero_le _, rfl, rfl, World.ownsRow_nil _ _ _ _, hb0s, hfx4, hCx4, hTx4, hBx4⟩
    case round =>
      clear hfx4 hCx4 hTx4 hBx4 hb0s
      obtain ⟨k, A2, c2, hk, rfl, rfl, hO, hb0s, hfwr, hCwr, hTwr, hBwr⟩ := hrel
      by_cases hlt : k < N
      · have i1 : (k : Int) < (N : Int) := by omega
        have HK6 := Lib.hid (show 16 * k + 16 ≤ n by have := HNN.out; omega)
        obtain ⟨b, ob, hA1, hbl⟩ := sl_some HSS.out (Nat.lt_of_lt_of_le (Nat.succ_pos _) HK6.out)
        subst hA1
        obtain ⟨j1, j2, j3⟩ := HFA.out
        clear j3
        obtain ⟨P, hP⟩ : ∃ P, pt l k = P := ⟨_, rfl⟩
        have HPD := Lib.hid hP
        have hpt := Lib.hid (refpart3 b ob n c k (pt l k) wr HK6.out HNC.out hn6.out (pt_cell3 (HSS.out.below hBwr) k HK6.out) (Nat.lt_of_lt_of_le hbl hBwr.size))
        rw [hP] at hpt
        clear hP
        go_wp2_with fail
        clear j1 j2
        refine hpt.out.mono ?_
        rintro e x20 ⟨rfl, hq⟩
        have hfx20 := (hfwr).to (by omega) hq
        have hCx20 := (hCwr).to hq
        have hTx20 := (hTwr).to hq
        have hBx20 := hBwr.trans (hq.mono hBwr.size)
        have hOx := World.ownsRow.kept hO (grown_new hq) (Classical.em _)
        have hb0x := Nat.le_trans hb0s hq.size
        clear hq hfwr hCwr hTwr hBwr hO hb0s hpt
        have hbe := Lib.hid (built16x P)
        go_wp2_with (first
  | (refine wpList_bs_by rfl _ _ _ rfl [(0, .agg (arL 16 P).toArray)] rfl _ (hbe.out _) ?_)
  | (at_builtin; refine wpList_append_own _ rfl _ _ 37 rfl b0 22 i0 _ 16 16 Tryd.underlying37 hi0 hz0 hz1 hz2 rfl (by decide) _ _ _ rfl (hOx.alloc _) ⟨x20.heap.size, 0, none⟩ 1 1 (arL 16 P) rfl rfl (Ar.new x20 16 P _).src (arL_one 16 _) (by unfold maxLen; omega) (by omega) (by simp; omega) ?_; intro v6 w6 hown6 hgrow6 _; have k6 : Below b0 x20 w6 := ((Below.refl b0 x20).alloc hb0x _).grown hgrow6 (by simp; omega) (fun g hg => own_block hOx hg); clear hgrow6; obtain ⟨A6, c6, rfl⟩ := own_shape hown6))
        have hO6 : World.ownsRow w6 b0 22 16 (.slice A6 (k + 1) c6) (k + 1) (blV l (List.range (k + 1))) := by rw [List.range_succ, blV_snoc, HPD.out]; exact hown6
        have hs6 := Nat.le_trans hb0x k6.size
        have hf6 := hfx20.keep hlgfb0 k6
        have hC6 := hCx20.keep hlgCb0 k6
        have hT6 := hTx20.keep hlgTb0 k6
        have hB6 := hBx20.trans (k6.mono hlwb0)
        go_roundw
        case rel => exact ⟨k + 1, A6, c6, by omega, by go_num, rfl, hO6, hs6, hf6, hC6, hT6, hB6⟩
        case measure => simp [intOf]; omega
      · obtain rfl : N = k := by omega
        have i1 : ¬ (N : Int) < (N : Int) := by omega
        have hS16 := own_partsH hO
        obtain ⟨j1, j2, j3⟩ := HFA.out
        clear j3
        go_wp2_with fail
        refine (hfull (some ⟨gT, 0, none⟩) f s A2 N c2 (pt l) _ Hf.out HS0.out HPB.out hS16 (by omega) (wtabm gT gC f s _ HS0.out (hTwr) (hCwr)) (HX.out.keep hBwr)).mono ?_
        rintro e x5 ⟨rfl, hq⟩
        have hfx5 := (hfwr).to (by omega) hq
        have hCx5 := (hCwr).to hq
        have hTx5 := (hTwr).to hq
        have hBx5 := hBwr.trans (hq.mono hBwr.size)
        clear hq hfwr hCwr hTwr hBwr
        clear j1 j2 i1 hO hS16 hb0s
        have hub := Lib.hid (hsF_lt Hf.out HSL.out HPB.out N)
        have hob := Lib.hid (atF_lt zF_lt HSL.out N)
        have HTK := Lib.hid (haF_take (f := f) (s := s) HLEN.out HNN.out HO.out)
        have HEQ := Lib.hid (haF_eq (f := f) (s := s) HLEN.out HNN.out HO.out)
        obtain ⟨sm, hsm⟩ : ∃ u, hsF f s (pt l) N = u := ⟨_, rfl⟩
        obtain ⟨ofs, hofs⟩ : ∃ u, atF zF s N = u := ⟨_, rfl⟩
        rw [hsm] at hub HTK HEQ
        rw [hofs] at hob HEQ
        rw [hsm, hofs]
        clear hsm hofs
        have hrb := Lib.hid (hrF_lt Hf.out HSL.out hob.out (l.drop o))
        obtain ⟨rs, hrs⟩ : ∃ u, hrF f s ofs (l.drop o) = u := ⟨_, rfl⟩
        have HRS := Lib.hid hrs
        rw [hrs] at hrb HEQ
        obtain ⟨tk, htk⟩ : ∃ u, haF f s (l.take o) = u := ⟨_, rfl⟩
        have HTD := Lib.hid htk
        rw [htk] at HTK
        obtain ⟨al, hal⟩ : ∃ u, haF f s l = u := ⟨_, rfl⟩
        have HAL := Lib.hid hal
        rw [hal] at HEQ
        clear hrs htk hal
        obtain ⟨v6, hv6⟩ : ∃ V : World, V = x5.alloc (.cells (arL 16 fun _ => 0).toArray 22) := ⟨_, rfl⟩
        have hsv6 : v6.heap.size = x5.heap.size + 1 := by rw [hv6]; simp
        have hq : Below x5.heap.size x5 v6 := by rw [hv6]; exact (Below.refl _ _).alloc (Nat.le_refl _) _
        have hfv6 := (hfx5).to (by omega) hq
        have hCv6 := (hCx5).to hq
        have hTv6 := (hTx5).to hq
        have hBv6 := hBx5.trans (hq.mono hBx5.size)
        have huv6 : Ar v6 x5.heap.size 16 (fun _ => 0) := by rw [hv6]; exact Ar.new x5 16 _ _
        have hlgfgu : gf < x5.heap.size := hfx5.lt (by omega)
        have hlgCgu : gC < x5.heap.size := hCx5.lt
        have hlgTgu : gT < x5.heap.size := hTx5.lt
        have hlwgu : w.heap.size ≤ x5.heap.size := hBx5.size
        clear hq hfx5 hCx5 hTx5 hBx5
        obtain ⟨v7, hv7⟩ : ∃ V : World, V = v6.alloc (.cells (arL 16 fun _ => 0).toArray 22) := ⟨_, rfl⟩
        have hq : Below v6.heap.size v6 v7 := by rw [hv7]; exact (Below.refl _ _).alloc (Nat.le_refl _) _
        have hfv7 := (hfv6).to (by omega) hq
        have hCv7 := (hCv6).to hq
        have hTv7 := (hTv6).to hq
        have huv7 := huv6.to (by omega) hq
        have hBv7 := hBv6.trans (hq.mono hBv6.size)
        have hvv7 : Ar v7 (x5.heap.size + 1) 16 (fun _ => 0) := by rw [hv7, ← hsv6]; exact Ar.new v6 16 _ _
        clear hq hsv6 hfv6 hCv6 hTv6 huv6 hBv6
        go_upto_region 10 with (first | (refine wpList_store_ar rfl _ _ _ rfl _ _ _ (sm) rfl rfl (by rw [← hv6, ← hv7]; exact huv7) (size16b _) ?_; intro x8 hux8 bel8 siz8 kee8) | (refine wpList_store_ar rfl _ _ _ rfl _ _ _ (ofs) rfl rfl (kee8 _ _ _ (by omega) (by rw [← hv6, ← hv7]; exact hvv7)) (size16b _) ?_; intro x9 hvx9 bel9 siz9 kee9) | fail)
        rw [← hv6, ← hv7] at bel8
        obtain ⟨gu, hgu⟩ : ∃ g : Nat, x5.heap.size = g := ⟨_, rfl⟩
        obtain ⟨gv, hgv⟩ : ∃ g : Nat, x5.heap.size + 1 = g := ⟨_, rfl⟩
        have hlgugv : gu < gv := by omega
        try rw [hgv]
        try rw [hgu]
        rw [hgu] at hux8 bel8 hlwgu hlgfgu hlgCgu hlgTgu
        rw [hgv] at hvx9 bel9
        have hux9 := hux8.keep hlgugv bel9
        have hfx9 := (hfv7.keep hlgfgu bel8).keep (Nat.lt_trans hlgfgu hlgugv) bel9
        have hCx9 := (hCv7.keep hlgCgu bel8).keep (Nat.lt_trans hlgCgu hlgugv) bel9
        have hTx9 := (hTv7.keep hlgTgu bel8).keep (Nat.lt_trans hlgTgu hlgugv) bel9
        have hBx9 := (hBv7.trans (bel8.mono hlwgu)).trans (bel9.mono (Nat.le_trans hlwgu (Nat.le_of_lt hlgugv)))
        clear hux8 bel8 bel9 hfv7 hCv7 hTv7 huv7 hvv7 hBv7 siz8 siz9 kee8 kee9 hv6 hv7 hgu hgv
        try dsimp only [Act.put]
        obtain ⟨j1, j2, j3, j4⟩ := HFB2.out
        have hslc := HSLI.out
        go_upto_region 11 with fail
        clear j1 j2 j3 j4 hslc
        go_wp2_with (refine wpList_load_ar rfl _ _ rfl _ _ _ rfl hfx9 Tryd.arr16b (size16b _) ?_)
        refine (refprepare f _ Hf.out).mono ?_
        rintro e x10 ⟨rfl, hq⟩
        have hfx10 := (hfx9).to (by omega) hq
        have hCx10 := (hCx9).to hq
        have hTx10 := (hTx9).to hq
        have hux10 := (hux9).to (by omega) hq
        have hvx10 := (hvx9).to (by omega) hq
        have hBx10 := hBx9.trans (hq.mono hBx9.size)
        clear hq hfx9 hCx9 hTx9 hux9 hvx9 hBx9
        obtain ⟨gk, hgk⟩ : ∃ g : Nat, x10.heap.size = g := ⟨_, rfl⟩
        have hlgfgk : gf < gk := by rw [← hgk]; exact hfx10.lt (by omega)
        have hlgCgk : gC < gk := by rw [← hgk]; exact hCx10.lt
        have hlgTgk : gT < gk := by rw [← hgk]; exact hTx10.lt
        have hlgugk : gu < gk := by rw [← hgk]; exact hux10.lt (by omega)
        have hlgvgk : gv < gk := by rw [← hgk]; exact hvx10.lt (by omega)
        have hlwgk : w.heap.size ≤ gk := by rw [← hgk]; exact hBx10.size
        have hq : Below x10.heap.size x10 (x10.alloc (.cells (arL 432 fun _ => 0).toArray 34)) := (Below.refl _ _).alloc (Nat.le_refl _) _
        have hfx11a := (hfx10).to (by omega) hq
        have hCx11a := (hCx10).to hq
        have hTx11a := (hTx10).to hq
        have hux11a := (hux10).to (by omega) hq
        have hvx11a := (hvx10).to (by omega) hq
        have hkx11a := Ar.new x10 432 (fun _ => 0) 34
        have hBx11a := hBx10.alloc hBx10.size (.cells (arL 432 fun _ => 0).toArray 34)
        rw [hgk] at hkx11a
        clear hq hfx10 hCx10 hTx10 hux10 hvx10 hBx10
        go_upto_region 12 with (first | (refine wpList_store_ar rfl _ _ _ rfl _ _ _ (pkF (ek f) sb) rfl rfl hkx11a (sizeK _) ?_; intro x11 hkx11 belx11 sizx11 keex11) | fail)
        have hfx11 := (hfx11a).keep hlgfgk belx11
        have hCx11 := (hCx11a).keep hlgCgk belx11
        have hTx11 := (hTx11a).keep hlgTgk belx11
        have hux11 := (hux11a).keep hlgugk belx11
        have hvx11 := (hvx11a).keep hlgvgk belx11
        have hBx11 := hBx11a.trans (belx11.mono hlwgk)
        clear hfx11a hCx11a hTx11a hux11a hvx11a hkx11a hBx11a belx11 sizx11 keex11 hgk
        try dsimp only [Act.put]
        have heq := fun X => eq16_true (f := X) (g := X) (fun _ _ => rfl)
        have hgd := Tryd.eqg16
        have h8 := eq16_true HTK.out
        refine wp_region_held_drew (S := fun W => Ar W gu 16 (sm) ∧ Ar W gv 16 (ofs) ∧ Ar W gk 432 (pkF (ek f) sb) ∧ Ci W gC (f) ∧ Ti W gT (some ⟨gC, 0, none⟩) (s) ∧ Below w.heap.size w W) (by kernel_rfl) ⟨hux11.drew, hvx11.drew, hkx11.drew, hCx11.drew, hTx11.drew, hBx11.drew⟩ (fun hHeld => ?_)
        clear hux11 hvx11 hkx11 hCx11 hTx11 hfx11 hBx11 
        generalize World.drew x11 = qd at *
        refine wpAnyH_take (i := 0) (v := .agg (arL 16 (sm)).toArray) rfl (by kernel_rfl) (by kernel_rfl) (by kernel_rfl) (fun _ _ _ h => h) (yieldsIf_load_mid (by rfl) _ _ rfl gu (0) rfl (arL 16 (sm)) _ (fun W hSw => hSw.1.range) Tryd.arr16b rfl (size16b _)) (by assumption) ?_
        simp only [Act.put, List.setIfInBounds_toArray, List.set_cons_zero, List.set_cons_succ, List.getElem_toArray, List.getElem_cons_zero]
        refine wpAnyH_take (i := 1) (v := .agg (arL 432 (pkF (ek f) sb)).toArray) rfl (by kernel_rfl) (by kernel_rfl) (by kernel_rfl) (fun _ _ _ h => h) (yieldsIf_load_mid (by rfl) _ _ rfl gk (0) rfl (arL 432 (pkF (ek f) sb)) _ (fun W hSw => hSw.2.2.1.range) HS.out HW.out (sizeK _)) (by assumption) ?_
        simp only [Act.put, List.setIfInBounds_toArray, List.set_cons_zero, List.set_cons_succ, List.getElem_toArray, List.getElem_cons_zero, List.getElem_cons_succ]
        refine wpAnyH_take (i := 2) (v := ?vq1) rfl (by kernel_rfl) (by kernel_rfl) (by kernel_rfl) (fun _ _ _ h => h) (Or.inl ⟨by rfl, ?hyq1⟩) (by assumption) ?restq1
        case hyq1 =>
          intro W hSw
          go_simp
          try with_reducible rfl
        simp only [Act.put, List.setIfInBounds_toArray, List.set_cons_zero, List.set_cons_succ, List.getElem_toArray, List.getElem_cons_zero, List.getElem_cons_succ]
        refine wpAnyH_take (i := 3) (v := ?vq2) rfl (by kernel_rfl) (by kernel_rfl) (by kernel_rfl) (fun _ _ _ h => h) (Or.inl ⟨by rfl, ?hyq2⟩) (by assumption) ?restq2
        case hyq2 =>
          intro W hSw
          go_simp
          try with_reducible rfl
        simp only [Act.put, List.setIfInBounds_toArray, List.set_cons_zero, List.set_cons_succ, List.getElem_toArray, List.getElem_cons_zero, List.getElem_cons_succ]
        refine wpAnyH_take (i := 4) (v := ?vq3) rfl (by kernel_rfl) (by kernel_rfl) (by kernel_rfl) (fun _ _ _ h => h) (Or.inl ⟨by rfl, ?hyq3⟩) (by assumption) ?restq3
        case hyq3 =>
          intro W hSw
          go_simp
          try with_reducible rfl
        simp only [Act.put, List.setIfInBounds_toArray, List.set_cons_zero, List.set_cons_succ, List.getElem_toArray, List.getElem_cons_zero, List.getElem_cons_succ]
        refine wpAnyH_take (i := 5) (v := ?vq4) rfl (by kernel_rfl) (by kernel_rfl) (by kernel_rfl) (fun _ _ _ h => h) (Or.inl ⟨by rfl, ?hyq4⟩) (by assumption) ?restq4
        case hyq4 =>
          intro W hSw
          obtain ⟨j1, j2, j3, j4⟩ := HFB2.out
          go_simp
          try with_reducible rfl
        simp only [Act.put, List.setIfInBounds_toArray, List.set_cons_zero, List.set_cons_succ, List.getElem_toArray, List.getElem_cons_zero, List.getElem_cons_succ]
        refine wpAnyH_take (i := 6) (v := ?vq5) rfl (by kernel_rfl) (by kernel_rfl) (by kernel_rfl) (fun _ _ _ h => h) (Or.inl ⟨by rfl, ?hyq5⟩) (by assumption) ?restq5
        case hyq5 =>
          intro W hSw
          have hslc := HSLT.out
          go_simp
          try with_reducible rfl
        simp only [Act.put, List.setIfInBounds_toArray, List.set_cons_zero, List.set_cons_succ, List.getElem_toArray, List.getElem_cons_zero, List.getElem_cons_succ]
        refine wpAnyH_ready (rs := [7]) (by kernel_rfl) (by simp) ?_
        refine AllReadyH.cons rfl (fun K hK => ?_) AllReadyH.nil
        go_simp
        refine (rsum f s A o c (l.take o) _ Hf.out HS0.out ((((HSS.out.below (hHeld.2.2.2.2.2)).more (hHeld.2.2.2.2.2).size)).take HON.out) (Nat.le_trans HON.out HNC.out) (Nat.le_trans HON.out hn6.out)).mono ?_
        rintro e q6 ⟨rfl, hq⟩
        rw [HTD.out]
        go_wp2_with fail
        refine hK.out _ _ ⟨(hHeld.1).to (by omega) hq, (hHeld.2.1).to (by omega) hq, (hHeld.2.2.1).to (by omega) hq, (hHeld.2.2.2.1).to hq, (hHeld.2.2.2.2.1).to hq, (hHeld.2.2.2.2.2).trans (hq.mono (hHeld.2.2.2.2.2).size)⟩ (fun hHeld2 => ?_)
        clear hK K hHeld hq
        have hHeld := hHeld2
        clear hHeld2
        try simp only [Act.put, List.setIfInBounds_toArray, List.set_cons_zero, List.set_cons_succ, List.getElem_toArray, List.getElem_cons_zero, List.getElem_cons_succ]
        refine wpAnyH_take (i := 8) (v := ?vq7) rfl (by kernel_rfl) (by kernel_rfl) (by kernel_rfl) (fun _ _ _ h => h) (Or.inl ⟨by rfl, ?hyq7⟩) (by assumption) ?restq7
        case hyq7 =>
          intro W hSw
          go_simp
          try with_reducible rfl
        simp only [Act.put, List.setIfInBounds_toArray, List.set_cons_zero, List.set_cons_succ, List.getElem_toArray, List.getElem_cons_zero, List.getElem_cons_succ]
        refine wpAnyH_take (i := 9) (v := ?vq8) rfl (by kernel_rfl) (by kernel_rfl) (by kernel_rfl) (fun _ _ _ h => h) (Or.inl ⟨by rfl, ?hyq8⟩) (by assumption) ?restq8
        case hyq8 =>
          intro W hSw
          go_simp
          try with_reducible rfl
        simp only [Act.put, List.setIfInBounds_toArray, List.set_cons_zero, List.set_cons_succ, List.getElem_toArray, List.getElem_cons_zero, List.getElem_cons_succ]
        refine wpAnyH_take (i := 10) (v := .agg (arL 16 (sm)).toArray) rfl (by kernel_rfl) (by kernel_rfl) (by kernel_rfl) (fun _ _ _ h => h) (yieldsIf_load_mid (by rfl) _ _ rfl gu (0) rfl (arL 16 (sm)) _ (fun W hSw => hSw.1.range) Tryd.arr16b rfl (size16b _)) (by assumption) ?_
        simp only [Act.put, List.setIfInBounds_toArray, List.set_cons_zero, List.set_cons_succ, List.getElem_toArray, List.getElem_cons_zero, List.getElem_cons_succ]
        refine wpAnyH_take (i := 11) (v := ?vq9) rfl (by kernel_rfl) (by kernel_rfl) (by kernel_rfl) (fun _ _ _ h => h) (Or.inl ⟨by rfl, ?hyq9⟩) (by assumption) ?restq9
        case hyq9 =>
          intro W hSw
          go_simp
          try with_reducible rfl
        simp only [Act.put, List.setIfInBounds_toArray, List.set_cons_zero, List.set_cons_succ, List.getElem_toArray, List.getElem_cons_zero, List.getElem_cons_succ]
        refine wpAnyH_take (i := 12) (v := .agg (arL 16 (ofs)).toArray) rfl (by kernel_rfl) (by kernel_rfl) (by kernel_rfl) (fun _ _ _ h => h) (yieldsIf_load_mid (by rfl) _ _ rfl gv (0) rfl (arL 16 (ofs)) _ (fun W hSw => hSw.2.1.range) Tryd.arr16b rfl (size16b _)) (by assumption) ?_
        simp only [Act.put, List.setIfInBounds_toArray, List.set_cons_zero, List.set_cons_succ, List.getElem_toArray, List.getElem_cons_zero, List.getElem_cons_succ]
        refine wpAnyH_take (i := 13) (v := ?vq10) rfl (by kernel_rfl) (by kernel_rfl) (by kernel_rfl) (fun _ _ _ h => h) (Or.inl ⟨by rfl, ?hyq10⟩) (by assumption) ?restq10
        case hyq10 =>
          intro W hSw
          go_simp
          try with_reducible rfl
        simp only [Act.put, List.setIfInBounds_toArray, List.set_cons_zero, List.set_cons_succ, List.getElem_toArray, List.getElem_cons_zero, List.getElem_cons_succ]
        refine wpAnyH_take (i := 16) (v := .agg (arL 432 (pkF (ek f) sb)).toArray) rfl (by kernel_rfl) (by kernel_rfl) (by kernel_rfl) (fun _ _ _ h => h) (yieldsIf_load_mid (by rfl) _ _ rfl gk (0) rfl (arL 432 (pkF (ek f) sb)) _ (fun W hSw => hSw.2.2.1.range) HS.out HW.out (sizeK _)) (by assumption) ?_
        simp only [Act.put, List.setIfInBounds_toArray, List.set_cons_zero, List.set_cons_succ, List.getElem_toArray, List.getElem_cons_zero, List.getElem_cons_succ]
        refine wpAnyH_take (i := 17) (v := ?vq11) rfl (by kernel_rfl) (by kernel_rfl) (by kernel_rfl) (fun _ _ _ h => h) (Or.inl ⟨by rfl, ?hyq11⟩) (by assumption) ?restq11
        case hyq11 =>
          intro W hSw
          go_simp
          try with_reducible rfl
        simp only [Act.put, List.setIfInBounds_toArray, List.set_cons_zero, List.set_cons_succ, List.getElem_toArray, List.getElem_cons_zero, List.getElem_cons_succ]
        refine wpAnyH_ready (rs := [14]) (by kernel_rfl) (by simp) ?_
        refine AllReadyH.cons rfl (fun K hK => ?_) AllReadyH.nil
        go_simp
        refine (hrest (.pointer (some ⟨gT, 0, none⟩)) f ofs A9 (n - o) (c - o) (l.drop o) _ Hf.out hob.out (HSL2.out _ _ _ ((HSS.out.below (hHeld.2.2.2.2.2)).more (hHeld.2.2.2.2.2).size)) (wtab gT gC f s _ HS0.out (hHeld.2.2.2.2.1) (hHeld.2.2.2.1)) (HX.out.keep (hHeld.2.2.2.2.2))).mono ?_
        rintro e q12 ⟨rfl, hq⟩
        rw [HS0.out, HRS.out]
        go_wp2_with fail
        refine hK.out _ _ ⟨(hHeld.1).to (by omega) hq, (hHeld.2.1).to (by omega) hq, (hHeld.2.2.1).to (by omega) hq, (hHeld.2.2.2.1).to hq, (hHeld.2.2.2.2.1).to hq, (hHeld.2.2.2.2.2).trans (hq.mono (hHeld.2.2.2.2.2).size)⟩ (fun hHeld2 => ?_)
        clear hK K hHeld hq
        have hHeld := hHeld2
        clear hHeld2
        try simp only [Act.put, List.setIfInBounds_toArray, List.set_cons_zero, List.set_cons_succ, List.getElem_toArray, List.getElem_cons_zero, List.getElem_cons_succ]
        refine wpAnyH_ready (rs := [15]) (by kernel_rfl) (by simp) ?_
        refine AllReadyH.cons rfl (fun K hK => ?_) AllReadyH.nil
        go_simp
        refine (refxor8 sm rs _ hub.out hrb.out).mono ?_
        rintro e q13 ⟨rfl, hq⟩
        rw [HEQ.out]
        go_wp2_with fail
        refine hK.out _ _ ⟨(hHeld.1).to (by omega) hq, (hHeld.2.1).to (by omega) hq, (hHeld.2.2.1).to (by omega) hq, (hHeld.2.2.2.1).to hq, (hHeld.2.2.2.2.1).to hq, (hHeld.2.2.2.2.2).trans (hq.mono (hHeld.2.2.2.2.2).size)⟩ (fun hHeld2 => ?_)
        clear hK K hHeld hq
        have hHeld := hHeld2
        clear hHeld2
        try simp only [Act.put, List.setIfInBounds_toArray, List.set_cons_zero, List.set_cons_succ, List.getElem_toArray, List.getElem_cons_zero, List.getElem_cons_succ]
        refine wpAnyH_ready (rs := [18]) (by kernel_rfl) (by simp) ?_
        refine AllReadyH.cons rfl (fun K hK => ?_) AllReadyH.nil
        go_simp
        refine (rsum f s A n c l _ Hf.out HS0.out ((HSS.out.below (hHeld.2.2.2.2.2)).more (hHeld.2.2.2.2.2).size) HNC.out hn6.out).mono ?_
        rintro e q14 ⟨rfl, hq⟩
        rw [HAL.out]
        go_wp2_with fail
        refine hK.out _ _ ⟨(hHeld.1).to (by omega) hq, (hHeld.2.1).to (by omega) hq, (hHeld.2.2.1).to (by omega) hq, (hHeld.2.2.2.1).to hq, (hHeld.2.2.2.2.1).to hq, (hHeld.2.2.2.2.2).trans (hq.mono (hHeld.2.2.2.2.2).size)⟩ (fun hHeld2 => ?_)
        clear hK K hHeld hq
        have hHeld := hHeld2
        clear hHeld2
        try simp only [Act.put, List.setIfInBounds_toArray, List.set_cons_zero, List.set_cons_succ, List.getElem_toArray, List.getElem_cons_zero, List.getElem_cons_succ]
        refine wpAnyH_take (i := 19) (v := ?vq15) rfl (by kernel_rfl) (by kernel_rfl) (by kernel_rfl) (fun _ _ _ h => h) (Or.inl ⟨by rfl, ?hyq15⟩) (by assumption) ?restq15
        case hyq15 =>
          intro W hSw
          go_simp
          try with_reducible rfl
        simp only [Act.put, List.setIfInBounds_toArray, List.set_cons_zero, List.set_cons_succ, List.getElem_toArray, List.getElem_cons_zero, List.getElem_cons_succ]
        refine wpAnyH_take (i := 20) (v := ?vq16) rfl (by kernel_rfl) (by kernel_rfl) (by kernel_rfl) (fun _ _ _ h => h) (Or.inl ⟨by rfl, ?hyq16⟩) (by assumption) ?restq16
        case hyq16 =>
          intro W hSw
          go_simp
          try with_reducible rfl
        simp only [Act.put, List.setIfInBounds_toArray, List.set_cons_zero, List.set_cons_succ, List.getElem_toArray, List.getElem_cons_zero, List.getElem_cons_succ]
        refine wpAnyH_take (i := 21) (v := ?vq17) rfl (by kernel_rfl) (by kernel_rfl) (by kernel_rfl) (fun _ _ _ h => h) (Or.inl ⟨by rfl, ?hyq17⟩) (by assumption) ?restq17
        case hyq17 =>
          intro W hSw
          go_simp
          try with_reducible rfl
        simp only [Act.put, List.setIfInBounds_toArray, List.set_cons_zero, List.set_cons_succ, List.getElem_toArray, List.getElem_cons_zero, List.getElem_cons_succ]
        refine wpAnyH_done (by kernel_rfl) ?_ _
        have hBe := hHeld.2.2.2.2.2
        clear hHeld
        go_wp2_with fail
        go_ret
        exact ⟨rfl, hBe⟩
end Go.Proofs.YtflbpohcoghonaaDoor
