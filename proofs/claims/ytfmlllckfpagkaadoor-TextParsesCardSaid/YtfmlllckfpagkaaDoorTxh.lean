/-
  The walk of the law TextParses of layer 14: for every string it returns true, and writes nothing that was there.
-/
import Derived.Test.YtfmlllckfpagkaaDoorTxf
import Derived.Test.YtfmlllckfpagkaaDoorArg
import Derived.Deep.RegionHeld3
namespace Go.Proofs.YtfmlllckfpagkaaDoor
open Go.RowKit
set_option linter.unusedVariables false
set_option maxRecDepth 100000
set_option linter.unusedSimpArgs false

set_option maxHeartbeats 4000000 in
theorem tparses14 (S : ByteArray) (l : List UInt8) (w : World) (hS : stB l = S) (hs : TxG w) :
    Calls Tryd.prog 4 #[.string S] w fun e w' => e = .returned (.bool true) ∧ Below w.heap.size w w' := by
  have HX := Lib.hid hs
  have hz := zero16x
  have z0 := run_zero16t
  have HS := Lib.hid hS
  have hsz : S.size = l.length := by rw [← hS]; exact stB_size l
  obtain ⟨n, hn⟩ : ∃ n, l.length = n := ⟨_, rfl⟩
  rw [hn] at hsz
  have HN := Lib.hid hn
  clear hS hn
  have hBw : Below w.heap.size w w := Below.refl _ _
  clear  hs 
  go_enter Tryd.func4, Tryd.ntmps4
  go_wp2_with fail
  refine (tawake _ (HX.out.keep hBw)).mono ?_
  rintro e x1 ⟨rfl, hq⟩
  have hBx1 := hBw.trans (hq.mono hBw.size)
  clear hq  hBw
  by_cases h300 : 300 < n
  · have i1 : (300 : Int) < (n : Int) := by omega
    go_wp2_with fail
    refine (tawake _ (HX.out.keep hBx1)).mono ?_
    rintro e x2 ⟨rfl, hq⟩
    have hBx2 := hBx1.trans (hq.mono hBx1.size)
    clear hq  hBx1
    go_wp2_with fail
    go_ret
    exact ⟨rfl, hBx2⟩
  · have i1 : ¬ (300 : Int) < (n : Int) := by omega
    have HLN := Lib.hid (show l.length ≤ 1000000 by rw [HN.out]; omega)
    go_wp2_with fail
    refine (tparse_at S l HS.out _ HLN.out (HX.out.keep hBx1)).mono ?_
    rintro e x3 ⟨rfl, hq⟩
    have hBx3 := hBx1.trans (hq.mono hBx1.size)
    clear hq  hBx1
    clear i1 h300
    have HKB := Lib.hid (paK_lt l)
    have HTX := Lib.hid (fun h => tx_pa (s := l) h)
    obtain ⟨K, hK9⟩ : ∃ K, paK l = K := ⟨_, rfl⟩
    have HK9 := Lib.hid hK9
    obtain ⟨p, hp⟩ : ∃ p, paC l = p := ⟨_, rfl⟩
    have HP := Lib.hid hp
    rw [hK9] at HKB HTX
    rw [hp] at HTX
    rw [hK9, hp]
    clear hK9 hp
    obtain ⟨E, hE⟩ : ∃ E, fauV p = E := ⟨_, rfl⟩
    have HE := Lib.hid hE
    rw [hE]
    clear hE
    obtain ⟨gk, hgk⟩ : ∃ g : Nat, x3.heap.size = g := ⟨_, rfl⟩
    have hlwgk : w.heap.size ≤ gk := by rw [← hgk]; exact hBx3.size
    have hq : Below x3.heap.size x3 (x3.alloc (.cells (arL 16 fun _ => 0).toArray 22)) := (Below.refl _ _).alloc (Nat.le_refl _) _
    have hkx4a := Ar.new x3 16 (fun _ => 0) 22
    have hBx4a := hBx3.alloc hBx3.size (.cells (arL 16 fun _ => 0).toArray 22)
    rw [hgk] at hkx4a
    clear hq  hBx3
    go_upto_region 4 with (first | (refine wpList_store_ar rfl _ _ _ rfl _ _ _ (K) rfl rfl hkx4a (size16x _) ?_; intro x4 hkx4 belx4 sizx4 keex4) | fail)
    have hBx4 := hBx4a.trans (belx4.mono hlwgk)
    clear  hkx4a hBx4a belx4 sizx4 keex4 hgk
    try dsimp only [Act.put]
    go_wp2_with fail
    refine (rparse_at S l HS.out _ HLN.out).mono ?_
    rintro e x5 ⟨rfl, hq⟩
    rw [HK9.out, HP.out]
    have hkx5 := (hkx4).to (by omega) hq
    have hBx5 := hBx4.trans (hq.mono hBx4.size)
    clear hq hkx4 hBx4
    obtain ⟨gm, hgm⟩ : ∃ g : Nat, x5.heap.size = g := ⟨_, rfl⟩
    have hlgkgm : gk < gm := by rw [← hgm]; exact hkx5.lt (by omega)
    have hlwgm : w.heap.size ≤ gm := by rw [← hgm]; exact hBx5.size
    have hq : Below x5.heap.size x5 (x5.alloc (.cells (arL 16 fun _ => 0).toArray 22)) := (Below.refl _ _).alloc (Nat.le_refl _) _
    have hkx6a := (hkx5).to (by omega) hq
    have hmx6a := Ar.new x5 16 (fun _ => 0) 22
    have hBx6a := hBx5.alloc hBx5.size (.cells (arL 16 fun _ => 0).toArray 22)
    rw [hgm] at hmx6a
    clear hq hkx5 hBx5
    go_upto_region 5 with (first | (refine wpList_store_ar rfl _ _ _ rfl _ _ _ (K) rfl rfl hmx6a (size16x _) ?_; intro x6 hmx6 belx6 sizx6 keex6) | fail)
    have hkx6 := (hkx6a).keep hlgkgm belx6
    have hBx6 := hBx6a.trans (belx6.mono hlwgm)
    clear hkx6a hmx6a hBx6a belx6 sizx6 keex6 hgm
    try dsimp only [Act.put]
    have heq := eq16t_true (f := K) (g := K) (fun _ _ => rfl)
    have hgd := Tryd.eqg16t
    go_wp2_with (first | (refine wpList_load_ar rfl _ _ rfl _ _ _ rfl hkx6 Tryd.arr16x (size16x _) ?_) | (refine wpList_load_ar rfl _ _ rfl _ _ _ rfl hmx6 Tryd.arr16x (size16x _) ?_))
    refine ((HE.out ▸ told_pa p _ (HX.out.keep hBx6).err)).mono ?_
    rintro e x7 ⟨rfl, hq⟩
    have hkx7 := (hkx6).to (by omega) hq
    have hmx7 := (hmx6).to (by omega) hq
    have hBx7 := hBx6.trans (hq.mono hBx6.size)
    clear hq hkx6 hmx6 hBx6
    obtain ⟨p1, p2⟩ := p
    dsimp only at *
    by_cases h0 : p1 = 0
    · have HTX2 := Lib.hid (HTX.out h0)
      subst h0
      go_wp2_with (refine wpList_load_ar0W rfl _ _ rfl _ _ _ rfl hkx7 Tryd.arr16x (size16x _) ?_)
      refine (tprint K _ HKB.out (HX.out.keep hBx7)).mono ?_
      rintro e x8 ⟨rfl, hq⟩
      rw [HTX2.out, HS.out]
      have hkx8 := (hkx7).to (by omega) hq
      have hmx8 := (hmx7).to (by omega) hq
      have hBx8 := hBx7.trans (hq.mono hBx7.size)
      clear hq hkx7 hmx7 hBx7
      have hst := eqs_true (a := S) rfl
      go_wp2_with fail
      go_ret
      exact ⟨rfl, hBx8⟩
    · have hpn : ¬ (p1 : Int) = 0 := by omega
      go_wp2_with fail
      go_ret
      exact ⟨rfl, hBx7⟩
end Go.Proofs.YtfmlllckfpagkaaDoor
