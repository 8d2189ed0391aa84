/-
  The walk of the law TableNil of layer 9: for any two numbers it returns true, and writes nothing that was there.
-/
import Derived.Test.YtjppalkoebojoaaDoorTbe
import Derived.Deep.RegionHeld3
namespace Go.Proofs.YtjppalkoebojoaaDoor
open Go.RowKit
set_option linter.unusedVariables false
set_option maxRecDepth 100000

set_option maxHeartbeats 8000000 in
theorem tnils (i : Int) (n : Nat) (w : World) (hi : -9223372036854775808 ≤ i ∧ i ≤ 9223372036854775807) (hn : n < 18446744073709551616) (hs : Boxes w) :
    Calls Tryd.prog 5 #[.int .i64 i, .int .u64 n] w fun e w' => e = .returned (.bool true) ∧ Below w.heap.size w w' := by
  have HX := Lib.hid hs
  have hz := zero16b
  have z0 := Lib.hid run_zero16
  have hBw : Below w.heap.size w w := Below.refl _ _
  clear  hs 
  go_enter Tryd.func5, Tryd.ntmps5
  go_wp2_with fail
  refine (tawake _ (HX.out.keep hBw)).mono ?_
  rintro e x1 ⟨rfl, hq⟩
  have hBx1 := hBw.trans (hq.mono hBw.size)
  clear hq  hBw
  obtain ⟨F, hF⟩ : ∃ F : Nat → Nat, enF zF zF = F := ⟨_, rfl⟩
  have HF := Lib.hid hF
  clear hF
  go_wp2_with (refine wpList_build_by rfl _ _ rfl [] rfl _ (z0.out _) ?_)
  refine (fnew zF _ zF_lt (HX.out.keep hBx1)).mono ?_
  rintro e x2 ⟨gC, rfl, hgC, hCx2, hq⟩
  have hBx2 := hBx1.trans (hq.mono hBx1.size)
  clear hq  hBx1
  go_wp2_with fail
  refine (tnew (some ⟨gC, 0, none⟩) zF _ zF_lt (exp_made gC zF _ hCx2) (HX.out.keep hBx2)).mono ?_
  rintro e x3 ⟨gT, rfl, hgT, hTx3, hq⟩
  rw [HF.out] at hTx3
  have hCx3 := (hCx2).to hq
  have hBx3 := hBx2.trans (hq.mono hBx2.size)
  clear hq hCx2 hBx2
  go_wp2_with fail
  refine (tnew none zF _ zF_lt (exp_nil _ (HX.out.keep hBx3)) (HX.out.keep hBx3)).mono ?_
  rintro e x4 ⟨gU, rfl, hgU, hUx4, hq⟩
  rw [HF.out] at hUx4
  have hCx4 := (hCx3).to hq
  have hTx4 := (hTx3).to hq
  have hBx4 := hBx3.trans (hq.mono hBx3.size)
  clear hq hCx3 hTx3 hBx3
  have heq := fun X => eq16_true (f := X) (g := X) (fun _ _ => rfl)
  have hgd := Tryd.eqg16
  have heqz := eq16_true (f := zF) (g := fun _ => 0) (fun _ _ => rfl)
  go_wp2_with fail
  refine (tstar _ _ F _ (HF.out ▸ tab_nil _ (HX.out.keep hBx4))).mono ?_
  rintro e x5 ⟨rfl, hq⟩
  have hCx5 := (hCx4).to hq
  have hTx5 := (hTx4).to hq
  have hUx5 := (hUx4).to hq
  have hBx5 := hBx4.trans (hq.mono hBx4.size)
  clear hq hCx4 hTx4 hUx4 hBx4
  go_wp2_with fail
  refine (tstar _ _ F _ (tab_made _ _ _ _ hTx5)).mono ?_
  rintro e x6 ⟨rfl, hq⟩
  have hCx6 := (hCx5).to hq
  have hTx6 := (hTx5).to hq
  have hUx6 := (hUx5).to hq
  have hBx6 := hBx5.trans (hq.mono hBx5.size)
  clear hq hCx5 hTx5 hUx5 hBx5
  go_wp2_with fail
  refine (tdollar _ _ F _ (HF.out ▸ tab_nil _ (HX.out.keep hBx6))).mono ?_
  rintro e x7 ⟨rfl, hq⟩
  have hCx7 := (hCx6).to hq
  have hTx7 := (hTx6).to hq
  have hUx7 := (hUx6).to hq
  have hBx7 := hBx6.trans (hq.mono hBx6.size)
  clear hq hCx6 hTx6 hUx6 hBx6
  go_wp2_with fail
  refine (tdollar _ _ F _ (tab_made _ _ _ _ hTx7)).mono ?_
  rintro e x8 ⟨rfl, hq⟩
  have hCx8 := (hCx7).to hq
  have hTx8 := (hTx7).to hq
  have hUx8 := (hUx7).to hq
  have hBx8 := hBx7.trans (hq.mono hBx7.size)
  clear hq hCx7 hTx7 hUx7 hBx7
  go_wp2_with fail
  refine (tat _ _ F i _ (HF.out ▸ tab_nil _ (HX.out.keep hBx8))).mono ?_
  rintro e x9 ⟨rfl, hq⟩
  have hCx9 := (hCx8).to hq
  have hTx9 := (hTx8).to hq
  have hUx9 := (hUx8).to hq
  have hBx9 := hBx8.trans (hq.mono hBx8.size)
  clear hq hCx8 hTx8 hUx8 hBx8
  go_wp2_with fail
  refine (tat _ _ F i _ (tab_made _ _ _ _ hTx9)).mono ?_
  rintro e x10 ⟨rfl, hq⟩
  have hCx10 := (hCx9).to hq
  have hTx10 := (hTx9).to hq
  have hUx10 := (hUx9).to hq
  have hBx10 := hBx9.trans (hq.mono hBx9.size)
  clear hq hCx9 hTx9 hUx9 hBx9
  go_wp2_with fail
  refine (tfor _ _ F n _ hn (HF.out ▸ tab_nil _ (HX.out.keep hBx10))).mono ?_
  rintro e x11 ⟨rfl, hq⟩
  have hCx11 := (hCx10).to hq
  have hTx11 := (hTx10).to hq
  have hUx11 := (hUx10).to hq
  have hBx11 := hBx10.trans (hq.mono hBx10.size)
  clear hq hCx10 hTx10 hUx10 hBx10
  go_wp2_with fail
  refine (tfor _ _ F n _ hn (tab_made _ _ _ _ hTx11)).mono ?_
  rintro e x12 ⟨rfl, hq⟩
  have hCx12 := (hCx11).to hq
  have hTx12 := (hTx11).to hq
  have hUx12 := (hUx11).to hq
  have hBx12 := hBx11.trans (hq.mono hBx11.size)
  clear hq hCx11 hTx11 hUx11 hBx11
  go_wp2_with fail
  refine (tstar _ _ F _ (tab_made _ _ _ _ hUx12)).mono ?_
  rintro e x13 ⟨rfl, hq⟩
  have hCx13 := (hCx12).to hq
  have hTx13 := (hTx12).to hq
  have hUx13 := (hUx12).to hq
  have hBx13 := hBx12.trans (hq.mono hBx12.size)
  clear hq hCx12 hTx12 hUx12 hBx12
  go_wp2_with fail
  refine (tstar _ _ F _ (tab_made _ _ _ _ hTx13)).mono ?_
  rintro e x14 ⟨rfl, hq⟩
  have hCx14 := (hCx13).to hq
  have hTx14 := (hTx13).to hq
  have hUx14 := (hUx13).to hq
  have hBx14 := hBx13.trans (hq.mono hBx13.size)
  clear hq hCx13 hTx13 hUx13 hBx13
  go_wp2_with fail
  refine (tcip_nil _).mono ?_
  rintro e x15 ⟨rfl, hq⟩
  have hCx15 := (hCx14).to hq
  have hTx15 := (hTx14).to hq
  have hUx15 := (hUx14).to hq
  have hBx15 := hBx14.trans (hq.mono hBx14.size)
  clear hq hCx14 hTx14 hUx14 hBx14
  go_wp2_with fail
  refine (fkey_nil _).mono ?_
  rintro e x16 ⟨rfl, hq⟩
  have hCx16 := (hCx15).to hq
  have hTx16 := (hTx15).to hq
  have hUx16 := (hUx15).to hq
  have hBx16 := hBx15.trans (hq.mono hBx15.size)
  clear hq hCx15 hTx15 hUx15 hBx15
  go_wp2_with (refine wpList_build_byW rfl _ _ rfl [] rfl _ (z0.out _) ?_)
  go_ret
  exact ⟨rfl, hBx16⟩
end Go.Proofs.YtjppalkoebojoaaDoor
