/-
  The walk of the law EchoOnce of layer 20: for any stamp, tick and ticks of holding it returns true, and writes nothing that was there.
-/
import Derived.Test.YtmfmcbghofcafaaEcc
namespace Go.Proofs.Ytmfmcbghofcafaa
open Go.RowKit
set_option linter.unusedVariables false
set_option linter.unusedSimpArgs false
set_option maxRecDepth 100000

set_option maxHeartbeats 1600000 in
theorem konce (s t h : Nat) (w : World) (hs : s < 65536) (ht : t < 18446744073709551616) (hh : h < 65536) :
    Calls Try.prog 4 #[.int .u16 (s : Int), .int .u64 (t : Int), .int .u16 (h : Int)] w fun e w' => e = .returned (.bool true) ∧ Below w.heap.size w w' := by
  by_cases h2 : t > 4611686018427387904
  · have i1 : (t : Int) > 4611686018427387904 := by omega
    clear h2 hs ht hh
    have hBw : Below w.heap.size w w := Below.refl _ _
    go_enter Try.func4, Try.ntmps4
    go_wp2_with fail
    refine (kawake _).mono ?_
    rintro e x1 ⟨rfl, hq⟩
    have hBx1 := hBw.trans (hq.mono hBw.size)
    clear hq hBw 
    go_wp2_with fail
    refine (kawake _).mono ?_
    rintro e x2 ⟨rfl, hq⟩
    have hBx2 := hBx1.trans (hq.mono hBx1.size)
    clear hq hBx1 
    go_wp2_with fail
    go_ret
    exact ⟨rfl, hBx2⟩
  have i1 : ¬ (t : Int) > 4611686018427387904 := by omega
  have i2 : decide ((t : Int) > 4611686018427387904) = false := decide_eq_false i1
  have HS := Lib.hid hs
  have HT := Lib.hid ht
  obtain ⟨x, hx⟩ : ∃ x, t + h = x := ⟨_, rfl⟩
  have i3 : IntKind.u64.wrap ((t : Int) + (h : Int)) = (x : Int) := by rw [IntKind.wrap_u64]; omega
  have HX := Lib.hid (show x < 18446744073709551616 by omega)
  obtain ⟨A, hA⟩ : ∃ A, rpE s t true x = A := ⟨_, rfl⟩
  have hA2 : A < 65536 := by rw [← hA]; exact rpE_lt _ _ _ _
  have HA := Lib.hid hA
  clear h2 hx hA
  have hBw : Below w.heap.size w w := Below.refl _ _
  go_enter Try.func4, Try.ntmps4
  go_wp2_with fail
  refine (kawake _).mono ?_
  rintro e x3 ⟨rfl, hq⟩
  have hBx3 := hBw.trans (hq.mono hBw.size)
  clear hq hBw 
  go_wp2_with fail
  refine (enew _).mono ?_
  rintro e x4 ⟨g, rfl, hl, hegx4, hq⟩
  have hBx4 := hBx3.trans (hq.mono hBx3.size)
  have hlg : w.heap.size ≤ g := Nat.le_trans hBx3.size hl
  clear hl
  clear hq hBx3 
  go_wp2_with fail
  refine (etake g _ _ _ _ s t _ hegx4 HS.out HT.out).mono ?_
  rintro e x5 ⟨q, rfl, hl, hegx5, hq⟩
  have hBx5 := hBx4.trans (hq.on hBx4.size (by omega))
  have hlq : w.heap.size ≤ q := Nat.le_trans hBx4.size hl
  clear hl
  clear hq hBx4 hegx4
  go_wp2_with fail
  refine (ereply g _ _ _ _ x _ hegx5 HX.out).mono ?_
  rintro e x6 ⟨rfl, hegx6, hq⟩
  have hBx6 := hBx5.trans (hq.on hBx5.size (by omega))
  clear hq hBx5 hegx5
  rw [show rpE s t true x = A from HA.out]
  go_wp2_with fail
  refine (ereply g _ _ _ _ x _ hegx6 HX.out).mono ?_
  rintro e x7 ⟨rfl, hegx7, hq⟩
  have hBx7 := hBx6.trans (hq.on hBx6.size (by omega))
  clear hq hBx6 hegx6
  rw [show rpE s t false x = 65535 from rfl]
  obtain ⟨x8, hy⟩ : ∃ V : World, V = x7.alloc (.cells #[.pointer none] 41) := ⟨_, rfl⟩
  have hq : Below x7.heap.size x7 x8 := by rw [hy]; exact (Below.refl _ _).alloc (Nat.le_refl _) _
  have hegzx8 : Ek x8 x7.heap.size 0 0 0 false := by rw [hy]; exact ⟨Cx.new x7 1 (ekF 0 false) _, fun h => (by cases h), by decide⟩
  have hBx8 := hBx7.trans (hq.mono hBx7.size)
  have hlgz : w.heap.size ≤ x7.heap.size := hBx7.size
  clear hq hBx7 hegx7
  go_wp2_with fail
  rw [← hy]
  clear hy
  obtain ⟨gz, hgz⟩ : ∃ gz : Nat, x7.heap.size = gz := ⟨_, rfl⟩
  rw [hgz] at hegzx8 hlgz 
  try simp only [hgz]
  clear hgz
  go_wp2_with fail
  refine (etake_nil s t _).mono ?_
  rintro e w9 ⟨rfl, hv9⟩
  rw [hv9]
  clear hv9 w9
  go_wp2_with fail
  refine (eheld_nil t _).mono ?_
  rintro e w9 ⟨rfl, hv9⟩
  rw [hv9]
  clear hv9 w9
  go_wp2_with fail
  refine (rreply true s t x _ HX.out HS.out).mono ?_
  rintro e x9 ⟨rfl, hq⟩
  have hegzx9 := (hegzx8).to hq
  have hBx9 := hBx8.trans (hq.mono hBx8.size)
  clear hq hBx8 hegzx8
  rw [show rpE s t true x = A from HA.out]
  go_wp2_with fail
  refine (ereply gz _ _ _ _ t _ hegzx9 HT.out).mono ?_
  rintro e x10 ⟨rfl, hegzx10, hq⟩
  have hBx10 := hBx9.trans (hq.on hBx9.size (by omega))
  clear hq hBx9 hegzx9
  rw [show rpE 0 0 false t = 65535 from rfl]
  go_wp2_with fail
  refine (ereply_nil t _).mono ?_
  rintro e w9 ⟨rfl, hv9⟩
  rw [hv9]
  clear hv9 w9
  go_wp2_with fail
  go_ret
  exact ⟨rfl, hBx10⟩
end Go.Proofs.Ytmfmcbghofcafaa
