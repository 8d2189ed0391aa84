/-
  Contracts of fast.sub, by a walk through its text; what was there stays as it was.
-/
import Derived.Test.YtblhfmlgpldaeaaDoorFad
import Derived.Test.YtblhfmlgpldaeaaDoorFab
import Derived.Test.YtblhfmlgpldaeaaDoorGsb
namespace Go.Proofs.YtblhfmlgpldaeaaDoor
open Go.RowKit
set_option linter.unusedVariables false
set_option maxRecDepth 100000

set_option maxHeartbeats 1600000 in
theorem fsubw (f : Nat → Nat) (w : World) (hf : B16 f) (h : Boxes w) :
    Calls Tryd.prog 51 #[.agg #[.int .u32 (wd f 0 : Nat), .int .u32 (wd f 1 : Nat), .int .u32 (wd f 2 : Nat), .int .u32 (wd f 3 : Nat)]] w fun e w' => e = .returned (.agg #[.int .u32 (wd (suF f) 0 : Nat), .int .u32 (wd (suF f) 1 : Nat), .int .u32 (wd (suF f) 2 : Nat), .int .u32 (wd (suF f) 3 : Nat)]) ∧ Below w.heap.size w w' := by
  obtain ⟨w1, hw1⟩ : ∃ w1 : World, w1 = w.alloc (.cells #[.int .u32 (wd f 0 : Nat), .int .u32 (wd f 1 : Nat), .int .u32 (wd f 2 : Nat), .int .u32 (wd f 3 : Nat)] 59) := ⟨_, rfl⟩
  have hs1 : w1.heap.size = w.heap.size + 1 := by rw [hw1]; simp
  have hb1 : Below w.heap.size w w1 := by rw [hw1]; exact (Below.refl _ _).alloc (Nat.le_refl _) _
  have hK1 : Aw w1 w.heap.size 4 (wd f) := by rw [hw1]; exact Aw.new w 4 (wd f) _
  obtain ⟨w2, hw2⟩ : ∃ w2 : World, w2 = w1.alloc (.cells #[.int .u32 0, .int .u32 0, .int .u32 0, .int .u32 0] 59) := ⟨_, rfl⟩
  have hb2 : Below w.heap.size w w2 := by rw [hw2]; exact hb1.alloc (by omega) _
  have hR2 : Aw w2 (w.heap.size + 1) 4 (fun _ => 0) := by rw [hw2, ← hs1]; exact Aw.new w1 4 (fun _ => 0) _
  have hK2 : Aw w2 w.heap.size 4 (wd f) := by rw [hw2]; exact hK1.alloc (by omega) _
  clear hb1 hK1
  have HX := Lib.hid h
  have hst := Lib.hid (fun i hi => sbw_wd f i hf hi)
  clear h
  have hl := Lib.hid (fun i hi => wd_lt f i hf hi)
  clear hf
  go_enter Tryd.func51, Tryd.ntmps51
  go_upto_region 1 with fail
  rw [← hw1, ← hw2]
  clear hw1 hw2 hs1
  go_wp2_with (refine wpList_load_aw rfl _ _ rfl _ _ _ rfl hK2 Tryd.arrCw (sizeCw _) ?_)
  rw [aw4]
  obtain ⟨kB, hkB⟩ : ∃ kB : Array Value, #[.int .u32 (wd f 0 : Nat), .int .u32 (wd f 1 : Nat), .int .u32 (wd f 2 : Nat), .int .u32 (wd f 3 : Nat)] = kB := ⟨_, rfl⟩
  have hget := Lib.hid (fun n (hn : n < 4) => show kB[n]? = some (.int .u32 (wd f n : Nat)) by rw [← hkB, ← aw4, List.getElem?_toArray]; exact awL_get 4 _ n hn)
  rw [hkB]
  go_loopw [6] (fun i wr => ∃ n : Nat, n ≤ 4 ∧ i = .int .i64 n ∧ Aw wr w.heap.size 4 (fun m => if m < n then wd (suF f) m else wd f m) ∧ Aw wr (w.heap.size + 1) 4 (fun _ => 0) ∧ Below w.heap.size w wr) (fun i _ => 4 - (intOf i).toNat)
  case atStart => exact ⟨0, Nat.zero_le _, rfl, hK2.ext (fun _ _ => rfl), hR2, hb2⟩
  case round =>
    clear hK2 hR2 hb2
    obtain ⟨n, hn, rfl, hK, hR, hB⟩ := hrel
    by_cases hlt : n < 4
    · have hix : ∀ V, (Instr.index 59 (.agg kB) (.int .i64 n)).run Tryd.prog V = .ok (.int .u32 (wd f n : Nat)) V := fun V =>
        run_index_arr Tryd.arrCw Tryd.underlying57 rfl (by kernel_rfl) kB n _ hlt (hget.out n hlt) V
      have l0 := hl.out n hlt
      have i1 : (n : Int) < 4 := by omega
      have k0 := Lib.hid (hst.out n hlt)
      go_wp2_with fail
      refine (sboxWord (wd f n) _ l0 (HX.out.keep hB)).mono ?_
      rintro e v4 ⟨rfl, rfl⟩
      rw [k0.out]
      have hKz := hK
      have hRz := hR
      have hBz := hB
      clear hK hR hB
      have hK9 := ((hKz.set (j := n) (v := wd (suF f) n) (by omega) rfl).ext (fun m _ => low_up (wd f) (wd (suF f)) n m))
      have hR9 := hRz.far (p := ⟨w.heap.size, n, none⟩) (by simp) (.int .u32 (wd (suF f) n : Nat))
      have hB9 := hBz.setCell (p := ⟨w.heap.size, n, none⟩) (by simp) (.int .u32 (wd (suF f) n : Nat))
      obtain ⟨c0, d0⟩ := hKz n hlt
      go_wp2_with fail
      go_roundw
      case rel => exact ⟨n + 1, by omega, by go_num, hK9, hR9, hB9⟩
      case measure => simp [intOf]; omega
    · obtain rfl : n = 4 := by omega
      have hK8 := hK.ext (f' := wd (suF f)) (fun j hj => by rw [if_pos hj])
      clear hK
      go_wp2_with (first
        | (refine wpList_load_aw rfl _ _ rfl _ _ _ rfl hK8 Tryd.arrCw (sizeCw _) ?_)
        | (refine wpList_store_aw rfl _ _ _ rfl _ _ _ (wd (suF f)) rfl rfl hR (sizeCw _) ?_; intro w8 hA8 hb8 _ _))
      refine bodyPost_ret_aw rfl rfl hA8 Tryd.arrCw (sizeCw _) rfl ⟨rfl, ?_⟩
      exact hB.trans (hb8.mono (by omega))
end Go.Proofs.YtblhfmlgpldaeaaDoor
