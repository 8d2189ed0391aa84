/-
  Contracts of fast.mix, fast.unmix and fast.unsub, by walks through their texts; what was there stays as it was.
-/
import Derived.Test.YtblhfmlgpldaeaaDoorFad
import Derived.Test.YtblhfmlgpldaeaaDoorFab
import Derived.Test.YtblhfmlgpldaeaaDoorFaf
namespace Go.Proofs.YtblhfmlgpldaeaaDoor
open Go.RowKit
set_option linter.unusedVariables false
set_option maxRecDepth 100000

theorem bytes_of (x : Nat) (hx : x < 4294967296) : (x : Int) / 16777216 % 256 = ((wb x 0 : Nat) : Int) ∧ (x : Int) / 16777216 = ((wb x 0 : Nat) : Int) ∧ (x : Int) / 65536 % 256 = ((wb x 1 : Nat) : Int) ∧ (x : Int) / 256 % 256 = ((wb x 2 : Nat) : Int) ∧
    (x : Int) % 256 = ((wb x 3 : Nat) : Int) ∧ bits .and .u32 ((x : Int) / 65536) 255 = ((wb x 1 : Nat) : Int) ∧ bits .and .u32 ((x : Int) / 256) 255 = ((wb x 2 : Nat) : Int) ∧ bits .and .u32 (x : Int) 255 = ((wb x 3 : Nat) : Int) := by
  have a : ∀ y : Nat, y < 4294967296 → bits .and .u32 (y : Int) 255 = ((y % 256 : Nat) : Int) := fun y hy => by
    have h := and_u32 y 255 hy (by decide); rw [and_255] at h; exact h
  have e1 := a (x / 65536) (by omega)
  have e2 := a (x / 256) (by omega)
  have e3 := a x hx
  simp only [wb, Nat.reduceSub, Nat.reducePow]
  refine ⟨by omega, by omega, by omega, by omega, by omega, ?_, ?_, ?_⟩
  · rw [show (x : Int) / 65536 = ((x / 65536 : Nat) : Int) by omega, e1]
  · rw [show (x : Int) / 256 = ((x / 256 : Nat) : Int) by omega, e2]
  · rw [e3]; omega

set_option maxHeartbeats 1600000 in
theorem fmix (f : Nat → Nat) (w : World) (hf : B16 f) (h : Boxes w) :
    Calls Tryd.prog 48 #[.agg #[.int .u32 (wd f 0 : Nat), .int .u32 (wd f 1 : Nat), .int .u32 (wd f 2 : Nat), .int .u32 (wd f 3 : Nat)]] w fun e w' => e = .returned (.agg #[.int .u32 (wd (miF (suF f)) 0 : Nat), .int .u32 (wd (miF (suF f)) 1 : Nat), .int .u32 (wd (miF (suF f)) 2 : Nat), .int .u32 (wd (miF (suF f)) 3 : Nat)]) ∧ Below w.heap.size w w' := by
  obtain ⟨w1, hw1⟩ : ∃ w1 : World, w1 = w.alloc (.cells #[.int .u32 (wd f 0 : Nat), .int .u32 (wd f 1 : Nat), .int .u32 (wd f 2 : Nat), .int .u32 (wd f 3 : Nat)] 59) := ⟨_, rfl⟩
  have hs1 : w1.heap.size = w.heap.size + 1 := by rw [hw1]; simp
  have hb1 : Below w.heap.size w w1 := by rw [hw1]; exact (Below.refl _ _).alloc (Nat.le_refl _) _
  have hK1 : Aw w1 w.heap.size 4 (wd f) := by rw [hw1]; exact Aw.new w 4 (wd f) _
  obtain ⟨w2, hw2⟩ : ∃ w2 : World, w2 = w1.alloc (.cells #[.int .u32 0, .int .u32 0, .int .u32 0, .int .u32 0] 59) := ⟨_, rfl⟩
  have hb2 : Below w.heap.size w w2 := by rw [hw2]; exact hb1.alloc (by omega) _
  have hR2 : Aw w2 (w.heap.size + 1) 4 (fun _ => 0) := by rw [hw2, ← hs1]; exact Aw.new w1 4 (fun _ => 0) _
  have hK2 : Aw w2 w.heap.size 4 (wd f) := by rw [hw2]; exact hK1.alloc (by omega) _
  clear hb1 hK1
  have HX := Lib.hid h
  have hst := Lib.hid (fun i hi => stk_mx f i hf hi)
  clear h
  have hl := Lib.hid (fun i hi => wd_lt f i hf hi)
  clear hf
  go_enter Tryd.func48, Tryd.ntmps48
  go_upto_region 1 with fail
  rw [← hw1, ← hw2]
  clear hw1 hw2 hs1
  go_wp2_with (refine wpList_load_aw rfl _ _ rfl _ _ _ rfl hK2 Tryd.arrCw (sizeCw _) ?_)
  rw [aw4]
  obtain ⟨kB, hkB⟩ : ∃ kB : Array Value, #[.int .u32 (wd f 0 : Nat), .int .u32 (wd f 1 : Nat), .int .u32 (wd f 2 : Nat), .int .u32 (wd f 3 : Nat)] = kB := ⟨_, rfl⟩
  have hget := Lib.hid (fun n (hn : n < 4) => show kB[n]? = some (.int .u32 (wd f n : Nat)) by rw [← hkB, ← aw4, List.getElem?_toArray]; exact awL_get 4 _ n hn)
  rw [hkB]
  go_loopw [6] (fun i wr => ∃ n : Nat, n ≤ 4 ∧ i = .int .i64 n ∧ Aw wr w.heap.size 4 (fun m => if m < n then wd (miF (suF f)) m else wd f m) ∧ Aw wr (w.heap.size + 1) 4 (fun _ => 0) ∧ Below w.heap.size w wr) (fun i _ => 4 - (intOf i).toNat)
  case atStart => exact ⟨0, Nat.zero_le _, rfl, hK2.ext (fun _ _ => rfl), hR2, hb2⟩
  case round =>
    clear hK2 hR2 hb2
    obtain ⟨n, hn, rfl, hK, hR, hB⟩ := hrel
    by_cases hlt : n < 4
    · have hix : ∀ V, (Instr.index 59 (.agg kB) (.int .i64 n)).run Tryd.prog V = .ok (.int .u32 (wd f n : Nat)) V := fun V =>
        run_index_arr Tryd.arrCw Tryd.underlying57 rfl (by kernel_rfl) kB n _ hlt (hget.out n hlt) V
      have l0 := hl.out n hlt
      have i1 : (n : Int) < 4 := by omega
      have k0 := Lib.hid (hst.out n hlt)
      obtain ⟨b0, b1, b2, b3, b4, b5, b6, b7⟩ := bytes_of (wd f n) l0
      go_wp2_with fail
      refine (fmixed (wb (wd f n) 0) _ (wb_lt _ _) (HX.out.keep hB)).mono ?_
      rintro e v0 ⟨rfl, rfl⟩
      go_wp2_with fail
      refine (fmixed (wb (wd f n) 1) _ (wb_lt _ _) (HX.out.keep hB)).mono ?_
      rintro e v1 ⟨rfl, rfl⟩
      go_wp2_with fail
      refine (fmixed (wb (wd f n) 2) _ (wb_lt _ _) (HX.out.keep hB)).mono ?_
      rintro e v2 ⟨rfl, rfl⟩
      go_wp2_with fail
      refine (fmixed (wb (wd f n) 3) _ (wb_lt _ _) (HX.out.keep hB)).mono ?_
      rintro e v3 ⟨rfl, rfl⟩
      go_wp2_with fail
      refine (fstack _ _ _ _ _ (mxd_lt _) (mxd_lt _) (mxd_lt _) (mxd_lt _)).mono ?_
      rintro e v4 ⟨rfl, rfl⟩
      rw [k0.out]
      have hKz := hK
      have hRz := hR
      have hBz := hB
      clear hK hR hB
      have hK9 := ((hKz.set (j := n) (v := wd (miF (suF f)) n) (by omega) rfl).ext (fun m _ => low_up (wd f) (wd (miF (suF f))) n m))
      have hR9 := hRz.far (p := ⟨w.heap.size, n, none⟩) (by simp) (.int .u32 (wd (miF (suF f)) n : Nat))
      have hB9 := hBz.setCell (p := ⟨w.heap.size, n, none⟩) (by simp) (.int .u32 (wd (miF (suF f)) n : Nat))
      obtain ⟨c0, d0⟩ := hKz n hlt
      go_wp2_with fail
      go_roundw
      case rel => exact ⟨n + 1, by omega, by go_num, hK9, hR9, hB9⟩
      case measure => simp [intOf]; omega
    · obtain rfl : n = 4 := by omega
      have hK8 := hK.ext (f' := wd (miF (suF f))) (fun j hj => by rw [if_pos hj])
      clear hK
      go_wp2_with (first
        | (refine wpList_load_aw rfl _ _ rfl _ _ _ rfl hK8 Tryd.arrCw (sizeCw _) ?_)
        | (refine wpList_store_aw rfl _ _ _ rfl _ _ _ (wd (miF (suF f))) rfl rfl hR (sizeCw _) ?_; intro w8 hA8 hb8 _ _))
      refine bodyPost_ret_aw rfl rfl hA8 Tryd.arrCw (sizeCw _) rfl ⟨rfl, ?_⟩
      exact hB.trans (hb8.mono (by omega))

end Go.Proofs.YtblhfmlgpldaeaaDoor
