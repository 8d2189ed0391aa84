/-
  Contract of the method All of fast.Cipher, by a walk through its text: a list of the call's own; what was there stays as it was.
-/
import Derived.Test.YtejgeefhnpeejaaDoorFal
import Derived.Test.YtejgeefhnpeejaaDoorBks
import Derived.Laws.MakeOwn
namespace Go.Proofs.YtejgeefhnpeejaaDoor
open Go.RowKit
set_option linter.unusedVariables false
set_option maxRecDepth 100000

theorem made_zero (n m : Nat) (hm : 0 < m) (v : Value) : madeCells (Array.replicate m v) (n * m) = Array.replicate (n * m) v := by
  unfold madeCells
  apply Array.ext_getElem?
  intro j
  rcases Nat.lt_or_ge j (n * m) with h | h
  · have hj : j % m < m := Nat.mod_lt _ hm
    simp [h, hj]
  · simp [h]
theorem info16F : (Tryd.prog.info? 22).map (fun i => (i.zero, i.size, i.bytes)) = some (some (.agg (Array.replicate 16 (.int .u8 0))), 16, 16) := by kernel_rfl
theorem make16 (n : Nat) (hn : n ≤ 1000) (V : World) : (Instr.makeSlice 36 (.int .i64 (n : Int)) (.int .i64 (n : Int))).run Tryd.prog V = .ok (.slice (some ⟨V.heap.size, 0, none⟩) n n) (V.alloc (.cells (arL (n * 16) fun _ => 0).toArray 22)) := by
  have hi := info16F
  cases hq : Tryd.prog.info? 22 with
  | none => rw [hq] at hi; cases hi
  | some i =>
    rw [hq] at hi
    simp only [Option.map_some, Option.some.injEq, Prod.mk.injEq] at hi
    obtain ⟨h1, h2, h3⟩ := hi
    have h := run_make (P := Tryd.prog) V 36 22 i _ Tryd.underlying36 hq h1 .i64 .i64 n n (by omega) (by omega) (by rw [h3]; omega) (by omega)
    rw [h, h2, Int.toNat_natCast, show (Value.agg (Array.replicate 16 (Value.int .u8 0))).cells = Array.replicate 16 (Value.int .u8 0) from rfl, made_zero n 16 (by decide), arL_zero]
/-- The list after k blocks. -/
def liF (G : Nat → Nat → Nat) (k m : Nat) : Nat := if m < k * 16 then G (m / 16) (m % 16) else 0
theorem liF_step (G : Nat → Nat → Nat) (k m : Nat) : putO (liF G k) (G k) (k * 16) 16 m = liF G (k + 1) m := by
  unfold putO liF
  by_cases h : k * 16 ≤ m ∧ m < k * 16 + 16
  · rw [if_pos h, if_pos (by omega), show m / 16 = k by omega, show m % 16 = m - k * 16 by omega]
  · rw [if_neg h]
    by_cases h2 : m < k * 16
    · rw [if_pos h2, if_pos (by omega)]
    · rw [if_neg h2, if_neg (by omega)]

set_option maxHeartbeats 4000000 in
theorem fall (v : Value) (f : Nat → Nat) (A : Option Addr) (n c : Nat) (F : Nat → Nat → Nat) (w : World) (hf : B16 f) (hF : ∀ i j, F i j < 256) (hS : S16 w A n F) (hn : n ≤ 1000) (hv : CipV w v f) (h : Boxes w) :
    Calls Tryd.prog 16 #[v, .slice A n c] w fun e w' => ∃ A', e = .returned (.slice A' n n) ∧ S16 w' A' n (fun i => enF f (F i)) ∧ Below w.heap.size w w' := by
  have hz := zero16b
  have HF := Lib.hid hf
  have HFF := Lib.hid hF
  have HX := Lib.hid h
  have hv2 := Lib.hid (hv w (Below.refl _ _))
  have hmk := make16 n hn
  clear hf hF h hv
  go_enter Tryd.func16, Tryd.ntmps16
  go_wp2_with fail
  refine hv2.out.mono ?_
  rintro e w2 ⟨gC, rfl, hC2, hor, hq⟩
  have hS2 := hS.to hq
  clear hS hor hv2
  obtain ⟨gO, hgO⟩ : ∃ gO : Nat, w2.heap.size = gO := ⟨_, rfl⟩
  obtain ⟨w3, hw3⟩ : ∃ V : World, V = w2.alloc (.cells (arL (n * 16) fun _ => 0).toArray 22) := ⟨_, rfl⟩
  have hs3 : w3.heap.size = gO + 1 := by rw [hw3]; simp [hgO]
  have hO3 : Ar w3 gO (n * 16) (liF (fun i => enF f (F i)) 0) := by
    have h0 : Ar w3 gO (n * 16) (fun _ => 0) := by rw [hw3, ← hgO]; exact Ar.new w2 (n * 16) _ _
    exact h0.ext (fun j _ => by unfold liF; rw [if_neg (by omega)])
  have hC3 : Ci w3 gC f := by rw [hw3]; exact Cx.alloc hC2 (by decide) _
  have hS3 : S16 w3 A n F := by rw [hw3]; exact hS2.alloc _
  have hB3 : Below w.heap.size w w3 := by rw [hw3]; exact hq.alloc hq.size _
  have hlC : gC < gO := by rw [← hgO]; exact hC2.lt
  have hlo : 0 < n → ∃ b o, A = some ⟨b, o, none⟩ ∧ b < gO := fun h0 => by
    obtain ⟨b, o, e1, h1, _⟩ := hS2 h0
    exact ⟨b, o, e1, by omega⟩
  have hlw : w.heap.size ≤ gO := by rw [← hgO]; exact hq.size
  have HLO := Lib.hid hlo
  clear hC2 hS2 hq hlo
  go_upto_region 3 with fail
  try rw [hgO]
  rw [← hw3]
  clear hw3 hgO
  go_wp2_with fail
  go_loopw [15] (fun i wr => ∃ k : Nat, k ≤ n ∧ i = .int .i64 k ∧ Ar wr gO (n * 16) (liF (fun i => enF f (F i)) k) ∧ Ci wr gC f ∧ S16 wr A n F ∧ gO < wr.heap.size ∧ Below w.heap.size w wr) (fun i _ => n - (intOf i).toNat)
  case atStart => exact ⟨0, Nat.zero_le _, rfl, hO3, hC3, hS3, by omega, hB3⟩
  case round =>
    clear hO3 hC3 hS3 hB3 hs3
    obtain ⟨k, hk, rfl, hO, hC, hS, hlO, hB⟩ := hrel
    by_cases hlt : k < n
    · have i1 : (k : Int) < (n : Int) := by omega
      obtain ⟨b, o, rfl, hbl, hr0⟩ := hS (by omega)
      have hbO : b < gO := by
        obtain ⟨b2, o2, e2, hbO⟩ := HLO.out (by omega)
        injection e2 with e2
        injection e2 with e3 e4
        omega
      have hr := hr0 k hlt
      have hfk := Lib.hid (show B16 (F k) from fun j _ => HFF.out k j)
      obtain ⟨gQ, hgQ⟩ : ∃ gQ : Nat, wr.heap.size = gQ := ⟨_, rfl⟩
      obtain ⟨wa, hwa⟩ : ∃ V : World, V = wr.alloc (.cells (arL 16 fun _ => 0).toArray 22) := ⟨_, rfl⟩
      have hQa : Ar wa gQ 16 (fun _ => 0) := by rw [hwa, ← hgQ]; exact Ar.new wr 16 _ _
      have hal : Below wr.heap.size wr wa := by rw [hwa]; exact (Below.refl _ _).alloc (Nat.le_refl _) _
      have hOa := hO.keep hlO hal
      have hCa := hC.to hal
      have hSa := hS.to hal
      have hBa := hB.trans (hal.mono hB.size)
      have hsa : wa.heap.size = gQ + 1 := by rw [hwa]; simp [hgQ]
      have hlQ : gO < gQ := by omega
      have hlCQ : gC < gQ := by omega
      clear hO hC hB hal
      go_upto_region 6 with (first
        | (refine wpList_load_mid rfl _ _ rfl b (o + k * 16) rfl (arL 16 (F k)) _ hr Tryd.arr16b rfl (size16b _) ?_)
        | (refine wpList_store_ar rfl _ _ _ rfl _ _ _ (F k) rfl rfl (by rw [← hwa]; exact hQa) (size16b _) ?_; intro wb hQb hbb hsb _)
        | fail)
      rw [← hwa] at hbb hsb
      have hOb := hOa.keep hlQ hbb
      have hCb : Ci wb gC f := Cx.keep hCa hlCQ hbb
      have hSb : S16 wb (some ⟨b, o, none⟩) n F := fun h0 => by
        refine ⟨b, o, rfl, by omega, fun i hi j v hv => ?_⟩
        obtain ⟨b3, o3, e3, _, h3⟩ := hSa h0
        injection e3 with e3
        injection e3 with e4 e5
        subst e4
        subst e5
        exact (hbb.cell (p := ⟨b, o + i * 16 + j, none⟩) (show b < gQ by omega)).trans (h3 i hi j v hv)
      have hBb := hBa.trans (hbb.mono (by omega))
      have hlOb : gO < wb.heap.size := by omega
      clear hQa hOa hCa hSa hBa hbb hsb hwa hgQ hsa hr hr0 hbl hlO hS
      try dsimp only [Act.put]
      have hvb := Lib.hid (exp_made gC f wb hCb)
      go_wp2_with (refine wpList_load_ar rfl _ _ rfl _ _ _ rfl hQb Tryd.arr16b (size16b _) ?_)
      refine (fencrypt _ f (F k) _ HF.out hfk.out hvb.out (HX.out.keep hBb)).mono ?_
      rintro e wc ⟨rfl, hq⟩
      have hOc := hOb.keep hlOb hq
      have hCc := hCb.to hq
      have hSc := hSb.to hq
      have hBc := hBb.trans (hq.mono hBb.size)
      have hlOc : gO < wc.heap.size := Nat.lt_of_lt_of_le hlOb hq.size
      clear hOb hCb hSb hBb hQb hq hvb hlOb
      go_wp2_with (refine wpList_store_arO rfl _ _ _ rfl gO (n * 16) (k * 16) 16 _ (enF f (F k)) rfl rfl hOc (by omega) (size16b _) ?_; intro wd_ hOd hbd hsd _)
      have hCd : Ci wd_ gC f := Cx.keep hCc hlC hbd
      have hSd : S16 wd_ (some ⟨b, o, none⟩) n F := fun h0 => by
        refine ⟨b, o, rfl, by omega, fun i hi j v hv => ?_⟩
        obtain ⟨b3, o3, e3, _, h3⟩ := hSc h0
        injection e3 with e3
        injection e3 with e4 e5
        subst e4
        subst e5
        exact (hbd.cell (p := ⟨b, o + i * 16 + j, none⟩) (show b < gO from hbO)).trans (h3 i hi j v hv)
      have hBd := hBc.trans (hbd.mono hlw)
      have hOe := hOd.ext (fun m _ => liF_step (fun i => enF f (F i)) k m)
      clear hOc hCc hSc hBc hbd hOd
      go_roundw
      case rel => exact ⟨k + 1, by omega, by go_num, hOe, hCd, hSd, by omega, hBd⟩
      case measure => simp [intOf]; omega
    · obtain rfl : k = n := by omega
      go_wp2_with fail
      go_ret
      refine ⟨_, rfl, fun h0 => ⟨gO, 0, rfl, hlO, fun i hi j v hv => ?_⟩, hB⟩
      obtain ⟨hj16, rfl⟩ := arL_get_some hv
      have hq := (hO (i * 16 + j) (by omega)).1
      rw [show liF (fun i => enF f (F i)) k (i * 16 + j) = enF f (F i) j by unfold liF; rw [if_pos (by omega), show (i * 16 + j) / 16 = i by omega, show (i * 16 + j) % 16 = j by omega]] at hq
      rw [show 0 + i * 16 + j = i * 16 + j by omega]; exact hq
end Go.Proofs.YtejgeefhnpeejaaDoor
