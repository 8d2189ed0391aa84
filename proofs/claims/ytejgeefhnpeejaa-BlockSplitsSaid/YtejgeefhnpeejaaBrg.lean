/-
  Contract of Pad in the reference package of layer 8, by a walk through its text; what was there stays as it was.
-/
import Derived.Test.YtejgeefhnpeejaaBrf
namespace Go.Proofs.Ytejgeefhnpeejaa
open Go.RowKit
set_option linter.unusedVariables false
set_option maxRecDepth 100000

/-- The padded bytes of a rest, as many as n. -/
def padL (l : List UInt8) (n : Nat) : List UInt8 := l ++ 128 :: List.replicate (n - (l.length + 1)) 0
theorem padL_len (l : List UInt8) (n : Nat) (h : l.length + 1 ≤ n) : (padL l n).length = n := by simp [padL]; omega
theorem padL_snoc (l : List UInt8) (n : Nat) (h : l.length + 1 ≤ n) : padL l (n + 1) = padL l n ++ [0] := by
  unfold padL
  rw [show n + 1 - (l.length + 1) = n - (l.length + 1) + 1 by omega, List.replicate_succ']
  simp
theorem padL_first (l : List UInt8) : padL l (l.length + 1) = l ++ [128] := by simp [padL]
def slLen : Value → Nat
  | .slice _ m _ => m
  | _ => 0
def lF (l : List UInt8) (j : Nat) : Nat := (l.getD j 0).toNat
theorem info8x : (Try.prog.info? 5).map (fun i => (i.zero, i.size, i.bytes)) = some (some (.int .u8 0), 1, 1) := by kernel_rfl
def Ow8 (w : World) (B : Nat) (v : Value) (n : Nat) (l : List UInt8) : Prop := w.ownsRow B 5 1 v n (l.map b8)
theorem map_b8_snoc (l : List UInt8) (x : UInt8) : (l ++ [x]).map b8 = l.map b8 ++ [b8 x] := by simp

set_option maxHeartbeats 1600000 in
theorem refpad (A : Option Addr) (n c : Nat) (l : List UInt8) (w : World) (h : Sl w w.heap.size A n l) (hn : n < 16) :
    Calls Try.prog 22 #[.slice A n c] w fun e w' => e = .returned (.agg (arL 16 (lF (padL l 16))).toArray) ∧ Below w.heap.size w w' := by
  obtain ⟨i0, hi0, hz0, hz1, hz2⟩ := info_parts info8x
  have hzs : (Value.int .u8 0).cells.size = 1 := rfl
  have hz := zero16x
  have hlen := h.len
  obtain ⟨w2, hw2⟩ : ∃ w2 : World, w2 = w.alloc (.cells (arL 16 fun _ => 0).toArray 22) := ⟨_, rfl⟩
  have hb2 : Below w.heap.size w w2 := by rw [hw2]; exact (Below.refl _ _).alloc (by omega) _
  have hR2 : Ar w2 w.heap.size 16 (fun _ => 0) := by rw [hw2]; exact Ar.new w 16 _ _
  have hS2 : Sl w2 w.heap.size A n l := by rw [hw2]; exact h.alloc (Nat.le_refl _) _
  have hs2 : w2.heap.size = w.heap.size + 1 := by rw [hw2]; simp
  go_enter Try.func22, Try.ntmps22
  go_upto_region 1 with fail
  rw [← hw2]
  clear hw2 h
  obtain ⟨B, hB⟩ : ∃ B : Nat, w.heap.size + 1 = B := ⟨_, rfl⟩
  rw [hB] at hs2
  have hS3 := (hS2.more (B' := B) (by omega)).alloc (by omega) (.cells #[] 5)
  have hO3 := World.ownsRow_lit (base := B) (e := 5) (size := 1) w2 #[] 0 (by omega) (by simp [maxLen]) rfl
  rw [hs2] at hO3
  go_wp2_with (first
    | (at_builtin
       refine wpList_append_sl _ rfl (.tmp 4) (.tmp 5) _ rfl B 5 i0 _ Try.underlying30 hi0 hz0 hz1 hz2 hzs _ 0 _ rfl hO3 B A n c l rfl hS3 (by omega) (by simp; omega) ?_
       intro v1 w4 hown1 hg1 hat1)
    | (at_builtin
       refine wpList_append_own _ rfl (.tmp 6) (.tmp 7) 30 rfl B 5 i0 (.int .u8 0) 1 1 Try.underlying30 hi0 hz0 hz1 hz2 rfl (by decide) _ _ _ rfl (hown1.alloc _) ⟨w4.heap.size, 0, none⟩ 1 1 [.int .u8 128] rfl rfl ?c1 ?c2 ?c3 ?c4 ?c5 ?_))
  all_goals
    have k4 : Below B w2 w4 := ((Below.refl B w2).alloc (by omega) _).grown hg1 (by simp; omega) (fun g hg => by
      have e : some B = some g := hg
      injection e with e; omega)
    have z4 := k4.size
  case c2 => rfl
  case c3 => unfold maxLen; omega
  case c4 => omega
  case c5 => omega
  intro v2 w5 hown2 hgrow2 _
  have k5 : Below B w4 w5 := ((Below.refl B w4).alloc (by omega) _).grown hgrow2 (by simp; omega) (fun g hg => own_block hown1 hg)
  have hO5 : Ow8 w5 B v2 (n + 1) (padL l (n + 1)) := by
    have e : (List.map b8 l ++ [Value.int .u8 128]) = (padL l (n + 1)).map b8 := by rw [← hlen, padL_first, map_b8_snoc]; rfl
    unfold Ow8
    rw [← e]
    simpa using hown2
  have hR5 : Ar w5 w.heap.size 16 (fun _ => 0) := (hR2.keep (by omega) k4).keep (by omega) k5
  have hB5 : Below w.heap.size w w5 := (hb2.trans (k4.mono (by omega))).trans (k5.mono (by omega))
  obtain ⟨A5, c5, rfl⟩ := own_shape hO5
  have hsz5 := hB5.size
  have hB16 := Lib.hid hlen
  clear hown1 hg1 hat1 hown2 hgrow2 k4 k5 hS3 hO3 hS2 hR2 hb2 z4 hlen
  go_wp2_with fail
  go_loopw [3] (fun v wr => ∃ (m : Nat) (A2 : Option Addr) (c2 : Nat), n + 1 ≤ m ∧ m ≤ 16 ∧ v = .slice A2 m c2 ∧ Ow8 wr B (.slice A2 m c2) m (padL l m) ∧ Ar wr w.heap.size 16 (fun _ => 0) ∧ Below w.heap.size w wr) (fun v _ => 16 - slLen v)
  case atStart => exact ⟨n + 1, A5, c5, by omega, by omega, rfl, hO5, hR5, hB5⟩
  case round =>
    clear hO5 hR5 hB5 hsz5
    obtain ⟨m, A2, c2, hm1, hm2, rfl, hO, hR, hB⟩ := hrel
    have hsz := hB.size
    have hRl := hR.lt (by omega)
    by_cases hlt : m < 16
    · have i1 : (m : Int) < 16 := by omega
      go_wp2_with (at_builtin
                   refine wpList_append_own _ rfl _ _ 30 rfl B 5 i0 (.int .u8 0) 1 1 Try.underlying30 hi0 hz0 hz1 hz2 rfl (by decide) _ _ _ rfl (hO.alloc _) ⟨wr.heap.size, 0, none⟩ 1 1 [.int .u8 0] rfl rfl ?d1 ?d2 ?d3 ?d4 ?d5 ?_)
      case d1 =>
        intro j u hj
        match j, hj with
        | 0, hj => simp at hj; subst hj; simp [Addr.add]
      case d2 => intro u hu; simp at hu; subst hu; rfl
      case d3 => unfold maxLen; omega
      case d4 => omega
      case d5 => simp; omega
      intro v6 w6 hown6 hgrow6 _
      have k6 : Below B wr w6 := ((Below.refl B wr).alloc (by omega) _).grown hgrow6 (by simp; omega) (fun g hg => own_block hO hg)
      have hO6 : Ow8 w6 B v6 (m + 1) (padL l (m + 1)) := by
        unfold Ow8
        rw [padL_snoc l m (by have := hB16.out; omega), map_b8_snoc]
        exact hown6
      have hR6 : Ar w6 w.heap.size 16 (fun _ => 0) := hR.keep (by omega) k6
      have hB6 : Below w.heap.size w w6 := hB.trans (k6.mono (by omega))
      obtain ⟨A6, c6, rfl⟩ := own_shape hO6
      clear hO hR hB hown6 hgrow6 k6
      go_wp2_with fail
      go_roundw
      case rel => exact ⟨m + 1, A6, c6, by omega, by omega, rfl, hO6, hR6, hB6⟩
      case measure => simp [slLen]; omega
    · obtain rfl : m = 16 := by omega
      have hsl := Sl.of_own hO
      obtain ⟨g, o, hA2, _, _⟩ := hsl.2 (by omega)
      subst hA2
      have hr : wr.rangeAt g o (arL 16 (lF (padL l 16))) := fun j v hv => by
        obtain ⟨hj, rfl⟩ := arL_get_some hv
        have hpl := padL_len l 16 (by have := hB16.out; omega)
        have h1 := hsl.2 (by omega)
        obtain ⟨b, off, e, _, hc⟩ := h1
        injection e with e
        injection e with e1 e2
        subst e1 e2
        rw [hc j (padL l 16)[j] (List.getElem?_eq_getElem (by omega))]
        simp [b8, n8, lF, List.getD, List.getElem?_eq_getElem (show j < (padL l 16).length by omega)]
      have hat := arrayAt16
      go_wp2_with (first
        | (refine wpList_load_mid rfl _ _ rfl g o rfl (arL 16 (lF (padL l 16))) _ hr Try.arr16x rfl (size16x _) ?_)
        | (refine wpList_store_ar rfl _ _ _ rfl _ _ _ (lF (padL l 16)) rfl rfl hR (size16x _) ?_; intro w8 hA8 hb8 _ _))
      refine bodyPost_ret_ar rfl rfl hA8 Try.arr16x (size16x _) rfl ⟨rfl, ?_⟩
      exact hB.trans (hb8.mono (by omega))
end Go.Proofs.Ytejgeefhnpeejaa
