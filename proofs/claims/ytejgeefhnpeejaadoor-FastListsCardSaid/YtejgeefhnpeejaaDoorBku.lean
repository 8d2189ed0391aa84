/-
  Contract of All in the reference package of layer 7, by a walk through its text: the encrypted blocks, in a slice of its own; what was there stays as it was.
-/
import Derived.Test.YtejgeefhnpeejaaDoorBks
import Derived.Test.YtejgeefhnpeejaaDoorGcr
import Derived.Test.YtejgeefhnpeejaaDoorFre
import Derived.Deep.RegionHeld3
import Derived.Great.BuildSlice
namespace Go.Proofs.YtejgeefhnpeejaaDoor
open Go.RowKit
set_option linter.unusedVariables false
set_option maxRecDepth 100000

/-- n blocks as cells. -/
def blL (n : Nat) (F : Nat → Nat → Nat) : List Value := (List.range n).flatMap fun i => arL 16 (F i)
theorem blL_snoc (n : Nat) (F : Nat → Nat → Nat) : blL (n + 1) F = blL n F ++ arL 16 (F n) := by simp [blL, List.range_succ]
theorem blL_len (F : Nat → Nat → Nat) : ∀ n, (blL n F).length = n * 16
  | 0 => rfl
  | n + 1 => by rw [blL_snoc, List.length_append, blL_len F n, arL_len]; omega
theorem blL_get (F : Nat → Nat → Nat) (i j : Nat) (hj : j < 16) : ∀ n, i < n → (blL n F)[i * 16 + j]? = some (n8 (F i j))
  | 0, h => absurd h (by omega)
  | n + 1, h => by
    rw [blL_snoc]
    by_cases hi : i < n
    · rw [List.getElem?_append_left (by rw [blL_len]; omega)]; exact blL_get F i j hj n hi
    · obtain rfl : i = n := by omega
      rw [List.getElem?_append_right (by rw [blL_len]; omega), blL_len, show i * 16 + j - i * 16 = j by omega]
      exact arL_get 16 _ j hj
/-- A slice of blocks that the call made itself. -/
def OwB (w : World) (B : Nat) (v : Value) (n : Nat) (F : Nat → Nat → Nat) : Prop := w.ownsRow B 22 16 v n (blL n F)
theorem OwB.to {w w' : World} {B : Nat} {v : Value} {n : Nat} {F : Nat → Nat → Nat} (h : OwB w B v n F) (hb : Below w.heap.size w w') : OwB w' B v n F :=
  World.ownsRow.kept h (row := none) ⟨hb.os, hb.tape, hb.output, hb.size, fun k hk _ => hb.block k hk⟩ (Classical.em _)
theorem OwB.mono {w : World} {B B' : Nat} {v : Value} {n : Nat} {F : Nat → Nat → Nat} (h : OwB w B v n F) (hb : B' ≤ B) : OwB w B' v n F :=
  ⟨h.1, h.2.imp id fun ⟨g, cap, cur, h1, h2, h3⟩ => ⟨g, cap, cur, h1, Nat.le_trans hb h2, h3⟩⟩
theorem OwB.s16 {w : World} {B : Nat} {A : Option Addr} {n c : Nat} {F : Nat → Nat → Nat} (h : OwB w B (.slice A n c) n F) : S16 w A n F := fun hn => by
  obtain ⟨g, cap, hv, hg, hlt⟩ := World.ownsRow.form h hn
  injection hv with e1 e2 e3
  subst e1
  refine ⟨g, 0, rfl, hlt, fun i hi j v hj => ?_⟩
  obtain ⟨hj16, rfl⟩ := arL_get_some hj
  have hc := World.ownsRow.cells h (g := g) rfl (i * 16 + j) _ (blL_get F i j hj16 n hi)
  rw [Addr.add_mid] at hc
  rw [show 0 + i * 16 + j = 0 + (i * 16 + j) by omega]; exact hc
theorem own_blockB {w : World} {base : Nat} {e : TypeId} {size : Nat} {v : Value} {n : Nat} {xs : List Value} (h : w.ownsRow base e size v n xs) {g : Nat} (hg : v.ownBlock = some g) : base ≤ g := by
  rcases h.2 with ⟨rfl, _⟩ | ⟨g0, cap, cur, rfl, hb, _⟩
  · simp [Value.ownBlock] at hg
  · simp [Value.ownBlock] at hg; omega
theorem own_shape8 {w : World} {base : Nat} {e : TypeId} {size : Nat} {v : Value} {n : Nat} {xs : List Value} (h : w.ownsRow base e size v n xs) : ∃ A c, v = .slice A n c := by
  rcases h.2 with ⟨rfl, rfl⟩ | ⟨g0, cap, cur, rfl, _⟩
  · exact ⟨_, _, rfl⟩
  · exact ⟨_, _, rfl⟩
theorem info16B : (Tryd.prog.info? 22).map (fun i => (i.zero, i.size, i.bytes)) = some (some (.agg (Array.replicate 16 (.int .u8 0))), 16, 16) := by kernel_rfl
theorem built16 (f : Nat → Nat) (V : World) : (Instr.buildSlice 36 1 #[(0, .agg (arL 16 f).toArray)]).run Tryd.prog V = .ok (.slice (some ⟨V.heap.size, 0, none⟩) 1 1) (V.alloc (.cells (arL 16 f).toArray 22)) := by
  obtain ⟨i0, hi0, hz0, hz1, hz2⟩ := info_parts info16B
  exact run_buildSlice (P := Tryd.prog) V 36 22 1 _ (arL 16 f).toArray i0 _ Tryd.underlying36 hi0 hz0 (by rw [hz1]; decide) (by rw [hz1]; decide) (by rw [hz1]; kernel_rfl)

theorem wp_bs_by {P : Program} {o : Oper} {a : Act} {w w' : World} {K : Act → World → Prop} {Q : Exit → Act → World → Prop} (t : TypeId) (len : Nat) (parts : Array (Nat × Operand)) (ho : o.op = .buildSlice t len parts)
    (ps : List (Nat × Value)) (hps : parts.toList.map (fun p => (p.1, a.eval p.2)) = ps) (v : Value) (hb : (Instr.buildSlice t len ps.toArray).run P w = .ok v w') (h : K (a.put o.dst v) w') : o.wp P a w K Q := by
  have e : (parts.map fun (i, x) => (i, a.eval x)) = ps.toArray := by rw [← hps]; apply Array.toList_inj.1; simp
  unfold Oper.wp execOp
  simp only [ho, e, Sem.run_bind, hb, Result.andThen_ok]
  exact h

set_option maxHeartbeats 4000000 in
theorem refall7 (f : Nat → Nat) (A : Option Addr) (n c : Nat) (F : Nat → Nat → Nat) (w : World) (hf : B16 f) (hF : ∀ i j, F i j < 256) (hS : S16 w A n F) (hn : n ≤ 1000) :
    Calls Tryd.prog 18 #[.agg (arL 16 f).toArray, .slice A n c] w fun e w' => ∃ A' c', e = .returned (.slice A' n c') ∧ OwB w' w.heap.size (.slice A' n c') n (fun i => enF f (F i)) ∧ Below w.heap.size w w' := by
  have hzK := zeroK
  obtain ⟨i0, hi0, hz0, hz1, hz2⟩ := info_parts info16B
  obtain ⟨kA, hkA⟩ : ∃ kA : Array Value, (arL 16 f).toArray = kA := ⟨_, rfl⟩
  obtain ⟨w1, hw1⟩ : ∃ w1 : World, w1 = w.alloc (.cells (arL 16 f).toArray 22) := ⟨_, rfl⟩
  have hs1 : w1.heap.size = w.heap.size + 1 := by rw [hw1]; simp
  have hb1 : Below w.heap.size w w1 := by rw [hw1]; exact (Below.refl _ _).alloc (Nat.le_refl _) _
  have hK1 : Ar w1 w.heap.size 16 f := by rw [hw1]; exact Ar.new w 16 f _
  have hS1 : S16 w1 A n F := by rw [hw1]; exact hS.alloc _
  have HF := Lib.hid hf
  have HFF := Lib.hid hF
  rw [hkA] at hw1
  rw [hkA]
  clear hkA hf hF hS
  go_enter Tryd.func18, Tryd.ntmps18
  go_upto_region 1 with fail
  rw [← hw1]
  clear hw1
  go_wp2_with (refine wpList_load_ar rfl _ _ rfl _ _ _ rfl hK1 Tryd.arr16b (size16b _) ?_)
  refine (refprepare f _ HF.out).mono ?_
  rintro e w2 ⟨rfl, hq⟩
  have hS2 := hS1.to hq
  have hb2 := hb1.trans (hq.mono hb1.size)
  have hs2 := hq.size
  clear hK1 hS1 hb1 hq
  obtain ⟨gK, hgK⟩ : ∃ gK : Nat, w2.heap.size = gK := ⟨_, rfl⟩
  obtain ⟨w3, hw3⟩ : ∃ V : World, V = w2.alloc (.cells (arL 432 fun _ => 0).toArray 32) := ⟨_, rfl⟩
  have hS3 : S16 w3 A n F := by rw [hw3]; exact hS2.alloc _
  have hT3 : Ar w3 gK 432 (fun _ => 0) := by rw [hw3, ← hgK]; exact Ar.new w2 432 _ _
  have hb3 : Below w.heap.size w w3 := by rw [hw3]; exact hb2.alloc hb2.size _
  have hs3 : w3.heap.size = gK + 1 := by rw [hw3]; simp [hgK]
  have hlK : w.heap.size < gK := by omega
  have hA2 : 0 < n → ∃ b o, A = some ⟨b, o, none⟩ ∧ b < gK := fun h0 => by
    obtain ⟨b, o, e, hl, _⟩ := hS2 h0
    exact ⟨b, o, e, by omega⟩
  clear hS2 hb2 hs1 hs2
  go_upto_region 2 with (refine wpList_store_ar rfl _ _ _ rfl _ _ _ (pkF (ek f) sb) rfl rfl (by rw [← hw3]; exact hT3) (sizeK _) ?_; intro w4 hT4 bel siz kee)
  rw [← hw3] at bel siz kee
  have hS4 : S16 w4 A n F := fun h0 => by
    obtain ⟨b, o, e, hl, hr⟩ := hS3 h0
    obtain ⟨b2, o2, e2, hl2⟩ := hA2 h0
    rw [e] at e2
    injection e2 with e2
    injection e2 with e3 e4
    subst e3
    exact ⟨b, o, e, by omega, fun i hi j v hv => (bel.cell (p := ⟨b, o + i * 16 + j, none⟩) hl2).trans (hr i hi j v hv)⟩
  have hB4 := hb3.trans (bel.mono (by omega))
  have hs4 : w4.heap.size = gK + 1 := by rw [siz, hs3]
  clear hS3 hT3 hb3 bel siz kee hw3 hgK hs3 hA2
  try dsimp only [Act.put]
  obtain ⟨d, hfs, hrow⟩ := Tryd.structK
  have HS := Lib.hid hfs
  have HW := Lib.hid hrow
  clear hfs hrow
  have hA4 : ∀ b o, A = some ⟨b, o, none⟩ → 0 < n → b < gK + 1 := fun b o e h0 => by
    obtain ⟨b2, o2, e2, hl, _⟩ := hS4 h0
    rw [e] at e2
    injection e2 with e2
    injection e2 with e3 e4
    omega
  have HLO := Lib.hid hA4
  clear hA4
  go_wp2_with fail
  have hA4 := HLO.out
  go_loopw [6, 7] (fun v i wr => ∃ (k : Nat) (A2 : Option Addr) (c2 : Nat), k ≤ n ∧ i = .int .i64 k ∧ v = .slice A2 k c2 ∧ OwB wr (gK + 1) (.slice A2 k c2) k (fun i => enF f (F i)) ∧ Ar wr gK 432 (pkF (ek f) sb) ∧ S16 wr A n F ∧ (∀ b o, A = some ⟨b, o, none⟩ → 0 < n → b < gK + 1) ∧ gK < wr.heap.size ∧ Below w.heap.size w wr) (fun _ i _ => n - (intOf i).toNat)
  case atStart => exact ⟨0, none, 0, Nat.zero_le _, rfl, rfl, World.ownsRow_nil _ _ _ _, hT4, hS4, hA4, by omega, hB4⟩
  case round =>
    clear hT4 hS4 hB4 hs4 hA4 HLO
    obtain ⟨k, A2, c2, hk, rfl, rfl, hO, hT, hS, hbK2, hgl, hB⟩ := hrel
    by_cases hlt : k < n
    · have i1 : (k : Int) < (n : Int) := by omega
      obtain ⟨b, o, rfl, _, hr0⟩ := hS (by omega)
      have hr := hr0 k hlt
      have hbK := hbK2 b o rfl (by omega)
      go_wp2_with fail
      have hOd : OwB wr.drew (gK + 1) (.slice A2 k c2) k (fun i => enF f (F i)) := hO
      have hTd := hT.drew
      have hSd := hS.drew
      have hBd := hB.drew
      have hgd : gK < wr.drew.heap.size := hgl
      refine wp_region_held_drew (S := fun W => Ar W gK 432 (pkF (ek f) sb) ∧ W.rangeAt b (o + k * 16) (arL 16 (F k))) (by kernel_rfl) ⟨hTd, hr⟩ (fun hHeld => ?_)
      clear hO hT hS hB hgl hr hr0
      generalize wr.drew = wd at *
      refine wpAnyH_take (i := 0) (v := ?vu0) rfl (by kernel_rfl) (by kernel_rfl) (by kernel_rfl) (fun _ _ _ h => h) (Or.inl ⟨by rfl, ?hyu0⟩) (by assumption) ?restu0
      case hyu0 =>
        intro W hSw
        go_simp
        try with_reducible rfl
      simp only [Act.put, List.setIfInBounds_toArray, List.set_cons_zero, List.set_cons_succ, List.getElem_toArray, List.getElem_cons_zero]
      refine wpAnyH_take (i := 1) (v := .agg (arL 432 (pkF (ek f) sb)).toArray) rfl (by kernel_rfl) (by kernel_rfl) (by kernel_rfl) (fun _ _ _ h => h) (yieldsIf_load_mid (by rfl) _ _ rfl gK 0 rfl (arL 432 (pkF (ek f) sb)) _ (fun W hSw => hSw.1.range) HS.out HW.out (sizeK _)) (by assumption) ?_
      simp only [Act.put, List.setIfInBounds_toArray, List.set_cons_zero, List.set_cons_succ, List.getElem_toArray, List.getElem_cons_zero, List.getElem_cons_succ]
      refine wpAnyH_take (i := 2) (v := ?vu2) rfl (by kernel_rfl) (by kernel_rfl) (by kernel_rfl) (fun _ _ _ h => h) (Or.inl ⟨by rfl, ?hyu2⟩) (by assumption) ?restu2
      case hyu2 =>
        intro W hSw
        go_simp
        try with_reducible rfl
      simp only [Act.put, List.setIfInBounds_toArray, List.set_cons_zero, List.set_cons_succ, List.getElem_toArray, List.getElem_cons_zero, List.getElem_cons_succ]
      refine wpAnyH_take (i := 3) (v := ?vu3) rfl (by kernel_rfl) (by kernel_rfl) (by kernel_rfl) (fun _ _ _ h => h) (Or.inl ⟨by rfl, ?hyu3⟩) (by assumption) ?restu3
      case hyu3 =>
        intro W hSw
        go_simp
        try with_reducible rfl
      simp only [Act.put, List.setIfInBounds_toArray, List.set_cons_zero, List.set_cons_succ, List.getElem_toArray, List.getElem_cons_zero, List.getElem_cons_succ]
      refine wpAnyH_take (i := 4) (v := ?vu4) rfl (by kernel_rfl) (by kernel_rfl) (by kernel_rfl) (fun _ _ _ h => h) (Or.inl ⟨by rfl, ?hyu4⟩) (by assumption) ?restu4
      case hyu4 =>
        intro W hSw
        go_simp
        try with_reducible rfl
      simp only [Act.put, List.setIfInBounds_toArray, List.set_cons_zero, List.set_cons_succ, List.getElem_toArray, List.getElem_cons_zero, List.getElem_cons_succ]
      refine wpAnyH_take (i := 5) (v := .agg (arL 16 (F k)).toArray) rfl (by kernel_rfl) (by kernel_rfl) (by kernel_rfl) (fun _ _ _ h => h) (yieldsIf_load_mid (by rfl) _ _ rfl b (o + k * 16) rfl (arL 16 (F k)) _ (fun W hSw => hSw.2) Tryd.arr16b rfl (size16b _)) (by assumption) ?_
      simp only [Act.put, List.setIfInBounds_toArray, List.set_cons_zero, List.set_cons_succ, List.getElem_toArray, List.getElem_cons_zero, List.getElem_cons_succ]
      refine wpAnyH_ready (rs := [6]) (by kernel_rfl) (by simp) ?_
      refine AllReadyH.cons rfl (fun K hK => ?_) AllReadyH.nil
      go_simp
      refine (refencrypt f (F k) _ HF.out (fun j _ => HFF.out k j)).mono ?_
      rintro e w6 ⟨rfl, hq⟩
      go_wp2_with fail
      refine hK.out _ _ ⟨hHeld.1.to (by omega) hq, row_kept hHeld.2 hq⟩ (fun hHeld2 => ?_)
      clear hK K hHeld
      have hHeld := hHeld2
      clear hHeld2
      have hO6 := hOd.to hq
      have hT6 := hTd.to (by omega) hq
      have hS6 := hSd.to hq
      have hB6 := hBd.trans (hq.mono hBd.size)
      have hg6 : gK < w6.heap.size := Nat.lt_of_lt_of_le hgd hq.size
      clear hOd hTd hSd hBd hgd hq
      try simp only [Act.put, List.setIfInBounds_toArray, List.set_cons_zero, List.set_cons_succ, List.getElem_toArray, List.getElem_cons_zero, List.getElem_cons_succ]
      refine wpAnyH_ready (rs := [7]) (by kernel_rfl) (by simp) ?_
      refine AllReadyH.cons rfl (fun K hK => ?_) AllReadyH.nil
      rw [if_pos (by rfl)]
      refine wp_bs_by _ _ _ rfl [(0, .agg (arL 16 (enF f (F k))).toArray)] rfl _ (built16 _ _) ?_
      obtain ⟨w7, hw7⟩ : ∃ V : World, V = w6.alloc (.cells (arL 16 (enF f (F k))).toArray 22) := ⟨_, rfl⟩
      have bel : Below w6.heap.size w6 w7 := by rw [hw7]; exact (Below.refl _ _).alloc (Nat.le_refl _) _
      have hN : Ar w7 w6.heap.size 16 (enF f (F k)) := by rw [hw7]; exact Ar.new w6 16 _ _
      have hz7 : w7.heap.size = w6.heap.size + 1 := by rw [hw7]; simp
      rw [← hw7]
      refine hK.out _ _ ⟨hHeld.1.to (by omega) bel, row_kept hHeld.2 bel⟩ (fun hHeld2 => ?_)
      clear hK K hHeld hw7
      have hHeld := hHeld2
      clear hHeld2
      have hO7 := hO6.to bel
      have hT7 := hT6.to (by omega) bel
      have hS7 := hS6.to bel
      have hB7 := hB6.trans (bel.mono hB6.size)
      have hg7 : gK + 1 ≤ w7.heap.size := by omega
      obtain ⟨gN, hgN⟩ : ∃ g : Nat, w6.heap.size = g := ⟨_, rfl⟩
      rw [hgN] at hN hz7 ⊢
      clear hO6 hT6 hS6 hB6 hg6 bel hgN
      try simp only [Act.put, List.setIfInBounds_toArray, List.set_cons_zero, List.set_cons_succ, List.getElem_toArray, List.getElem_cons_zero, List.getElem_cons_succ]
      refine wpAnyH_ready (rs := [8]) (by kernel_rfl) (by simp) ?_
      refine AllReadyH.cons rfl (fun K hK => ?_) AllReadyH.nil
      rw [if_pos (by rfl)]
      refine wp_append_own _ _ _ 36 rfl (gK + 1) 22 i0 _ 16 16 Tryd.underlying36 hi0 hz0 hz1 hz2 (by decide) (by decide) _ _ _ rfl hO7 ⟨gN, 0, none⟩ 1 1 (arL 16 (enF f (F k))) rfl (by rw [arL_len]) (fun j u hu => by rw [Addr.add_mid]; exact hN.range j u hu) (arL_one 16 _) (by unfold maxLen; omega) (by omega) hg7 ?_
      intro v8 w8 hown8 hgrow8 _
      obtain ⟨A8, c8, rfl⟩ := own_shape8 hown8
      have hO8 : OwB w8 (gK + 1) (.slice A8 (k + 1) c8) (k + 1) (fun i => enF f (F i)) := by unfold OwB; rw [blL_snoc]; exact hown8
      have k8 : Below (gK + 1) w7 w8 := (Below.refl _ _).grown hgrow8 hg7 (fun g hg => own_blockB hO7 hg)
      have hT8 : Ar w8 gK 432 (pkF (ek f) sb) := hT7.keep (by omega) k8
      have hb8 : b < gK + 1 := hbK
      have hS8 : S16 w8 (some ⟨b, o, none⟩) n F := fun h0 => by
        obtain ⟨b2, o2, e2, _, hr2⟩ := hS7 h0
        injection e2 with e2
        injection e2 with e3 e4
        subst e3 e4
        exact ⟨b, o, rfl, Nat.lt_of_lt_of_le hb8 (Nat.le_trans hg7 k8.size), fun i hi j v hv => (k8.cell (p := ⟨b, o + i * 16 + j, none⟩) hb8).trans (hr2 i hi j v hv)⟩
      have hB8 := hB7.trans (k8.mono (by omega))
      have hg8 : gK < w8.heap.size := Nat.lt_of_lt_of_le hg7 k8.size
      refine hK.out _ _ ⟨hT8, by obtain ⟨b2, o2, e2, _, hr2⟩ := hS8 (by omega); injection e2 with e2; injection e2 with e3 e4; subst e3 e4; exact hr2 k hlt⟩ (fun hHeld2 => ?_)
      clear hK K hHeld hO7 hT7 hS7 hB7 hN hz7 hown8 hgrow8 k8
      have hHeld := hHeld2
      clear hHeld2
      try simp only [Act.put, List.setIfInBounds_toArray, List.set_cons_zero, List.set_cons_succ, List.getElem_toArray, List.getElem_cons_zero, List.getElem_cons_succ]
      refine wpAnyH_take (i := 9) (v := ?vu9) rfl (by kernel_rfl) (by kernel_rfl) (by kernel_rfl) (fun _ _ _ h => h) (Or.inl ⟨by rfl, ?hyu9⟩) (by assumption) ?restu9
      case hyu9 =>
        intro W hSw
        go_simp
        try with_reducible rfl
      simp only [Act.put, List.setIfInBounds_toArray, List.set_cons_zero, List.set_cons_succ, List.getElem_toArray, List.getElem_cons_zero, List.getElem_cons_succ]
      refine wpAnyH_done (by kernel_rfl) ?_ _
      clear hHeld
      go_wp2_with fail
      go_roundw
      case rel => exact ⟨k + 1, A8, c8, by omega, by go_num, rfl, hO8, hT8, hS8, hbK2, hg8, hB8⟩
      case measure => simp [intOf]; omega
    · obtain rfl : k = n := by omega
      go_wp2_with fail
      go_ret
      exact ⟨A2, c2, rfl, OwB.mono hO (by omega), hB⟩
end Go.Proofs.YtejgeefhnpeejaaDoor
