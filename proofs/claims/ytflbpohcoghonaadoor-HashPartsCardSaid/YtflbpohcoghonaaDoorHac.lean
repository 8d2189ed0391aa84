/-
  Contract of hash.total, by a walk through its text, whatever the iterator: the sum and the offset after the parts that it yields in order; over any value that stands for a Table of a key; what was there stays as it was.
-/
import Derived.Test.YtflbpohcoghonaaDoorHab
import Derived.Test.YtflbpohcoghonaaDoorGbk
import Derived.LoopN
import Derived.Deep.RegionHeld3
namespace Go.Proofs.YtflbpohcoghonaaDoor
open Go.RowKit
set_option linter.unusedVariables false
set_option maxRecDepth 100000

open Go.Shelf
attribute [local go_sem] Oper.semAt_some
set_option maxHeartbeats 4000000 in
theorem htotal (q : Option Addr) (f s : Nat → Nat) (P : Nat → Nat → Nat) (N gf : Nat) (lb : Array Value) (Kp : World → World → Prop) (Sp : List Nat → Prop) (w : World) (hf : B16 f) (hs : enF f zF = s) (hP : ∀ k, B16 (P k)) (hN : N ≤ 1000000) (ht : TabC w (.pointer q) f) (hx : Boxes w)
    (eg : ∀ args V, (callFunc gf args).run Tryd.prog V = .ok (.enter gf args) V)
    (hseq : SeqStopsK Fence.wide 4 Tryd.prog gf lb (fE P) Kp (fun ys => ys = List.range N) Sp N w)
    (hKt : ∀ {A B C : World}, Kp A B → Kp B C → Kp A C) (hKb : ∀ (W : World) (l : Nat) (o o' : Obj), w.heap.size ≤ l → W.heap[l]? = some o → o.isCells = false → o.isWalk = false → Kp W (W.putObj l o')) (hKn : ∀ A B, Below w.heap.size A B → Kp A B) :
    Calls Tryd.prog 22 #[.pointer q, .func (.func gf) #[] lb] w fun e w' => e = .returned (.tuple #[.agg (arL 16 (hsF f s P N)).toArray, .agg (arL 16 (atF zF s N)).toArray]) ∧ Below w.heap.size w w' := by
  have hz := zero16x
  have HFB := Lib.hid hf
  have HS0 := Lib.hid hs
  have HSL := Lib.hid (show B16 s by rw [← hs]; exact enR_lt hf zF_lt 10)
  have HPB := Lib.hid hP
  have HT := Lib.hid ht
  have HX := Lib.hid hx
  have HKN := Lib.hid hKn
  obtain ⟨w1, hw1⟩ : ∃ V : World, V = w.alloc (.cells #[.pointer q] 26) := ⟨_, rfl⟩
  have hs1 : w1.heap.size = w.heap.size + 1 := by rw [hw1]; simp
  have hT1 : Boxed w1 w.heap.size 26 (.pointer q) := by rw [hw1]; exact Boxed.new w _ _
  have hB1 : Below w.heap.size w w1 := by rw [hw1]; exact (Below.refl _ _).alloc (Nat.le_refl _) _
  obtain ⟨w2, hw2⟩ : ∃ V : World, V = w1.alloc (.cells (arL 16 fun _ => 0).toArray 22) := ⟨_, rfl⟩
  have hs2 : w2.heap.size = w.heap.size + 2 := by rw [hw2]; simp [hs1]
  have hT2 : Boxed w2 w.heap.size 26 (.pointer q) := by rw [hw2]; exact hT1.alloc _
  have hS2 : Ar w2 (w.heap.size + 1) 16 (fun _ => 0) := by rw [hw2, ← hs1]; exact Ar.new w1 16 _ _
  have hB2 : Below w.heap.size w w2 := by rw [hw2]; exact hB1.alloc hB1.size _
  obtain ⟨w3, hw3⟩ : ∃ V : World, V = w2.alloc (.cells (arL 16 fun _ => 0).toArray 22) := ⟨_, rfl⟩
  have hs3 : w3.heap.size = w.heap.size + 3 := by rw [hw3]; simp [hs2]
  have hT3 : Boxed w3 w.heap.size 26 (.pointer q) := by rw [hw3]; exact hT2.alloc _
  have hS3 : Ar w3 (w.heap.size + 1) 16 (fun _ => 0) := by rw [hw3]; exact hS2.alloc (by omega) _
  have hL3 : Ar w3 (w.heap.size + 2) 16 (fun _ => 0) := by rw [hw3, ← hs2]; exact Ar.new w2 16 _ _
  have hB3 : Below w.heap.size w w3 := by rw [hw3]; exact hB2.alloc hB2.size _
  clear hT1 hB1 hT2 hS2 hB2 hf hP hx hKn
  refine (callsIn_wide (n := 5)).1 ?_
  refine callsIn_of_wp_marks Tryd.func22 rfl trivial ?_ rfl
  simp only [Tryd.ntmps22, List.size_toArray, List.length_cons, List.length_nil, Nat.reduceAdd, Nat.reduceSub, Array.replicate_succ, Array.replicate_zero, List.push_toArray, List.append_toArray, List.nil_append, List.cons_append]
  refine wpIn_wide.2 ?_
  go_upto_region 1 with fail
  rw [← hw1, ← hw2, ← hw3]
  clear hw1 hw2 hw3
  try simp only [Nat.add_assoc, Nat.reduceAdd]
  obtain ⟨gS, hgS⟩ : ∃ g : Nat, w.heap.size + 1 = g := ⟨_, rfl⟩
  obtain ⟨gL, hgL⟩ : ∃ g : Nat, w.heap.size + 2 = g := ⟨_, rfl⟩
  rw [hgS] at hS3
  rw [hgL] at hL3
  try rw [hgL]
  try rw [hgS]
  have lS : w.heap.size < gS := by omega
  have lL : gS < gL := by omega
  have l3 : gL < w3.heap.size := by omega
  have l3' : w.heap.size ≤ w3.heap.size := by omega
  clear hs1 hs2 hs3 hgS hgL
  go_wp2_with fail
  refine (wpIn_wide (n := 5)).1 ?_
  refine wpIn_rangeFunc_ownH (F := Fence.wide) (n := 5) rfl (by omega) (gf := gf) (lb := lb) rfl trivial eg hseq hKt (fun W l o o' h h1 h2 h3 => hKb W l o o' (Nat.le_trans l3' h) h1 h2 h3) hB3 (fun _ => rfl)
    (fun pre W => Ar W gS 16 (foH f s P pre).1 ∧ Ar W gL 16 (foH f s P pre).2 ∧ Boxed W w.heap.size 26 (.pointer q) ∧ Below w.heap.size w W)
    (fun _ _ _ => False)
    (fun pre X Y row h hgr hr => ⟨ar_own (β := Unit) gS 16 _ () X Y row h.1 hgr (fun r e => (hr r e).2), ar_own (β := Unit) gL 16 _ () X Y row h.2.1 hgr (fun r e => (hr r e).2), boxed_own (β := Unit) w.heap.size 26 (fun _ => .pointer q) () X Y row h.2.2.1 hgr (fun r e => (hr r e).2), ownFrom_below (β := Unit) (Nat.le_refl _) l3' () X Y row h.2.2.2 hgr hr⟩)
    (fun _ _ _ _ _ hs _ _ => hs)
    ⟨hS3, hL3, hT3, hB3⟩
    (fun x a' W => ∃ Bx, gL < Bx ∧ Ar W Bx 16 (P x) ∧ a' = { tmps := #[.pointer q, .func (.func gf) #[] lb, .pointer (some ⟨w.heap.size, 0, none⟩), undef, .pointer (some ⟨gS, 0, none⟩), .pointer (some ⟨gL, 0, none⟩), .int .i64 ((x + 1 : Nat) : Int), .pointer (some ⟨Bx, 0, none⟩), .func (.func gf) #[] lb, .int .i64 ((x + 1 : Nat) : Int), .agg (arL 16 (P x)).toArray, undef, undef, undef, undef, undef, undef, undef, undef, undef, undef, undef, undef, undef, undef, undef], defers := [] })
    (fun x a' _ X Y row h hg hr => by
      obtain ⟨Bx, e1, e2, e3⟩ := h
      exact ⟨Bx, e1, ar_own (β := Unit) Bx 16 _ () X Y row e2 hg (fun r e => (hr r e).2), e3⟩) ?assign ?body ?done ?stop
  case assign =>
    rintro l pre x W K ⟨hS, hL, hT, hB⟩ hK
    dsimp only [fE]
    have hlL := hL.lt (by omega)
    obtain ⟨W1, hW1⟩ : ∃ V : World, V = W.alloc (.cells (arL 16 fun _ => 0).toArray 22) := ⟨_, rfl⟩
    have hT1 : Ar W1 W.heap.size 16 (fun _ => 0) := by rw [hW1]; exact Ar.new W 16 _ _
    have hb1 : Below W.heap.size W W1 := by rw [hW1]; exact (Below.refl _ _).alloc (Nat.le_refl _) _
    gi_wp2_with (refine wpListIn_store_ar rfl _ _ _ rfl W.heap.size 16 _ (P x) rfl rfl (by rw [← hW1]; exact hT1) (size16x _) ?_; intro W2 hT2 hb2 hs2 he2)
    rw [← hW1] at hb2
    have hb3 := hb1.trans hb2
    refine hK _ _ (keepsFrom_new _ hb3) (HKN.out _ _ (hb3.mono hB.size)) ⟨hS.to (by omega) hb3, hL.to (by omega) hb3, boxed_below hT hb3, hB.trans (hb3.mono hB.size)⟩ ⟨W.heap.size, hlL, hT2, rfl⟩
  case body =>
    rintro l pre x a' W hl ⟨r, hr⟩ ⟨hS, hL, hT, hB⟩ ⟨Bx, hBx, hE, rfl⟩ hlt
    have HFO := Lib.hid (foH_snoc f s P pre x)
    have hub := Lib.hid (foH_sum (P := P) HFB.out HSL.out HPB.out pre)
    have hob := Lib.hid (foH_off (f := f) (P := P) HSL.out pre)
    obtain ⟨u, hu⟩ : ∃ u, (foH f s P pre).1 = u := ⟨_, rfl⟩
    obtain ⟨o, ho⟩ : ∃ o, (foH f s P pre).2 = o := ⟨_, rfl⟩
    rw [hu] at HFO hub hS
    rw [ho] at HFO hob hL
    have hdb := Lib.hid (nxH_lt HSL.out x)
    have hpb := Lib.hid (HPB.out x)
    have hnx := Lib.hid (fun V hb => onext (.pointer q) f o ((x + 1) % 18446744073709551616) V HFB.out hob.out (Nat.mod_lt _ (by decide)) (HT.out.to hb))
    rw [HS0.out] at hnx
    have hnx2 : Hid (∀ V, Below w.heap.size w V → Calls Tryd.prog 44 #[.pointer q, .agg (arL 16 o).toArray, .int .u64 ((x + 1) % 18446744073709551616 : Nat)] V fun e V' => e = .returned (.agg (arL 16 (adF o (nxH s x))).toArray) ∧ Below V.heap.size V V') := hnx
    clear hnx
    have hm := wrap_u_any (x + 1)
    obtain ⟨y, hy⟩ : ∃ y : Nat, x + 1 = y := ⟨_, rfl⟩
    rw [hy] at hnx2 hm ⊢
    obtain ⟨m, hmm⟩ : ∃ m : Nat, y % 18446744073709551616 = m := ⟨_, rfl⟩
    rw [hmm] at hnx2 hm
    obtain ⟨d, hd⟩ : ∃ d, nxH s x = d := ⟨_, rfl⟩
    rw [hd] at hnx2 hdb HFO
    have ho2b := Lib.hid (adF_lt hob.out hdb.out)
    obtain ⟨o2, ho2⟩ : ∃ o2, adF o d = o2 := ⟨_, rfl⟩
    rw [ho2] at hnx2 ho2b HFO
    have hxb := Lib.hid (adF_lt hpb.out ho2b.out)
    have heb := Lib.hid (show B16 (enF f (adF (P x) o2)) from enR_lt HFB.out hxb.out 10)
    obtain ⟨p, _, hC, hcip⟩ := HT.out
    have HC := Lib.hid hC
    have HCIP := Lib.hid hcip
    have c0 := hT.cell
    clear hu ho hy hmm hd ho2 hC hcip hlt
    repeat (first | apply wpIn_block | (apply wpIn_seq_k; intro _ _))
    refine wpIn_region_plain (by kernel_rfl) ?_
    go_wp2_with (refine wpList_load_ar rfl _ _ rfl _ _ _ rfl hL Tryd.arr16x (size16x _) ?_)
    clear c0 hm
    refine (hnx2.out _ hB).mono ?_
    rintro e W2 ⟨rfl, hq⟩
    have hSa := hS.to (by omega) hq
    have hLa := hL.to (by omega) hq
    have hEa := hE.to (by omega) hq
    have hTa := boxed_below hT hq
    go_wp2_with (refine wpList_store_arE rfl _ _ _ rfl _ _ _ o2 rfl rfl hLa (size16x _) ?_; intro Wv he3 hLv; have HE3 := Lib.hid he3; clear he3)
    have he3 := HE3.out
    have hbv : Below gL W2 Wv := by rw [he3]; exact below_setCells _ _ _ _
    have hSv : Ar Wv gS 16 u := by rw [he3]; exact hSa.apart (b := gL) (by omega) _ 0
    have hEv : Ar Wv Bx 16 (P x) := by rw [he3]; exact hEa.apart (b := gL) (by omega) _ 0
    have hTv := boxed_under2 hTa hbv (by omega)
    have hKv : KeepsFrom w3.heap.size W Wv := by rw [he3]; exact (keepsFrom_new _ hq).trans ((keepsOthers_setCells _ _ _ _).from _)
    have hQv : Below w.heap.size W Wv := (hq.mono hB.size).trans (hbv.mono (by omega))
    have hBv := hB.trans hQv
    clear hS hL hT hE hSa hLa hEa hTa hbv he3 HE3 hq hnx2 hob hdb
    try dsimp only [Act.put]
    refine onlyN_normal ?_
    gi_wp2_with fail
    have hSd := hSv.drew
    refine wpIn_region_calm (S := fun W' => Ar W' gL 16 (o2) ∧ Ar W' Bx 16 (P x) ∧ Boxed W' w.heap.size 26 (.pointer q) ∧ KeepsFrom w3.heap.size W W' ∧ Below w.heap.size W W' ∧ Below w.heap.size w W') (by kernel_rfl) (by kernel_rfl) ⟨hLv.drew, hEv.drew, hTv, hKv.trans ((KeepsOthers.drew _).from _), hQv.drew, hBv.drew⟩ (fun hHeld => ?_)
    clear hSv hLv hEv hTv hKv hQv hBv
    generalize World.drew Wv = bd at *
    have hSbd := hSd
    clear hSd
    refine wpAnyH_take (i := 1) (v := ?vb1) rfl (by kernel_rfl) (by kernel_rfl) (by kernel_rfl) (fun _ _ _ h => h) (Or.inl ⟨by rfl, ?hyb1⟩) (by assumption) ?restb1
    case hyb1 =>
      intro W hSw
      have c0 := (hSw.2.2.1).cell
      go_simp
      try with_reducible rfl
    simp only [Act.put, List.setIfInBounds_toArray, List.set_cons_zero, List.set_cons_succ, List.getElem_toArray, List.getElem_cons_zero, List.getElem_cons_succ]
    refine wpAnyH_take (i := 3) (v := .agg (arL 16 (P x)).toArray) rfl (by kernel_rfl) (by kernel_rfl) (by kernel_rfl) (fun _ _ _ h => h) (yieldsIf_load_mid (by rfl) _ _ rfl Bx (0) rfl (arL 16 (P x)) _ (fun W hSw => hSw.2.1.range) Tryd.arr16x rfl (size16x _)) (by assumption) ?_
    simp only [Act.put, List.setIfInBounds_toArray, List.set_cons_zero, List.set_cons_succ, List.getElem_toArray, List.getElem_cons_zero, List.getElem_cons_succ]
    refine wpAnyH_take (i := 4) (v := .agg (arL 16 (o2)).toArray) rfl (by kernel_rfl) (by kernel_rfl) (by kernel_rfl) (fun _ _ _ h => h) (yieldsIf_load_mid (by rfl) _ _ rfl gL (0) rfl (arL 16 (o2)) _ (fun W hSw => hSw.1.range) Tryd.arr16x rfl (size16x _)) (by assumption) ?_
    simp only [Act.put, List.setIfInBounds_toArray, List.set_cons_zero, List.set_cons_succ, List.getElem_toArray, List.getElem_cons_zero, List.getElem_cons_succ]
    refine wpAnyH_ready (rs := [0, 2]) (by kernel_rfl) (by simp) ?_
    refine AllReadyH.cons rfl (fun K hK => ?_) (AllReadyH.cons rfl (fun K hK => ?_) AllReadyH.nil)
    · rw [if_pos (by rfl)]
      refine wp_load_mid _ _ rfl gS 0 rfl (arL 16 (u)) _ hSbd.range Tryd.arr16x rfl (size16x _) ?_
      refine hK.out _ _ hHeld (fun hHeld2 => ?_)
      clear hK K hHeld
      have hHeld := hHeld2
      clear hHeld2
      try simp only [Act.put, List.setIfInBounds_toArray, List.set_cons_zero, List.set_cons_succ, List.getElem_toArray, List.getElem_cons_zero]
      refine wpAnyH_ready (rs := [2]) (by kernel_rfl) (by simp) ?_
      refine AllReadyH.cons rfl (fun K hK => ?_) AllReadyH.nil
      go_simp
      refine (HCIP.out _ (hHeld.2.2.2.2.2)).mono ?_
      rintro e b2 ⟨rfl, hq⟩
      go_wp2_with fail
      have hSb2 := (hSbd).to (by omega) hq
      refine hK.out _ _ ⟨(hHeld.1).to (by omega) hq, (hHeld.2.1).to (by omega) hq, boxed_below (hHeld.2.2.1) hq, (hHeld.2.2.2.1).trans (keepsFrom_new _ hq), (hHeld.2.2.2.2.1).trans (hq.mono (hHeld.2.2.2.2.2).size), (hHeld.2.2.2.2.2).trans (hq.mono (hHeld.2.2.2.2.2).size)⟩ (fun hHeld2 => ?_)
      clear hK K hHeld hq hSbd
      have hHeld := hHeld2
      clear hHeld2
      try simp only [Act.put, List.setIfInBounds_toArray, List.set_cons_zero, List.set_cons_succ, List.getElem_toArray, List.getElem_cons_zero, List.getElem_cons_succ]
      refine wpAnyH_ready (rs := [5]) (by kernel_rfl) (by simp) ?_
      refine AllReadyH.cons rfl (fun K hK => ?_) AllReadyH.nil
      go_simp
      refine (bxor (P x) o2 _ hpb.out ho2b.out).mono ?_
      rintro e b3 ⟨rfl, hq⟩
      go_wp2_with fail
      have hSb3 := (hSb2).to (by omega) hq
      refine hK.out _ _ ⟨(hHeld.1).to (by omega) hq, (hHeld.2.1).to (by omega) hq, boxed_below (hHeld.2.2.1) hq, (hHeld.2.2.2.1).trans (keepsFrom_new _ hq), (hHeld.2.2.2.2.1).trans (hq.mono (hHeld.2.2.2.2.2).size), (hHeld.2.2.2.2.2).trans (hq.mono (hHeld.2.2.2.2.2).size)⟩ (fun hHeld2 => ?_)
      clear hK K hHeld hq hSb2
      have hHeld := hHeld2
      clear hHeld2
      try simp only [Act.put, List.setIfInBounds_toArray, List.set_cons_zero, List.set_cons_succ, List.getElem_toArray, List.getElem_cons_zero, List.getElem_cons_succ]
      refine wpAnyH_ready (rs := [6]) (by kernel_rfl) (by simp) ?_
      refine AllReadyH.cons rfl (fun K hK => ?_) AllReadyH.nil
      go_simp
      refine (fencrypt (.pointer p) f (adF (P x) o2) _ HFB.out hxb.out (HC.out.to (hHeld.2.2.2.2.2)) (HX.out.keep (hHeld.2.2.2.2.2))).mono ?_
      rintro e b4 ⟨rfl, hq⟩
      go_wp2_with fail
      have hSb4 := (hSb3).to (by omega) hq
      refine hK.out _ _ ⟨(hHeld.1).to (by omega) hq, (hHeld.2.1).to (by omega) hq, boxed_below (hHeld.2.2.1) hq, (hHeld.2.2.2.1).trans (keepsFrom_new _ hq), (hHeld.2.2.2.2.1).trans (hq.mono (hHeld.2.2.2.2.2).size), (hHeld.2.2.2.2.2).trans (hq.mono (hHeld.2.2.2.2.2).size)⟩ (fun hHeld2 => ?_)
      clear hK K hHeld hq hSb3
      have hHeld := hHeld2
      clear hHeld2
      try simp only [Act.put, List.setIfInBounds_toArray, List.set_cons_zero, List.set_cons_succ, List.getElem_toArray, List.getElem_cons_zero, List.getElem_cons_succ]
      refine wpAnyH_ready (rs := [7]) (by kernel_rfl) (by simp) ?_
      refine AllReadyH.cons rfl (fun K hK => ?_) AllReadyH.nil
      go_simp
      refine (bxor u (enF f (adF (P x) o2)) _ hub.out heb.out).mono ?_
      rintro e b5 ⟨rfl, hq⟩
      go_wp2_with fail
      have hSb5 := (hSb4).to (by omega) hq
      refine hK.out _ _ ⟨(hHeld.1).to (by omega) hq, (hHeld.2.1).to (by omega) hq, boxed_below (hHeld.2.2.1) hq, (hHeld.2.2.2.1).trans (keepsFrom_new _ hq), (hHeld.2.2.2.2.1).trans (hq.mono (hHeld.2.2.2.2.2).size), (hHeld.2.2.2.2.2).trans (hq.mono (hHeld.2.2.2.2.2).size)⟩ (fun hHeld2 => ?_)
      clear hK K hHeld hq hSb4
      have hHeld := hHeld2
      clear hHeld2
      try simp only [Act.put, List.setIfInBounds_toArray, List.set_cons_zero, List.set_cons_succ, List.getElem_toArray, List.getElem_cons_zero, List.getElem_cons_succ]
      refine wpAnyH_ready (rs := [8]) (by kernel_rfl) (by simp) ?_
      refine AllReadyH.cons rfl (fun K hK => ?_) AllReadyH.nil
      rw [if_pos (by rfl)]
      refine wp_store_mid _ _ _ rfl gS 0 (arL 16 (adF u (enF f (adF (P x) o2)))).toArray rfl rfl hSb5.there (size16x _) (all_oneCell_toArray (arL_one 16 (adF u (enF f (adF (P x) o2))))) ?_
      have hSb6 := hSb5.whole (adF u (enF f (adF (P x) o2)))
      have hSb6 := show Ar (World.setCells b5 gS 0 (arL 16 (adF u (enF f (adF (P x) o2))))) gL 16 (o2) ∧ Ar (World.setCells b5 gS 0 (arL 16 (adF u (enF f (adF (P x) o2))))) Bx 16 (P x) ∧ Boxed (World.setCells b5 gS 0 (arL 16 (adF u (enF f (adF (P x) o2))))) w.heap.size 26 (.pointer q) ∧ KeepsFrom w3.heap.size W (World.setCells b5 gS 0 (arL 16 (adF u (enF f (adF (P x) o2))))) ∧ Below w.heap.size W (World.setCells b5 gS 0 (arL 16 (adF u (enF f (adF (P x) o2))))) ∧ Below w.heap.size w (World.setCells b5 gS 0 (arL 16 (adF u (enF f (adF (P x) o2))))) from ⟨(hHeld.1).apart (b := gS) (by omega) (arL 16 (adF u (enF f (adF (P x) o2)))) 0, (hHeld.2.1).apart (b := gS) (by omega) (arL 16 (adF u (enF f (adF (P x) o2)))) 0, boxed_under2 (hHeld.2.2.1) (below_setCells _ gS (arL 16 (adF u (enF f (adF (P x) o2)))) 0) (by omega), (hHeld.2.2.2.1).trans ((keepsOthers_setCells _ _ _ _).from _), (hHeld.2.2.2.2.1).trans ((below_setCells _ gS (arL 16 (adF u (enF f (adF (P x) o2)))) 0).mono (by omega)), (hHeld.2.2.2.2.2).trans (Below.setCells (Below.refl w.heap.size _) (b := gS) (by omega) (arL 16 (adF u (enF f (adF (P x) o2)))) 0)⟩
      dsimp only [List.toList_toArray]
      generalize World.setCells b5 gS 0 (arL 16 (adF u (enF f (adF (P x) o2)))) = b6 at *
      refine hK.out _ _ hSb6 (fun hHeld2 => ?_)
      clear hK K hHeld hSb6 hSb5
      have hHeld := hHeld2
      clear hHeld2
      try simp only [Act.put]
      refine wpAnyH_done (by kernel_rfl) ?_ _
      have hS9 := hSb6
      obtain ⟨hL9, _, hT9, hK9, hQ9, hB9⟩ := hHeld
      clear hSb6
      refine onlyN_normal ?_
      gi_wp2_with fail
      exact ⟨hK9, HKN.out _ _ hQ9, by rw [HFO.out]; exact hS9, by rw [HFO.out]; exact hL9, hT9, hB9⟩
    · go_simp
      refine (HCIP.out _ (hHeld.2.2.2.2.2)).mono ?_
      rintro e b7 ⟨rfl, hq⟩
      go_wp2_with fail
      have hSb7 := (hSbd).to (by omega) hq
      refine hK.out _ _ ⟨(hHeld.1).to (by omega) hq, (hHeld.2.1).to (by omega) hq, boxed_below (hHeld.2.2.1) hq, (hHeld.2.2.2.1).trans (keepsFrom_new _ hq), (hHeld.2.2.2.2.1).trans (hq.mono (hHeld.2.2.2.2.2).size), (hHeld.2.2.2.2.2).trans (hq.mono (hHeld.2.2.2.2.2).size)⟩ (fun hHeld2 => ?_)
      clear hK K hHeld hq hSbd
      have hHeld := hHeld2
      clear hHeld2
      try simp only [Act.put, List.setIfInBounds_toArray, List.set_cons_zero, List.set_cons_succ, List.getElem_toArray, List.getElem_cons_zero, List.getElem_cons_succ]
      refine wpAnyH_ready (rs := [0, 5]) (by kernel_rfl) (by simp) ?_
      refine AllReadyH.cons rfl (fun K hK => ?_) (AllReadyH.cons rfl (fun K hK => ?_) AllReadyH.nil)
      · rw [if_pos (by rfl)]
        refine wp_load_mid _ _ rfl gS 0 rfl (arL 16 (u)) _ hSb7.range Tryd.arr16x rfl (size16x _) ?_
        refine hK.out _ _ hHeld (fun hHeld2 => ?_)
        clear hK K hHeld
        have hHeld := hHeld2
        clear hHeld2
        try simp only [Act.put, List.setIfInBounds_toArray, List.set_cons_zero, List.set_cons_succ, List.getElem_toArray, List.getElem_cons_zero]
        refine wpAnyH_ready (rs := [5]) (by kernel_rfl) (by simp) ?_
        refine AllReadyH.cons rfl (fun K hK => ?_) AllReadyH.nil
        go_simp
        refine (bxor (P x) o2 _ hpb.out ho2b.out).mono ?_
        rintro e b8 ⟨rfl, hq⟩
        go_wp2_with fail
        have hSb8 := (hSb7).to (by omega) hq
        refine hK.out _ _ ⟨(hHeld.1).to (by omega) hq, (hHeld.2.1).to (by omega) hq, boxed_below (hHeld.2.2.1) hq, (hHeld.2.2.2.1).trans (keepsFrom_new _ hq), (hHeld.2.2.2.2.1).trans (hq.mono (hHeld.2.2.2.2.2).size), (hHeld.2.2.2.2.2).trans (hq.mono (hHeld.2.2.2.2.2).size)⟩ (fun hHeld2 => ?_)
        clear hK K hHeld hq hSb7
        have hHeld := hHeld2
        clear hHeld2
        try simp only [Act.put, List.setIfInBounds_toArray, List.set_cons_zero, List.set_cons_succ, List.getElem_toArray, List.getElem_cons_zero, List.getElem_cons_succ]
        refine wpAnyH_ready (rs := [6]) (by kernel_rfl) (by simp) ?_
        refine AllReadyH.cons rfl (fun K hK => ?_) AllReadyH.nil
        go_simp
        refine (fencrypt (.pointer p) f (adF (P x) o2) _ HFB.out hxb.out (HC.out.to (hHeld.2.2.2.2.2)) (HX.out.keep (hHeld.2.2.2.2.2))).mono ?_
        rintro e b9 ⟨rfl, hq⟩
        go_wp2_with fail
        have hSb9 := (hSb8).to (by omega) hq
        refine hK.out _ _ ⟨(hHeld.1).to (by omega) hq, (hHeld.2.1).to (by omega) hq, boxed_below (hHeld.2.2.1) hq, (hHeld.2.2.2.1).trans (keepsFrom_new _ hq), (hHeld.2.2.2.2.1).trans (hq.mono (hHeld.2.2.2.2.2).size), (hHeld.2.2.2.2.2).trans (hq.mono (hHeld.2.2.2.2.2).size)⟩ (fun hHeld2 => ?_)
        clear hK K hHeld hq hSb8
        have hHeld := hHeld2
        clear hHeld2
        try simp only [Act.put, List.setIfInBounds_toArray, List.set_cons_zero, List.set_cons_succ, List.getElem_toArray, List.getElem_cons_zero, List.getElem_cons_succ]
        refine wpAnyH_ready (rs := [7]) (by kernel_rfl) (by simp) ?_
        refine AllReadyH.cons rfl (fun K hK => ?_) AllReadyH.nil
        go_simp
        refine (bxor u (enF f (adF (P x) o2)) _ hub.out heb.out).mono ?_
        rintro e b10 ⟨rfl, hq⟩
        go_wp2_with fail
        have hSb10 := (hSb9).to (by omega) hq
        refine hK.out _ _ ⟨(hHeld.1).to (by omega) hq, (hHeld.2.1).to (by omega) hq, boxed_below (hHeld.2.2.1) hq, (hHeld.2.2.2.1).trans (keepsFrom_new _ hq), (hHeld.2.2.2.2.1).trans (hq.mono (hHeld.2.2.2.2.2).size), (hHeld.2.2.2.2.2).trans (hq.mono (hHeld.2.2.2.2.2).size)⟩ (fun hHeld2 => ?_)
        clear hK K hHeld hq hSb9
        have hHeld := hHeld2
        clear hHeld2
        try simp only [Act.put, List.setIfInBounds_toArray, List.set_cons_zero, List.set_cons_succ, List.getElem_toArray, List.getElem_cons_zero, List.getElem_cons_succ]
        refine wpAnyH_ready (rs := [8]) (by kernel_rfl) (by simp) ?_
        refine AllReadyH.cons rfl (fun K hK => ?_) AllReadyH.nil
        rw [if_pos (by rfl)]
        refine wp_store_mid _ _ _ rfl gS 0 (arL 16 (adF u (enF f (adF (P x) o2)))).toArray rfl rfl hSb10.there (size16x _) (all_oneCell_toArray (arL_one 16 (adF u (enF f (adF (P x) o2))))) ?_
        have hSb11 := hSb10.whole (adF u (enF f (adF (P x) o2)))
        have hSb11 := show Ar (World.setCells b10 gS 0 (arL 16 (adF u (enF f (adF (P x) o2))))) gL 16 (o2) ∧ Ar (World.setCells b10 gS 0 (arL 16 (adF u (enF f (adF (P x) o2))))) Bx 16 (P x) ∧ Boxed (World.setCells b10 gS 0 (arL 16 (adF u (enF f (adF (P x) o2))))) w.heap.size 26 (.pointer q) ∧ KeepsFrom w3.heap.size W (World.setCells b10 gS 0 (arL 16 (adF u (enF f (adF (P x) o2))))) ∧ Below w.heap.size W (World.setCells b10 gS 0 (arL 16 (adF u (enF f (adF (P x) o2))))) ∧ Below w.heap.size w (World.setCells b10 gS 0 (arL 16 (adF u (enF f (adF (P x) o2))))) from ⟨(hHeld.1).apart (b := gS) (by omega) (arL 16 (adF u (enF f (adF (P x) o2)))) 0, (hHeld.2.1).apart (b := gS) (by omega) (arL 16 (adF u (enF f (adF (P x) o2)))) 0, boxed_under2 (hHeld.2.2.1) (below_setCells _ gS (arL 16 (adF u (enF f (adF (P x) o2)))) 0) (by omega), (hHeld.2.2.2.1).trans ((keepsOthers_setCells _ _ _ _).from _), (hHeld.2.2.2.2.1).trans ((below_setCells _ gS (arL 16 (adF u (enF f (adF (P x) o2)))) 0).mono (by omega)), (hHeld.2.2.2.2.2).trans (Below.setCells (Below.refl w.heap.size _) (b := gS) (by omega) (arL 16 (adF u (enF f (adF (P x) o2)))) 0)⟩
        dsimp only [List.toList_toArray]
        generalize World.setCells b10 gS 0 (arL 16 (adF u (enF f (adF (P x) o2)))) = b11 at *
        refine hK.out _ _ hSb11 (fun hHeld2 => ?_)
        clear hK K hHeld hSb11 hSb10
        have hHeld := hHeld2
        clear hHeld2
        try simp only [Act.put]
        refine wpAnyH_done (by kernel_rfl) ?_ _
        have hS9 := hSb11
        obtain ⟨hL9, _, hT9, hK9, hQ9, hB9⟩ := hHeld
        clear hSb11
        refine onlyN_normal ?_
        gi_wp2_with fail
        exact ⟨hK9, HKN.out _ _ hQ9, by rw [HFO.out]; exact hS9, by rw [HFO.out]; exact hL9, hT9, hB9⟩
      · go_simp
        refine (bxor (P x) o2 _ hpb.out ho2b.out).mono ?_
        rintro e b12 ⟨rfl, hq⟩
        go_wp2_with fail
        have hSb12 := (hSb7).to (by omega) hq
        refine hK.out _ _ ⟨(hHeld.1).to (by omega) hq, (hHeld.2.1).to (by omega) hq, boxed_below (hHeld.2.2.1) hq, (hHeld.2.2.2.1).trans (keepsFrom_new _ hq), (hHeld.2.2.2.2.1).trans (hq.mono (hHeld.2.2.2.2.2).size), (hHeld.2.2.2.2.2).trans (hq.mono (hHeld.2.2.2.2.2).size)⟩ (fun hHeld2 => ?_)
        clear hK K hHeld hq hSb7
        have hHeld := hHeld2
        clear hHeld2
        try simp only [Act.put, List.setIfInBounds_toArray, List.set_cons_zero, List.set_cons_succ, List.getElem_toArray, List.getElem_cons_zero, List.getElem_cons_succ]
        refine wpAnyH_ready (rs := [0, 6]) (by kernel_rfl) (by simp) ?_
        refine AllReadyH.cons rfl (fun K hK => ?_) (AllReadyH.cons rfl (fun K hK => ?_) AllReadyH.nil)
        · rw [if_pos (by rfl)]
          refine wp_load_mid _ _ rfl gS 0 rfl (arL 16 (u)) _ hSb12.range Tryd.arr16x rfl (size16x _) ?_
          refine hK.out _ _ hHeld (fun hHeld2 => ?_)
          clear hK K hHeld
          have hHeld := hHeld2
          clear hHeld2
          try simp only [Act.put, List.setIfInBounds_toArray, List.set_cons_zero, List.set_cons_succ, List.getElem_toArray, List.getElem_cons_zero]
          refine wpAnyH_ready (rs := [6]) (by kernel_rfl) (by simp) ?_
          refine AllReadyH.cons rfl (fun K hK => ?_) AllReadyH.nil
          go_simp
          refine (fencrypt (.pointer p) f (adF (P x) o2) _ HFB.out hxb.out (HC.out.to (hHeld.2.2.2.2.2)) (HX.out.keep (hHeld.2.2.2.2.2))).mono ?_
          rintro e b13 ⟨rfl, hq⟩
          go_wp2_with fail
          have hSb13 := (hSb12).to (by omega) hq
          refine hK.out _ _ ⟨(hHeld.1).to (by omega) hq, (hHeld.2.1).to (by omega) hq, boxed_below (hHeld.2.2.1) hq, (hHeld.2.2.2.1).trans (keepsFrom_new _ hq), (hHeld.2.2.2.2.1).trans (hq.mono (hHeld.2.2.2.2.2).size), (hHeld.2.2.2.2.2).trans (hq.mono (hHeld.2.2.2.2.2).size)⟩ (fun hHeld2 => ?_)
          clear hK K hHeld hq hSb12
          have hHeld := hHeld2
          clear hHeld2
          try simp only [Act.put, List.setIfInBounds_toArray, List.set_cons_zero, List.set_cons_succ, List.getElem_toArray, List.getElem_cons_zero, List.getElem_cons_succ]
          refine wpAnyH_ready (rs := [7]) (by kernel_rfl) (by simp) ?_
          refine AllReadyH.cons rfl (fun K hK => ?_) AllReadyH.nil
          go_simp
          refine (bxor u (enF f (adF (P x) o2)) _ hub.out heb.out).mono ?_
          rintro e b14 ⟨rfl, hq⟩
          go_wp2_with fail
          have hSb14 := (hSb13).to (by omega) hq
          refine hK.out _ _ ⟨(hHeld.1).to (by omega) hq, (hHeld.2.1).to (by omega) hq, boxed_below (hHeld.2.2.1) hq, (hHeld.2.2.2.1).trans (keepsFrom_new _ hq), (hHeld.2.2.2.2.1).trans (hq.mono (hHeld.2.2.2.2.2).size), (hHeld.2.2.2.2.2).trans (hq.mono (hHeld.2.2.2.2.2).size)⟩ (fun hHeld2 => ?_)
          clear hK K hHeld hq hSb13
          have hHeld := hHeld2
          clear hHeld2
          try simp only [Act.put, List.setIfInBounds_toArray, List.set_cons_zero, List.set_cons_succ, List.getElem_toArray, List.getElem_cons_zero, List.getElem_cons_succ]
          refine wpAnyH_ready (rs := [8]) (by kernel_rfl) (by simp) ?_
          refine AllReadyH.cons rfl (fun K hK => ?_) AllReadyH.nil
          rw [if_pos (by rfl)]
          refine wp_store_mid _ _ _ rfl gS 0 (arL 16 (adF u (enF f (adF (P x) o2)))).toArray rfl rfl hSb14.there (size16x _) (all_oneCell_toArray (arL_one 16 (adF u (enF f (adF (P x) o2))))) ?_
          have hSb15 := hSb14.whole (adF u (enF f (adF (P x) o2)))
          have hSb15 := show Ar (World.setCells b14 gS 0 (arL 16 (adF u (enF f (adF (P x) o2))))) gL 16 (o2) ∧ Ar (World.setCells b14 gS 0 (arL 16 (adF u (enF f (adF (P x) o2))))) Bx 16 (P x) ∧ Boxed (World.setCells b14 gS 0 (arL 16 (adF u (enF f (adF (P x) o2))))) w.heap.size 26 (.pointer q) ∧ KeepsFrom w3.heap.size W (World.setCells b14 gS 0 (arL 16 (adF u (enF f (adF (P x) o2))))) ∧ Below w.heap.size W (World.setCells b14 gS 0 (arL 16 (adF u (enF f (adF (P x) o2))))) ∧ Below w.heap.size w (World.setCells b14 gS 0 (arL 16 (adF u (enF f (adF (P x) o2))))) from ⟨(hHeld.1).apart (b := gS) (by omega) (arL 16 (adF u (enF f (adF (P x) o2)))) 0, (hHeld.2.1).apart (b := gS) (by omega) (arL 16 (adF u (enF f (adF (P x) o2)))) 0, boxed_under2 (hHeld.2.2.1) (below_setCells _ gS (arL 16 (adF u (enF f (adF (P x) o2)))) 0) (by omega), (hHeld.2.2.2.1).trans ((keepsOthers_setCells _ _ _ _).from _), (hHeld.2.2.2.2.1).trans ((below_setCells _ gS (arL 16 (adF u (enF f (adF (P x) o2)))) 0).mono (by omega)), (hHeld.2.2.2.2.2).trans (Below.setCells (Below.refl w.heap.size _) (b := gS) (by omega) (arL 16 (adF u (enF f (adF (P x) o2)))) 0)⟩
          dsimp only [List.toList_toArray]
          generalize World.setCells b14 gS 0 (arL 16 (adF u (enF f (adF (P x) o2)))) = b15 at *
          refine hK.out _ _ hSb15 (fun hHeld2 => ?_)
          clear hK K hHeld hSb15 hSb14
          have hHeld := hHeld2
          clear hHeld2
          try simp only [Act.put]
          refine wpAnyH_done (by kernel_rfl) ?_ _
          have hS9 := hSb15
          obtain ⟨hL9, _, hT9, hK9, hQ9, hB9⟩ := hHeld
          clear hSb15
          refine onlyN_normal ?_
          gi_wp2_with fail
          exact ⟨hK9, HKN.out _ _ hQ9, by rw [HFO.out]; exact hS9, by rw [HFO.out]; exact hL9, hT9, hB9⟩
        · go_simp
          refine (fencrypt (.pointer p) f (adF (P x) o2) _ HFB.out hxb.out (HC.out.to (hHeld.2.2.2.2.2)) (HX.out.keep (hHeld.2.2.2.2.2))).mono ?_
          rintro e b16 ⟨rfl, hq⟩
          go_wp2_with fail
          have hSb16 := (hSb12).to (by omega) hq
          refine hK.out _ _ ⟨(hHeld.1).to (by omega) hq, (hHeld.2.1).to (by omega) hq, boxed_below (hHeld.2.2.1) hq, (hHeld.2.2.2.1).trans (keepsFrom_new _ hq), (hHeld.2.2.2.2.1).trans (hq.mono (hHeld.2.2.2.2.2).size), (hHeld.2.2.2.2.2).trans (hq.mono (hHeld.2.2.2.2.2).size)⟩ (fun hHeld2 => ?_)
          clear hK K hHeld hq hSb12
          have hHeld := hHeld2
          clear hHeld2
          try simp only [Act.put, List.setIfInBounds_toArray, List.set_cons_zero, List.set_cons_succ, List.getElem_toArray, List.getElem_cons_zero, List.getElem_cons_succ]
          refine wpAnyH_ready (rs := [0]) (by kernel_rfl) (by simp) ?_
          refine AllReadyH.cons rfl (fun K hK => ?_) AllReadyH.nil
          rw [if_pos (by rfl)]
          refine wp_load_mid _ _ rfl gS 0 rfl (arL 16 (u)) _ hSb16.range Tryd.arr16x rfl (size16x _) ?_
          refine hK.out _ _ hHeld (fun hHeld2 => ?_)
          clear hK K hHeld
          have hHeld := hHeld2
          clear hHeld2
          try simp only [Act.put, List.setIfInBounds_toArray, List.set_cons_zero, List.set_cons_succ, List.getElem_toArray, List.getElem_cons_zero]
          refine wpAnyH_ready (rs := [7]) (by kernel_rfl) (by simp) ?_
          refine AllReadyH.cons rfl (fun K hK => ?_) AllReadyH.nil
          go_simp
          refine (bxor u (enF f (adF (P x) o2)) _ hub.out heb.out).mono ?_
          rintro e b17 ⟨rfl, hq⟩
          go_wp2_with fail
          have hSb17 := (hSb16).to (by omega) hq
          refine hK.out _ _ ⟨(hHeld.1).to (by omega) hq, (hHeld.2.1).to (by omega) hq, boxed_below (hHeld.2.2.1) hq, (hHeld.2.2.2.1).trans (keepsFrom_new _ hq), (hHeld.2.2.2.2.1).trans (hq.mono (hHeld.2.2.2.2.2).size), (hHeld.2.2.2.2.2).trans (hq.mono (hHeld.2.2.2.2.2).size)⟩ (fun hHeld2 => ?_)
          clear hK K hHeld hq hSb16
          have hHeld := hHeld2
          clear hHeld2
          try simp only [Act.put, List.setIfInBounds_toArray, List.set_cons_zero, List.set_cons_succ, List.getElem_toArray, List.getElem_cons_zero, List.getElem_cons_succ]
          refine wpAnyH_ready (rs := [8]) (by kernel_rfl) (by simp) ?_
          refine AllReadyH.cons rfl (fun K hK => ?_) AllReadyH.nil
          rw [if_pos (by rfl)]
          refine wp_store_mid _ _ _ rfl gS 0 (arL 16 (adF u (enF f (adF (P x) o2)))).toArray rfl rfl hSb17.there (size16x _) (all_oneCell_toArray (arL_one 16 (adF u (enF f (adF (P x) o2))))) ?_
          have hSb18 := hSb17.whole (adF u (enF f (adF (P x) o2)))
          have hSb18 := show Ar (World.setCells b17 gS 0 (arL 16 (adF u (enF f (adF (P x) o2))))) gL 16 (o2) ∧ Ar (World.setCells b17 gS 0 (arL 16 (adF u (enF f (adF (P x) o2))))) Bx 16 (P x) ∧ Boxed (World.setCells b17 gS 0 (arL 16 (adF u (enF f (adF (P x) o2))))) w.heap.size 26 (.pointer q) ∧ KeepsFrom w3.heap.size W (World.setCells b17 gS 0 (arL 16 (adF u (enF f (adF (P x) o2))))) ∧ Below w.heap.size W (World.setCells b17 gS 0 (arL 16 (adF u (enF f (adF (P x) o2))))) ∧ Below w.heap.size w (World.setCells b17 gS 0 (arL 16 (adF u (enF f (adF (P x) o2))))) from ⟨(hHeld.1).apart (b := gS) (by omega) (arL 16 (adF u (enF f (adF (P x) o2)))) 0, (hHeld.2.1).apart (b := gS) (by omega) (arL 16 (adF u (enF f (adF (P x) o2)))) 0, boxed_under2 (hHeld.2.2.1) (below_setCells _ gS (arL 16 (adF u (enF f (adF (P x) o2)))) 0) (by omega), (hHeld.2.2.2.1).trans ((keepsOthers_setCells _ _ _ _).from _), (hHeld.2.2.2.2.1).trans ((below_setCells _ gS (arL 16 (adF u (enF f (adF (P x) o2)))) 0).mono (by omega)), (hHeld.2.2.2.2.2).trans (Below.setCells (Below.refl w.heap.size _) (b := gS) (by omega) (arL 16 (adF u (enF f (adF (P x) o2)))) 0)⟩
          dsimp only [List.toList_toArray]
          generalize World.setCells b17 gS 0 (arL 16 (adF u (enF f (adF (P x) o2)))) = b18 at *
          refine hK.out _ _ hSb18 (fun hHeld2 => ?_)
          clear hK K hHeld hSb18 hSb17
          have hHeld := hHeld2
          clear hHeld2
          try simp only [Act.put]
          refine wpAnyH_done (by kernel_rfl) ?_ _
          have hS9 := hSb18
          obtain ⟨hL9, _, hT9, hK9, hQ9, hB9⟩ := hHeld
          clear hSb18
          refine onlyN_normal ?_
          gi_wp2_with fail
          exact ⟨hK9, HKN.out _ _ hQ9, by rw [HFO.out]; exact hS9, by rw [HFO.out]; exact hL9, hT9, hB9⟩
  case done =>
    rintro D ys W hD rfl ⟨hS, hL, hT, hB⟩ hK
    rw [foH_range f s P N (by omega)] at hS hL
    dsimp only at hS hL
    go_upto_region 6 with fail
    refine wp_region_noPanic ?_
    refine wp_region_held_drew (S := fun W => Ar W gS 16 (hsF f s P N) ∧ Ar W gL 16 (atF zF s N) ∧ (World.heap W)[D]? = some (.deferred (some [])) ∧ Below w.heap.size w W) (by kernel_rfl) ⟨hS.drew, hL.drew, hK, hB.drew⟩ (fun hHeld => ?_)
    clear hS hL hK hB hT 
    generalize World.drew W = ed at *
    refine wpAnyH_take (i := 0) (v := .agg (arL 16 (hsF f s P N)).toArray) rfl (by kernel_rfl) (by kernel_rfl) (by kernel_rfl) (fun _ _ _ h => h) (yieldsIf_load_mid (by rfl) _ _ rfl gS (0) rfl (arL 16 (hsF f s P N)) _ (fun W hSw => hSw.1.range) Tryd.arr16x rfl (size16x _)) (by assumption) ?_
    simp only [Act.put, List.setIfInBounds_toArray, List.set_cons_zero, List.set_cons_succ, List.getElem_toArray, List.getElem_cons_zero]
    refine wpAnyH_take (i := 1) (v := .agg (arL 16 (atF zF s N)).toArray) rfl (by kernel_rfl) (by kernel_rfl) (by kernel_rfl) (fun _ _ _ h => h) (yieldsIf_load_mid (by rfl) _ _ rfl gL (0) rfl (arL 16 (atF zF s N)) _ (fun W hSw => hSw.2.1.range) Tryd.arr16x rfl (size16x _)) (by assumption) ?_
    simp only [Act.put, List.setIfInBounds_toArray, List.set_cons_zero, List.set_cons_succ, List.getElem_toArray, List.getElem_cons_zero, List.getElem_cons_succ]
    refine wpAnyH_ready (rs := [2]) (by kernel_rfl) (by simp) ?_
    refine AllReadyH.cons rfl (fun K hK => ?_) AllReadyH.nil
    rw [if_pos (by rfl)]
    refine wp_store_mid _ _ _ rfl gS 0 (arL 16 (hsF f s P N)).toArray rfl rfl (hHeld.1).there (size16x _) (all_oneCell_toArray (arL_one 16 (hsF f s P N))) ?_
    have hSe1 := show Ar (World.setCells ed gS 0 (arL 16 (hsF f s P N))) gS 16 (hsF f s P N) ∧ Ar (World.setCells ed gS 0 (arL 16 (hsF f s P N))) gL 16 (atF zF s N) ∧ (World.heap (World.setCells ed gS 0 (arL 16 (hsF f s P N))))[D]? = some (.deferred (some [])) ∧ Below w.heap.size w (World.setCells ed gS 0 (arL 16 (hsF f s P N))) from ⟨(hHeld.1).whole (hsF f s P N), (hHeld.2.1).apart (b := gS) (by omega) (arL 16 (hsF f s P N)) 0, (keepsOthers_setCells _ _ _ _).same D _ (hHeld.2.2.1) rfl, (hHeld.2.2.2).trans (Below.setCells (Below.refl w.heap.size _) (b := gS) (by omega) (arL 16 (hsF f s P N)) 0)⟩
    dsimp only [List.toList_toArray]
    generalize World.setCells ed gS 0 (arL 16 (hsF f s P N)) = e1 at *
    refine hK.out _ _ hSe1 (fun hHeld2 => ?_)
    clear hK K hHeld hSe1
    have hHeld := hHeld2
    clear hHeld2
    try simp only [Act.put]
    refine wpAnyH_ready (rs := [3]) (by kernel_rfl) (by simp) ?_
    refine AllReadyH.cons rfl (fun K hK => ?_) AllReadyH.nil
    rw [if_pos (by rfl)]
    refine wp_store_mid _ _ _ rfl gL 0 (arL 16 (atF zF s N)).toArray rfl rfl (hHeld.2.1).there (size16x _) (all_oneCell_toArray (arL_one 16 (atF zF s N))) ?_
    have hSe2 := show Ar (World.setCells e1 gL 0 (arL 16 (atF zF s N))) gS 16 (hsF f s P N) ∧ Ar (World.setCells e1 gL 0 (arL 16 (atF zF s N))) gL 16 (atF zF s N) ∧ (World.heap (World.setCells e1 gL 0 (arL 16 (atF zF s N))))[D]? = some (.deferred (some [])) ∧ Below w.heap.size w (World.setCells e1 gL 0 (arL 16 (atF zF s N))) from ⟨(hHeld.1).apart (b := gL) (by omega) (arL 16 (atF zF s N)) 0, (hHeld.2.1).whole (atF zF s N), (keepsOthers_setCells _ _ _ _).same D _ (hHeld.2.2.1) rfl, (hHeld.2.2.2).trans (Below.setCells (Below.refl w.heap.size _) (b := gL) (by omega) (arL 16 (atF zF s N)) 0)⟩
    dsimp only [List.toList_toArray]
    generalize World.setCells e1 gL 0 (arL 16 (atF zF s N)) = e2 at *
    refine hK.out _ _ hSe2 (fun hHeld2 => ?_)
    clear hK K hHeld hSe2
    have hHeld := hHeld2
    clear hHeld2
    try simp only [Act.put]
    refine wpAnyH_done (by kernel_rfl) ?_ _
    refine NoPanic.normal ?_
    obtain ⟨hS9, hL9, hD9, hB9⟩ := hHeld
    go_wp2_with fail
    refine ⟨by simp, .inl ⟨_, _, rfl, run_takeDeferred hD9, ?_⟩⟩
    have hg9 := grownBy_putObj' e2 D (.deferred none)
    have hr9 : ∀ r, some D = some r → ∃ o : Obj, e2.heap[r]? = some o ∧ o.isCells = false := fun r e => by cases e; exact ⟨_, hD9, rfl⟩
    have hA5 := ar_own (β := Unit) gS 16 _ () _ _ _ hS9 hg9 hr9
    have hA6 := ar_own (β := Unit) gL 16 _ () _ _ _ hL9 hg9 hr9
    exact ⟨_, results_ar2 rfl rfl rfl hA5 hA6 Tryd.arr16x (size16x _) (size16x _), rfl, hB9.trans (belowK_b (w := w) (Nat.le_refl _) e2 D _ _ (Nat.le_trans l3' hD) hD9 rfl rfl)⟩
  case stop =>
    rintro D c pre W _ _ h _
    exact h.elim
end Go.Proofs.YtflbpohcoghonaaDoor
