/-
 The check of the documentation's examples of layer 13 returns true. No condition but what the table of S-boxes holds; what was there stays as it was.
-/
import Derived.Test.YthfnpjjckpnfbaaGreatDoorOph
import Derived.Test.YthfnpjjckpnfbaaGreatDoorOpz
import Derived.Test.YthfnpjjckpnfbaaGreatDoorGbk
import Derived.Deep.RegionHeld3
namespace Go.Proofs.YthfnpjjckpnfbaaGreatDoor
open Go.RowKit
set_option linter.unusedVariables false
set_option maxRecDepth 100000
set_option linter.unusedSimpArgs false
theorem run_zero12 (w : World) : (Instr.build 23 #[]).run Tryz.prog w = .ok (.agg (arL 12 fun _ => 0).toArray) w := run_build w _ _ _ (by kernel_rfl)
theorem zF12 : B12 (fun _ => 0) := fun _ _ => by show 0 < 256; omega
/-- Bytes that are 0. -/
def lz (n : Nat) : List UInt8 := List.replicate n 0
theorem lz_len (n : Nat) : (lz n).length = n := List.length_replicate
theorem sy_lit (W : World) (l : List UInt8) (n : Nat) (hl : l.length = n) : Sy (W.alloc (.cells (l.map b8).toArray 5)) W.heap.size (some ⟨W.heap.size, 0, none⟩) n l :=
 ⟨by simp, hl, fun _ => ⟨W.heap.size, 0, rfl, Nat.lt_succ_self _, fun j u hj => by
  rw [Nat.zero_add, World.cell?_alloc_at _ _ _ _ rfl]
  simp [hj]⟩⟩
theorem mkz (n : Nat) (hn : n ≤ 1000) (V : World) : (Instr.makeSlice 24 (.int .i64 (n : Int)) (.int .i64 (n : Int))).run Tryz.prog V = .ok (.slice (some ⟨V.heap.size, 0, none⟩) n n) (V.alloc (.cells ((lz n).map b8).toArray 5)) := by
 have h := make8 n (by omega) V
 have e : (arL n fun _ => 0) = (lz n).map b8 := by
  apply List.ext_getElem?
  intro j
  rcases Nat.lt_or_ge j n with hj | hj
  ·rw [arL_get n _ j hj, List.getElem?_map, lz, List.getElem?_replicate, if_pos hj]; rfl
  ·rw [List.getElem?_eq_none (by rw [arL_len]; exact hj), List.getElem?_eq_none (by rw [List.length_map, lz_len]; exact hj)]
 rwa [e] at h
theorem eqCodeC (c x : Int) (w : World) : (binOp .eql 31 (.iface 44 (.int .i64 c)) (.iface 44 (.int .i64 x))).run Tryz.prog w = .ok (.bool (decide (c = x))) w := by
 obtain ⟨i, hi, hcmp⟩ := Option.map_eq_some_iff.1 (show (Tryz.prog.info? 44).map (·.comparable) = some true by kernel_rfl)
 have h : ∀ d : Nat, (Op.equalIn (d + 2) 31 (.iface 44 (.int .i64 c)) (.iface 44 (.int .i64 x))).run Tryz.prog w = .ok (decide (c = x)) w := fun d => by
  simp [Op.equalIn, run_underlying Tryz.underlying31, run_underlying Tryz.underlying44, typeInfo, hi, hcmp]
  rfl
 simp only [binOp]
 simp [Op.equal, Op.maxDepth, h 9998]
theorem eqCodeT (c : Int) (w : World) : (binOp .eql 31 (.iface 44 (.int .i64 c)) (.iface 44 (.int .i64 c))).run Tryz.prog w = .ok (.bool true) w := by
 rw [eqCodeC, decide_eq_true rfl]
theorem eqCode1 (w : World) : (binOp .eql 31 (.iface 44 (.int .i64 1)) (.iface 44 (.int .i64 1))).run Tryz.prog w = .ok (.bool true) w := eqCodeT 1 w
theorem eqCode3 (w : World) : (binOp .eql 31 (.iface 44 (.int .i64 3)) (.iface 44 (.int .i64 3))).run Tryz.prog w = .ok (.bool true) w := eqCodeT 3 w
theorem errV0 : errV 0 = .nilIface := rfl
theorem errV1 : errV 1 = .iface 44 (.int .i64 1) := rfl
theorem errV3 : errV 3 = .iface 44 (.int .i64 3) := rfl
theorem cs_nil13 : csF [] = fun _ => 0 := rfl
theorem of_nil13 (s a : Nat → Nat) : ofF s a 0 = a := by
 show (if 0 % 16 = 0 then atF a s (0 / 16) else _) = _
 rw [if_pos rfl]; exact atF_zero a s
theorem tg_nil13 (f s a : Nat → Nat) : tgF f s (fun _ => 0) a [] = enF f (adF a (dk s 1)) := by
 unfold tgF
 rw [haF_nil, show adF (fun _ => 0) a = a from zero_ad a]
 exact ad_zero _
theorem ot_nil13 (f s a : Nat → Nat) (d l : List UInt8) : otF f s a d l 0 = tgF f s (fun _ => 0) a d := by
 unfold otF
 rw [of_nil13, List.take_zero, show dtL f s a [] = [] from List.eq_nil_of_length_eq_zero (dtL_len []), cs_nil13]
theorem len2 : (([7, 8] : List UInt8)).length = 2 := rfl

theorem bad16 {s a : Nat → Nat} (hs : enF zF zF = s) (ha : o0F (enF zF (nbF fun _ => 0)) 0 = a) : liB 16 (otF zF s a [] (lz 16) 0) ≠ (lz 16).drop 0 := by
 subst hs; subst ha
 rw [ot_nil13, tg_nil13]
 intro h
 have hb : B16 (enF zF (adF (o0F (enF zF (nbF fun _ => 0)) 0) (dk (enF zF zF) 1))) := enR_lt zF_lt (adF_lt (o0F_lt (enR_lt zF_lt (nbF_lt zF12) 10) _) (dk_lt (enR_lt zF_lt zF_lt 10) 1)) 10
 have h0 := lF_liB 16 _ hb 0 (by omega)
 rw [h, tag_none0] at h0
 exact absurd h0 (by decide +kernel)
theorem open16 {s a : Nat → Nat} (hs : enF zF zF = s) (ha : o0F (enF zF (nbF fun _ => 0)) 0 = a) : opC zF s a [] (lz 16) = 3 := opC_no (lz_len 16) rfl (by omega) (bad16 hs ha)

set_option maxHeartbeats 8000000 in
theorem oawake13  (w : World)  (hs : Boxes w) :
  Calls Tryz.prog 8 #[] w fun e w' => e = .returned (.bool true) ∧ Below w.heap.size w w' := by
 have HX := Lib.hid hs
 have hz := zero16b
 have z0 := Lib.hid run_zero16
 have n0 := Lib.hid run_zero12
 have hBw : Below w.heap.size w w := Below.refl _ _
 clear  hs 
 go_enter Tryz.func8, Tryz.ntmps8
 obtain ⟨s, hs0⟩ : ∃ s : Nat → Nat, enF zF zF = s := ⟨_, rfl⟩
 have HS0 := Lib.hid hs0
 have HSL := Lib.hid (show B16 s by rw [← hs0]; exact enR_lt zF_lt zF_lt 10)
 clear hs0
 go_wp2_with (refine wpList_build_by rfl _ _ rfl [] rfl _ (z0.out _) ?_)
 refine (fnew zF _ zF_lt (HX.out.keep hBw)).mono ?_
 rintro e x1 ⟨gC, rfl, hgC, hCx1, hq⟩
 have hBx1 := hBw.trans (hq.mono hBw.size)
 clear hq  hBw
 go_wp2_with fail
 refine (tnew (some ⟨gC, 0, none⟩) zF _ zF_lt (exp_made gC zF _ hCx1) (HX.out.keep hBx1)).mono ?_
 rintro e x2 ⟨gT, rfl, hgT, hTx2, hq⟩
 rw [HS0.out] at hTx2
 have hCx2 := (hCx1).to hq
 have hBx2 := hBx1.trans (hq.mono hBx1.size)
 clear hq hCx1 hBx1
 obtain ⟨a, ha⟩ : ∃ a : Nat → Nat, o0F (enF zF (nbF fun _ => 0)) 0 = a := ⟨_, rfl⟩
 have HA := Lib.hid ha
 clear ha
 have HAB := Lib.hid (show B16 a by rw [← HA.out]; exact o0F_lt (enR_lt zF_lt (nbF_lt zF12) 10) _)
 have hmk : ∀ V : World, (Instr.makeSlice 24 (.int .i64 15) (.int .i64 15)).run Tryz.prog V = .ok (.slice (some ⟨V.heap.size, 0, none⟩) 15 15) (V.alloc (.cells ((lz 15).map b8).toArray 5)) := mkz 15 (by omega)
 obtain ⟨cz, hcz⟩ : ∃ A : Array Value, ((lz 15).map b8).toArray = A := ⟨_, rfl⟩
 have HCZ := Lib.hid hcz
 rw [hcz] at hmk
 clear hcz
 obtain ⟨m3, hym3⟩ : ∃ V : World, V = x2.alloc (.cells cz 5) := ⟨_, rfl⟩
 have hsm3 : m3.heap.size = x2.heap.size + 1 := by rw [hym3]; simp
 have hq : Below x2.heap.size x2 m3 := by rw [hym3]; exact (Below.refl _ _).alloc (Nat.le_refl _) _
 have hCm3 := (hCx2).to hq
 have hTm3 := (hTx2).to hq
 have hmm3 : Sy m3 x2.heap.size (some ⟨x2.heap.size, 0, none⟩) (15) ((lz 15)) := by rw [hym3]; rw [← HCZ.out]; exact sy_lit x2 (lz 15) _ rfl
 have hBm3 := hBx2.trans (hq.mono hBx2.size)
 clear hq hCx2 hTx2 hBx2 
 go_wp2_with (refine wpList_build_by rfl _ _ rfl [] rfl _ (n0.out _) ?_)
 rw [← hym3]
 clear hym3
 try simp only [Nat.add_assoc, Nat.reduceAdd]
 obtain ⟨gm, hgm⟩ : ∃ g : Nat, x2.heap.size = g := ⟨_, rfl⟩
 rw [hgm] at hmm3
 try rw [hgm]
 clear hsm3 hgm
 clear hmk HCZ
 refine (oopen (some ⟨gT, 0, none⟩) zF s (fun _ => 0) a none 0 0 [] (some ⟨gm, 0, none⟩) 15 15 (lz 15) [] 1 _ zF_lt HS0.out zF12 HA.out (sl_nil _ _) (Nat.le_refl _) (by omega) hmm3.sl (Nat.le_refl _) (by omega) (opC_short (lz_len 15) (by omega)) (opL_no (by rw [(opC_short (lz_len 15) (by omega))]; decide)) (wtabo gT gC zF s _ HS0.out (hTm3) (hCm3)) (HX.out.keep hBm3)).mono ?_
 rintro e x4 ⟨A3, c3, rfl, _, _, hq⟩
 rw [errV1]
 have hCx4 := (hCm3).to hq
 have hTx4 := (hTm3).to hq
 have hmx4 := (hmm3).to hq
 have hBx4 := hBm3.trans (hq.mono hBm3.size)
 clear hq hCm3 hTm3 hmm3 hBm3
 clear hmx4
 have hmk : ∀ V : World, (Instr.makeSlice 24 (.int .i64 16) (.int .i64 16)).run Tryz.prog V = .ok (.slice (some ⟨V.heap.size, 0, none⟩) 16 16) (V.alloc (.cells ((lz 16).map b8).toArray 5)) := mkz 16 (by omega)
 obtain ⟨cz, hcz⟩ : ∃ A : Array Value, ((lz 16).map b8).toArray = A := ⟨_, rfl⟩
 have HCZ := Lib.hid hcz
 rw [hcz] at hmk
 clear hcz
 obtain ⟨m5, hym5⟩ : ∃ V : World, V = x4.alloc (.cells cz 5) := ⟨_, rfl⟩
 have hsm5 : m5.heap.size = x4.heap.size + 1 := by rw [hym5]; simp
 have hq : Below x4.heap.size x4 m5 := by rw [hym5]; exact (Below.refl _ _).alloc (Nat.le_refl _) _
 have hCm5 := (hCx4).to hq
 have hTm5 := (hTx4).to hq
 have hmm5 : Sy m5 x4.heap.size (some ⟨x4.heap.size, 0, none⟩) (16) ((lz 16)) := by rw [hym5]; rw [← HCZ.out]; exact sy_lit x4 (lz 16) _ rfl
 have hBm5 := hBx4.trans (hq.mono hBx4.size)
 clear hq hCx4 hTx4 hBx4 
 go_wp2_with (refine wpList_build_by rfl _ _ rfl [] rfl _ (n0.out _) ?_)
 rw [← hym5]
 clear hym5
 try simp only [Nat.add_assoc, Nat.reduceAdd]
 obtain ⟨gm, hgm⟩ : ∃ g : Nat, x4.heap.size = g := ⟨_, rfl⟩
 rw [hgm] at hmm5
 try rw [hgm]
 clear hsm5 hgm
 clear hmk HCZ
 refine (oopen (some ⟨gT, 0, none⟩) zF s (fun _ => 0) a none 0 0 [] (some ⟨gm, 0, none⟩) 16 16 (lz 16) [] 3 _ zF_lt HS0.out zF12 HA.out (sl_nil _ _) (Nat.le_refl _) (by omega) hmm5.sl (Nat.le_refl _) (by omega) (open16 HS0.out HA.out) (opL_no (by rw [(open16 HS0.out HA.out)]; decide)) (wtabo gT gC zF s _ HS0.out (hTm5) (hCm5)) (HX.out.keep hBm5)).mono ?_
 rintro e x6 ⟨A3, c3, rfl, _, _, hq⟩
 rw [errV3]
 have hCx6 := (hCm5).to hq
 have hTx6 := (hTm5).to hq
 have hmx6 := (hmm5).to hq
 have hBx6 := hBm5.trans (hq.mono hBm5.size)
 clear hq hCm5 hTm5 hmm5 hBm5
 clear hmx6
 obtain ⟨m7, hym7⟩ : ∃ V : World, V = x6.alloc (.cells #[.int .u8 1] 5) := ⟨_, rfl⟩
 have hsm7 : m7.heap.size = x6.heap.size + 1 := by rw [hym7]; simp
 have hq : Below x6.heap.size x6 m7 := by rw [hym7]; exact (Below.refl _ _).alloc (Nat.le_refl _) _
 have hCm7 := (hCx6).to hq
 have hTm7 := (hTx6).to hq
 have hdm7 : Sy m7 x6.heap.size (some ⟨x6.heap.size, 0, none⟩) (1) ([1]) := by rw [hym7]; exact sy_lit x6 [1] _ rfl
 have hBm7 := hBx6.trans (hq.mono hBx6.size)
 clear hq hCx6 hTx6 hBx6 
 obtain ⟨m8, hym8⟩ : ∃ V : World, V = m7.alloc (.cells #[.int .u8 1] 5) := ⟨_, rfl⟩
 have hsm8 : m8.heap.size = x6.heap.size + 2 := by rw [hym8]; simp [hsm7]
 have hq : Below m7.heap.size m7 m8 := by rw [hym8]; exact (Below.refl _ _).alloc (Nat.le_refl _) _
 have hCm8 := (hCm7).to hq
 have hTm8 := (hTm7).to hq
 have hdm8 : Sy m8 x6.heap.size (some ⟨x6.heap.size, 0, none⟩) (1) ([1]) := hdm7.to hq
 have hem8 : Sy m8 (x6.heap.size + 1) (some ⟨(x6.heap.size + 1), 0, none⟩) (1) ([1]) := by rw [hym8, ← hsm7]; exact sy_lit m7 [1] _ rfl
 have hBm8 := hBm7.trans (hq.mono hBm7.size)
 clear hq hCm7 hTm7 hBm7 hdm7
 obtain ⟨m9, hym9⟩ : ∃ V : World, V = m8.alloc (.cells #[.int .u8 7, .int .u8 8] 5) := ⟨_, rfl⟩
 have hsm9 : m9.heap.size = x6.heap.size + 3 := by rw [hym9]; simp [hsm8]
 have hq : Below m8.heap.size m8 m9 := by rw [hym9]; exact (Below.refl _ _).alloc (Nat.le_refl _) _
 have hCm9 := (hCm8).to hq
 have hTm9 := (hTm8).to hq
 have hdm9 : Sy m9 x6.heap.size (some ⟨x6.heap.size, 0, none⟩) (1) ([1]) := hdm8.to hq
 have hem9 : Sy m9 (x6.heap.size + 1) (some ⟨(x6.heap.size + 1), 0, none⟩) (1) ([1]) := hem8.to hq
 have hpm9 : Sy m9 (x6.heap.size + 2) (some ⟨(x6.heap.size + 2), 0, none⟩) (2) ([7, 8]) := by rw [hym9, ← hsm8]; exact sy_lit m8 [7, 8] _ rfl
 have hBm9 := hBm8.trans (hq.mono hBm8.size)
 clear hq hCm8 hTm8 hBm8 hdm8 hem8
 go_wp2_with (refine wpList_build_by rfl _ _ rfl [] rfl _ (n0.out _) ?_)
 rw [← hym7, ← hym8, ← hym9]
 clear hym7 hym8 hym9
 try simp only [Nat.add_assoc, Nat.reduceAdd]
 obtain ⟨gd, hgd⟩ : ∃ g : Nat, x6.heap.size = g := ⟨_, rfl⟩
 rw [hgd] at hdm9
 obtain ⟨ge, hge⟩ : ∃ g : Nat, x6.heap.size + 1 = g := ⟨_, rfl⟩
 rw [hge] at hem9
 obtain ⟨gp, hgp⟩ : ∃ g : Nat, x6.heap.size + 2 = g := ⟨_, rfl⟩
 rw [hgp] at hpm9
 try rw [hgp]
 try rw [hge]
 try rw [hgd]
 clear hsm7 hsm8 hsm9 hgd hge hgp
 refine (sseal (some ⟨gT, 0, none⟩) zF s (fun _ => 0) a (some ⟨ge, 0, none⟩) 1 1 [1] (some ⟨gp, 0, none⟩) 2 2 [7, 8] _ zF_lt HS0.out zF12 HA.out hem9.sl (Nat.le_refl _) (by omega) hpm9.sl (Nat.le_refl _) (by omega) (wtabs gT gC zF s _ HS0.out (hTm9) (hCm9)) (HX.out.keep hBm9)).mono ?_
 rintro e x10 ⟨A5, c5, rfl, hu0, hcu, hq⟩
 obtain ⟨gu, hgu⟩ : ∃ g, x10.heap.size - 1 = g := ⟨_, rfl⟩
 have hux10 : Sy x10 gu A5 (18) (seL zF s a [7, 8] (tgF zF s (csF [7, 8]) (ofF s a 2) [1])) := by rw [← hgu]; exact Sy.new hu0 (Nat.lt_of_lt_of_le (Nat.zero_lt_of_lt (hCm9.lt)) hq.size)
 clear hu0 hgu
 have HCU := Lib.hid (show 18 ≤ c5 from hcu)
 clear hcu
 have hCx10 := (hCm9).to hq
 have hTx10 := (hTm9).to hq
 have hdx10 := (hdm9).to hq
 have hex10 := (hem9).to hq
 have hpx10 := (hpm9).to hq
 have hBx10 := hBm9.trans (hq.mono hBm9.size)
 clear hq hCm9 hTm9 hdm9 hem9 hpm9 hBm9
 have HOP := Lib.hid (op_se (d := [1]) zF_lt HSL.out HAB.out [7, 8])
 rw [len2] at HOP
 obtain ⟨U, hU⟩ : ∃ U, seL zF s a [7, 8] (tgF zF s (csF [7, 8]) (ofF s a 2) [1]) = U := ⟨_, rfl⟩
 rw [hU] at hux10 HOP
 clear hU
 clear hex10 hpx10
 go_wp2_with fail
 refine (oopen (some ⟨gT, 0, none⟩) zF s (fun _ => 0) a (some ⟨gd, 0, none⟩) 1 1 [1] A5 18 c5 U [7, 8] 0 _ zF_lt HS0.out zF12 HA.out hdx10.sl (Nat.le_refl _) (by omega) hux10.sl HCU.out (by omega) HOP.out.1 HOP.out.2 (wtabo gT gC zF s _ HS0.out (hTx10) (hCx10)) (HX.out.keep hBx10)).mono ?_
 rintro e x11 ⟨A6, c6, rfl, hv0, _, hq⟩
 rw [errV0, len2]
 rw [len2] at hv0
 obtain ⟨gv, hgv⟩ : ∃ g, x11.heap.size - 1 = g := ⟨_, rfl⟩
 have hvx11 : Sy x11 gv A6 (2) ([7, 8]) := by rw [← hgv]; exact Sy.new hv0 (Nat.lt_of_lt_of_le (Nat.zero_lt_of_lt (hCx10.lt)) hq.size)
 clear hv0 hgv
 have hCx11 := (hCx10).to hq
 have hTx11 := (hTx10).to hq
 have hdx11 := (hdx10).to hq
 have hux11 := (hux10).to hq
 have hBx11 := hBx10.trans (hq.mono hBx10.size)
 clear hq hCx10 hTx10 hdx10 hux10 hBx10
 clear hdx11 hux11
 have hq1 := eqCode1
 have hq3 := eqCode3
 obtain ⟨m12, hym12⟩ : ∃ V : World, V = x11.alloc (.cells #[.int .u8 7, .int .u8 8] 5) := ⟨_, rfl⟩
 have hsm12 : m12.heap.size = x11.heap.size + 1 := by rw [hym12]; simp
 have hq : Below x11.heap.size x11 m12 := by rw [hym12]; exact (Below.refl _ _).alloc (Nat.le_refl _) _
 have hCm12 := (hCx11).to hq
 have hTm12 := (hTx11).to hq
 have hvm12 := (hvx11).to hq
 have hpm12 : Sy m12 x11.heap.size (some ⟨x11.heap.size, 0, none⟩) (2) ([7, 8]) := by rw [hym12]; exact sy_lit x11 [7, 8] _ rfl
 have hBm12 := hBx11.trans (hq.mono hBx11.size)
 clear hq hCx11 hTx11 hvx11 hBx11 
 go_wp2_with fail
 rw [← hym12]
 clear hym12
 try simp only [Nat.add_assoc, Nat.reduceAdd]
 obtain ⟨gp, hgp⟩ : ∃ g : Nat, x11.heap.size = g := ⟨_, rfl⟩
 rw [hgp] at hpm12
 try rw [hgp]
 clear hsm12 hgp
 refine (same_true A6 (some ⟨gp, 0, none⟩) 2 c6 2 [7, 8] _ hvm12.sl hpm12.sl (by omega)).mono ?_
 rintro e x13 ⟨rfl, hq⟩
 have hCx13 := (hCm12).to hq
 have hTx13 := (hTm12).to hq
 have hvx13 := (hvm12).to hq
 have hpx13 := (hpm12).to hq
 have hBx13 := hBm12.trans (hq.mono hBm12.size)
 clear hq hCm12 hTm12 hvm12 hpm12 hBm12
 go_wp2_with fail
 go_ret
 exact ⟨rfl, hBx13⟩
end Go.Proofs.YthfnpjjckpnfbaaGreatDoor
