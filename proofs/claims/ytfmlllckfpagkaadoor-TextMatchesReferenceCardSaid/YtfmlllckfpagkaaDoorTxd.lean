/-
  Contract of Parse of the reference package of layer 14, by a walk through its text; what was there stays as it was.
-/
import Derived.Test.YtfmlllckfpagkaaDoorTxc
namespace Go.Proofs.YtfmlllckfpagkaaDoor
open Go.RowKit
set_option linter.unusedVariables false
set_option maxRecDepth 100000

theorem results_ctt {P : Program} {fn : Func} {T : Array Value} {w : World} {p q r : Tmp} {ty e : TypeId} {v u : Value} {g n m : Nat} {f : Nat → Nat} (hr : fn.results = #[.cell p ty, .tmp q, .tmp r]) (hp : T.getD p undef = .pointer (some ⟨g, 0, none⟩)) (hq : T.getD q undef = v) (hq2 : T.getD r undef = u)
    (hA : Ar w g n f) (hu : P.underlying ty = some (.array m e)) (hi : (P.info? ty).map (·.size) = some (arL n f).length) :
    (results fn T).run P w = .ok (.tuple #[.agg (arL n f).toArray, v, u]) w := by
  have hp' : T[p]?.getD undef = .pointer (some ⟨g, 0, none⟩) := by simpa using hp
  have hq' : T[q]?.getD undef = v := by simpa using hq
  have hq2' : T[r]?.getD undef = u := by simpa using hq2
  simp only [results, hr]
  simp [hp', hq', hq2', asAddr, run_loadVar_mid (P := P) w g 0 ty (arL n f) _ hA.range hu rfl hi]
theorem pa_len {s : List UInt8} {n : Nat} (hn : s.length = n) (h : n ≠ 22) : paC s = (4, n) := by unfold paC; rw [hn, if_pos h]
theorem bad_at {s : List UInt8} {k : Nat} (h2 : valF s k < 0) : ∀ n i, i ≤ k → k < i + n → (∀ j, i ≤ j → j < k → 0 ≤ valF s j) → badF s i n = some k
  | 0, i, h, h3, _ => by omega
  | n + 1, i, h, h3, hj => by
    unfold badF
    by_cases e : i = k
    · subst e; rw [if_pos h2]
    · rw [if_neg (by have := hj i (Nat.le_refl _) (by omega); omega)]
      exact bad_at h2 n (i + 1) (by omega) (by omega) (fun j h4 h5 => hj j (by omega) h5)
theorem bad_none {s : List UInt8} : ∀ n i, (∀ j, i ≤ j → j < i + n → 0 ≤ valF s j) → badF s i n = none
  | 0, i, _ => rfl
  | n + 1, i, hj => by
    unfold badF
    rw [if_neg (by have := hj i (Nat.le_refl _) (by omega); omega)]
    exact bad_none n (i + 1) (fun j h1 h2 => hj j (by omega) (by omega))
theorem pa_bad {s : List UInt8} {k : Nat} (hn : s.length = 22) (hk : k < 22) (h2 : valF s k < 0) (hj : ∀ j, j < k → 0 ≤ valF s j) : paC s = (11, k) := by
  unfold paC
  rw [if_neg (by omega), bad_at h2 22 0 (by omega) (by omega) (fun j _ h => hj j h)]
theorem pa_last {s : List UInt8} (hn : s.length = 22) (hj : ∀ j, j < 22 → 0 ≤ valF s j) (h : (valF s 21).toNat % 16 ≠ 0) : paC s = (11, 21) := by
  unfold paC
  rw [if_neg (by omega), bad_none 22 0 (fun j _ h => hj j (by omega)), if_pos h]
theorem pa_ok {s : List UInt8} (hn : s.length = 22) (hj : ∀ j, j < 22 → 0 ≤ valF s j) (h : (valF s 21).toNat % 16 = 0) : paC s = (0, 0) := by
  unfold paC
  rw [if_neg (by omega), bad_none 22 0 (fun j _ h => hj j (by omega)), if_neg (by omega)]
theorem paK_no {s : List UInt8} (h : (paC s).1 ≠ 0) : paK s = fun _ => 0 := by unfold paK; rw [if_neg h]
theorem paK_ok {s : List UInt8} (h : paC s = (0, 0)) : paK s = kyF fun i => (valF s i).toNat := by unfold paK; rw [if_pos (by rw [h])]
theorem val_lt (s : List UInt8) (i : Nat) : -1 ≤ valF s i ∧ valF s i < 64 := tv_range _ (lF_lt s i)
/-- The value of a byte as a number. -/
def vaN (s : List UInt8) (i : Nat) : Nat := (valF s i).toNat
theorem vaN_lt (s : List UInt8) (i : Nat) : vaN s i < 64 := by have := val_lt s i; unfold vaN; omega
theorem low4 : ∀ x, x < 64 → (x % 16 ≠ 0 ↔ ∃ t, 2 ≤ t ∧ t < 6 ∧ x / 2 ^ (5 - t) % 2 = 1) := by
  intro x hx
  constructor
  · intro h
    by_cases h3 : x / 2 ^ (5 - 2) % 2 = 1
    · exact ⟨2, by omega, by omega, h3⟩
    · by_cases h2 : x / 2 ^ (5 - 3) % 2 = 1
      · exact ⟨3, by omega, by omega, h2⟩
      · by_cases h1 : x / 2 ^ (5 - 4) % 2 = 1
        · exact ⟨4, by omega, by omega, h1⟩
        · refine ⟨5, by omega, by omega, ?_⟩
          simp at h1 h2 h3 ⊢
          omega
  · rintro ⟨t, h1, h2, h3⟩
    rcases (show t = 2 ∨ t = 3 ∨ t = 4 ∨ t = 5 by omega) with rfl | rfl | rfl | rfl <;> simp at h3 <;> omega
theorem vb_last (s : List UInt8) (i : Nat) (h1 : 128 ≤ i) (h2 : i < 132) : vbF (vaN s) i = vaN s 21 / 2 ^ (5 - (i - 126)) % 2 := by
  unfold vbF
  rw [show i / 6 = 21 by omega, show i % 6 = i - 126 by omega]
theorem sfacts14 {v t p q : Nat} (hv : v < 64) (hp : v / 2 ^ t = p) (hq : p % 2 = q) (ht : t < 6) :
    (IntKind.u64.wrap (v : Int) = (v : Int) ∧ IntKind.u64.wrap (t : Int) = (t : Int)) ∧ ((v : Int) / 2 ^ t = (p : Int) ∧ IntKind.i64.wrap (p : Int) = (p : Int)) ∧ (p : Int).tmod 2 = (q : Int) ∧ (p : Int) % 2 = (q : Int) := by
  have h1 : p ≤ v := by rw [← hp]; exact Nat.div_le_self _ _
  refine ⟨⟨wraps_u64' _ (by omega) (by omega), wraps_u64' _ (by omega) (by omega)⟩, ⟨?_, wraps_i64' _ (by omega) (by omega)⟩, ?_, by omega⟩
  · rw [← hp, Int.natCast_ediv, Int.natCast_pow]; rfl
  · rw [Int.tmod_eq_emod_of_nonneg (by omega)]; omega
theorem run_zero16t (w : World) : (Instr.build 22 #[]).run Tryd.prog w = .ok (.agg (arL 16 fun _ => 0).toArray) w := run_build w _ _ _ (by kernel_rfl)
theorem own_capI {w : World} {b n c : Nat} {A : Option Addr} {l : Nat → Nat} (h : OwI w b (.slice A n c) n l) : n ≤ c := by
  rcases h.2 with ⟨h1, rfl⟩ | ⟨g, cap, cur, h1, _, _, h2, _⟩
  · exact Nat.zero_le _
  · injection h1 with _ _ h3
    rw [h3]; exact h2
theorem own_to2 {W W' : World} {b : Nat} {v : Value} {n : Nat} {l : Nat → Nat} (h : OwI W b v n l) (hb : Below W.heap.size W W') : OwI W' b v n l := by
  refine ⟨h.1, ?_⟩
  rcases h.2 with h1 | ⟨g, cap, cur, rfl, h2, h3, h4⟩
  · exact .inl h1
  · exact .inr ⟨g, cap, cur, rfl, h2, (hb.block g (Array.getElem?_eq_some_iff.1 h3).1).trans h3, h4⟩
set_option maxHeartbeats 4000000 in
theorem rparse (s : List UInt8) (w : World) (hs : s.length ≤ 1000000) : Calls Tryd.prog 11 #[.string (stB s)] w fun e w' => e = .returned (.tuple #[.agg (arL 16 (paK s)).toArray, .int .i64 ((paC s).1 : Nat), .int .i64 ((paC s).2 : Nat)]) ∧ Below w.heap.size w w' := by
  have hz := zero16x
  have z0 := run_zero16t
  obtain ⟨i0, hi0, hz0, hz1, hz2⟩ := info_parts infoI
  have HI0 := Lib.hid hi0
  have HZ0 := Lib.hid hz0
  have HZ1 := Lib.hid hz1
  have HZ2 := Lib.hid hz2
  clear hi0 hz0 hz1 hz2
  obtain ⟨w1, hw1⟩ : ∃ V : World, V = w.alloc (.cells (arL 16 fun _ => 0).toArray 22) := ⟨_, rfl⟩
  have hb1 : Below w.heap.size w w1 := by rw [hw1]; exact (Below.refl _ _).alloc (Nat.le_refl _) _
  have hR1 : Ar w1 w.heap.size 16 (fun _ => 0) := by rw [hw1]; exact Ar.new w 16 _ _
  have hl1 := hR1.lt (by omega)
  obtain ⟨S, hS⟩ : ∃ S, stB s = S := ⟨_, rfl⟩
  have hidx := Lib.hid (fun i (h : i < s.length) V => run_idx s i h V)
  have hsz : S.size = s.length := by rw [← hS]; exact stB_size s
  obtain ⟨n, hn⟩ : ∃ n, s.length = n := ⟨_, rfl⟩
  rw [hn] at hsz hs hidx
  rw [hS] at hidx
  rw [hS]
  clear hS
  go_enter Tryd.func11, Tryd.ntmps11
  go_upto_region 1 with fail
  rw [← hw1]
  clear hw1
  by_cases hn22 : n = 22
  · subst hn22
    have HN := Lib.hid hn
    have HB1 := Lib.hid hb1
    have HL1 := Lib.hid hl1
    obtain ⟨b0, hb0⟩ : ∃ b, w1.heap.size = b := ⟨_, rfl⟩
    have HB0 := Lib.hid hb0
    have HLB := Lib.hid (show w.heap.size < b0 by rw [← hb0]; exact hl1)
    clear hn hb1 hl1 hb0 hs
    go_wp2_with fail
    go_loopw [5, 6] (fun v i wr => ∃ (k : Nat) (A : Option Addr) (c : Nat), k ≤ 22 ∧ i = .int .i64 k ∧ v = .slice A (6 * k) c ∧ OwI wr b0 (.slice A (6 * k) c) (6 * k) (vbF (vaN s)) ∧ (∀ j, j < k → 0 ≤ valF s j) ∧ Below b0 w1 wr) (fun _ i _ => 22 - (intOf i).toNat)
    case atStart => exact ⟨0, none, 0, by omega, rfl, rfl, World.ownsRow_nil _ _ _ _, fun j hj => by omega, Below.refl _ _⟩
    case round =>
      obtain ⟨k, A, c, hk, rfl, rfl, hO, hj, hB⟩ := hrel
      have HJ := Lib.hid hj
      clear hj
      have hRr := hR1.keep HLB.out hB
      by_cases hlt : k < 22
      · have i1 : (k : Int) < 22 := by omega
        have hix := hidx.out k hlt
        have HK := Lib.hid hlt
        have HVL := Lib.hid (val_lt s k)
        obtain ⟨z, hz9⟩ : ∃ z, valF s k = z := ⟨_, rfl⟩
        have HZ := Lib.hid hz9
        rw [hz9] at HVL
        clear hk hlt hz9
        go_wp2_with fail
        refine (rval (lF s k) wr (lF_lt s k)).mono ?_
        rintro e w4 ⟨rfl, hq⟩
        rw [show tvI (lF s k) = z from HZ.out]
        have hsz4 := hB.size
        have hO4 : OwI w4 b0 (.slice A (6 * k) c) (6 * k) (vbF (vaN s)) := own_to2 hO hq
        have hR4 := hRr.to (by omega) hq
        have hB4 := hB.trans (hq.mono (by have := HB0.out; omega))
        clear hix hq hO hRr hB hsz4
        by_cases hneg : z < 0
        · have HPA := Lib.hid (pa_bad HN.out HK.out (by rw [HZ.out]; exact hneg) HJ.out)
          go_wp2_with (first | (refine wpList_build_by rfl _ _ rfl [] rfl _ (z0 _) ?_) | (refine wpList_store_ar rfl _ _ _ rfl _ _ _ (fun _ => 0) rfl rfl hR4 (size16x _) ?_; intro w8 hA8 hb8 _ _))
          refine bodyPost_ret (results_ctt rfl rfl rfl rfl hA8 Tryd.arr16x (size16x _)) rfl ⟨by rw [paK_no (by rw [HPA.out]; simp; try omega), HPA.out]; rfl, ?_⟩
          exact (HB1.out.trans (hB4.mono (Nat.le_of_lt HLB.out))).trans (hb8.mono (Nat.le_refl _))
        · have i0 : ¬ z < 0 := hneg
          obtain ⟨v, hv⟩ : ∃ v : Nat, z = (v : Int) := ⟨z.toNat, by omega⟩
          subst hv
          have HV := Lib.hid (show vaN s k = v by unfold vaN; rw [HZ.out]; rfl)
          have hv64 : v < 64 := by have := HVL.out; omega
          have HV64 := Lib.hid hv64
          clear hneg i0 hv64
          have i0 : ¬ ((v : Nat) : Int) < 0 := by omega
          go_wp2_with fail
          clear i0
          obtain ⟨wo, rfl⟩ : ∃ wo : World, wo = w4 := ⟨_, rfl⟩
          go_loopw [5, 8] (fun x j wr => ∃ (m : Nat) (A : Option Addr) (c : Nat), m ≤ 6 ∧ j = .int .i64 ((m : Int) - 1) ∧ x = .slice A (6 * k + (6 - m)) c ∧ OwI wr b0 (.slice A (6 * k + (6 - m)) c) (6 * k + (6 - m)) (vbF (vaN s)) ∧ Below b0 w1 wr) (fun _ j _ => (intOf j + 1).toNat)
          case atStart => exact ⟨6, A, c, by omega, rfl, rfl, hO4, hB4⟩
          case round =>
            clear hO4 hB4 hR4
            obtain ⟨m, A, c, hm, rfl, rfl, hO, hB⟩ := hrel
            by_cases hm0 : 0 < m
            · obtain ⟨t, rfl⟩ : ∃ t, m = t + 1 := ⟨m - 1, by omega⟩
              have es : ((t + 1 : Nat) : Int) - 1 = (t : Int) := by omega
              rw [es]
              have i2 : (0 : Int) ≤ (t : Int) := by omega
              have i3 : (t : Int) < 6 := by omega
              obtain ⟨p, hp⟩ : ∃ p : Nat, v / 2 ^ t = p := ⟨_, rfl⟩
              obtain ⟨q, hq⟩ : ∃ q : Nat, p % 2 = q := ⟨_, rfl⟩
              obtain ⟨⟨x1, x2⟩, ⟨x3, x4⟩, x5, x6⟩ := sfacts14 HV64.out hp hq (by omega)
              obtain ⟨M, hM⟩ : ∃ M : Nat, 6 * k + (6 - (t + 1)) = M := ⟨_, rfl⟩
              rw [hM] at hO ⊢
              have hbit := Lib.hid (show vbF (vaN s) M = q by unfold vbF; rw [← hM, show (6 * k + (6 - (t + 1))) / 6 = k by omega, show (6 * k + (6 - (t + 1))) % 6 = 5 - t by omega, show 5 - (5 - t) = t by omega, HV.out, hp, hq])
              have HM := Lib.hid hM
              have HM2 := Lib.hid (show M < 1000 by have := HK.out; omega)
              have HB := Lib.hid hB
              have hsz2 := Lib.hid (show b0 ≤ wr.heap.size by have := hB.size; have := HB0.out; omega)
              clear hM hp hq hB hm0
              go_wp2_with (at_builtin
                           refine wpList_append_own _ rfl _ _ 45 rfl b0 3 i0 (.int .i64 0) 1 8 Tryd.underlying45 HI0.out HZ0.out HZ1.out HZ2.out rfl (by decide) _ _ _ rfl (hO.alloc _) ⟨wr.heap.size, 0, none⟩ 1 1 [.int .i64 (q : Nat)] rfl rfl ?c1 ?c2 ?c3 ?c4 ?c5 ?_)
              case c1 =>
                intro j u hj
                match j, hj with
                | 0, hj => simp at hj; subst hj; simp [Addr.add]
              case c2 => first | rfl | (intro u hu; simp at hu; subst hu; rfl)
              case c3 => have := HM2.out; unfold maxLen; omega
              case c4 => have := HM2.out; omega
              case c5 => have := hsz2.out; simp; omega
              intro v2 w2 hown2 hgrow _
              obtain ⟨A2, c2, rfl⟩ := own_shape hown2
              have hO2 : OwI w2 b0 (.slice A2 (M + 1) c2) (M + 1) (vbF (vaN s)) := by unfold OwI; rw [inL_snoc, hbit.out]; exact hown2
              have hB2 : Below b0 w1 w2 := (HB.out.alloc hsz2.out _).grown hgrow (by have := hsz2.out; simp; omega) (fun g0 hg0 => own_block hO hg0)
              have eM : M + 1 = 6 * k + (6 - t) := by have := HM.out; omega
              rw [eM] at hO2 ⊢
              clear hO hown2 hgrow x1 x2 x3 x4 x5 x6
              go_wp2_with fail
              go_roundw
              case rel => exact ⟨t, A2, c2, by omega, by first | rfl | (go_num), rfl, hO2, hB2⟩
              case measure => simp [intOf]
            · obtain rfl : m = 0 := by omega
              clear hm hm0
              go_wp2_with fail
              go_roundw
              case rel => exact ⟨k + 1, A, c, by have := HK.out; omega, by go_num, rfl, hO, fun j hj => by
                rcases Nat.lt_or_ge j k with h | h
                · exact HJ.out j h
                · obtain rfl : j = k := by omega
                  rw [HZ.out]; omega, hB⟩
              case measure => simp [intOf]; have := HK.out; omega
      · have ek : k = 22 := by omega
        subst ek
        have i1 : ¬ (22 : Int) < 22 := by omega
        clear hk hlt
        have hcells := Lib.hid (fun j (hj : j < 132) => hO.cell j hj)
        have HCC := Lib.hid (show 128 ≤ c by have := own_capI hO; omega)
        obtain ⟨gL, hgA, hgL1, hgL2, _⟩ := hO.cell 0 (by omega)
        subst hgA
        have HCL := Lib.hid (show ∀ j, j < 132 → wr.cell? ⟨gL, j, none⟩ = some (.int .i64 (vbF (vaN s) j : Nat)) from fun j hj => by
          obtain ⟨g, e, _, _, h⟩ := hcells.out j hj
          injection e with e
          injection e with e
          subst e
          exact h)
        have HBW := Lib.hid (HB1.out.trans (hB.mono (Nat.le_of_lt HLB.out)))
        have HLL := Lib.hid hgL2
        clear hcells hO hgL1 hB hgL2
        go_wp2_with fail
        obtain ⟨wo, rfl⟩ : ∃ wo : World, wo = wr := ⟨_, rfl⟩
        go_loopw [9] (fun i wr => ∃ m : Nat, 128 ≤ m ∧ m ≤ 132 ∧ i = .int .i64 m ∧ (∀ j, 128 ≤ j → j < m → vbF (vaN s) j ≠ 1) ∧ wr = wo) (fun i _ => 132 - (intOf i).toNat)
        case atStart => exact ⟨128, by omega, by omega, rfl, fun j h1 h2 => by omega, rfl⟩
        case round =>
          obtain ⟨m, hm1, hm2, rfl, hno, hww⟩ := hrel
          have HNO := Lib.hid hno
          clear hno
          rw [hww]
          clear hww
          by_cases hm : m < 132
          · have i2 : (m : Int) < 132 := by omega
            have c0 := HCL.out m hm
            have HM := Lib.hid hm
            have HM1 := Lib.hid hm1
            have HVB := Lib.hid (vb_last s m hm1 hm)
            obtain ⟨y, hy⟩ : ∃ y, vbF (vaN s) m = y := ⟨_, rfl⟩
            rw [hy] at c0 HVB
            have HY := Lib.hid hy
            clear hy hm2
            by_cases hy1 : y = 1
            · subst hy1
              have HPA := Lib.hid (pa_last HN.out HJ.out ((low4 (vaN s 21) (vaN_lt s 21)).2 ⟨m - 126, by omega, by omega, HVB.out.symm⟩))
              clear hm hm1
              go_wp2_with (first | (refine wpList_build_by rfl _ _ rfl [] rfl _ (z0 _) ?_) | (refine wpList_store_ar rfl _ _ _ rfl _ _ _ (fun _ => 0) rfl rfl hRr (size16x _) ?_; intro w8 hA8 hb8 _ _))
              refine bodyPost_ret (results_ctt rfl rfl rfl rfl hA8 Tryd.arr16x (size16x _)) rfl ⟨by rw [paK_no (by rw [HPA.out]; simp; try omega), HPA.out]; rfl, ?_⟩
              exact HBW.out.trans (hb8.mono (Nat.le_refl _))
            · have hne : ¬ (y : Int) = 1 := by omega
              have HE := Lib.hid hy1
              clear hy1 hm hm1
              go_wp2_with fail
              go_roundw
              case rel => exact ⟨m + 1, by have := HM1.out; omega, by have := HM.out; omega, by go_num, fun j h1 h2 => by
                rcases Nat.lt_or_ge j m with h | h
                · exact HNO.out j h1 h
                · obtain rfl : j = m := by omega
                  rw [HY.out]; exact HE.out, trivial⟩
              case measure => simp [intOf]; have := HM.out; omega
          · have em : m = 132 := by omega
            subst em
            have i2 : ¬ (132 : Int) < 132 := by omega
            clear hm hm1 hm2
            have HPA := Lib.hid (pa_ok HN.out HJ.out (Classical.byContradiction fun h => by
              obtain ⟨t, h1, h2, h3⟩ := (low4 (vaN s 21) (vaN_lt s 21)).1 h
              refine HNO.out (126 + t) (by omega) (by omega) ?_
              rw [vb_last s (126 + t) (by omega) (by omega), show 126 + t - 126 = t by omega]
              exact h3))
            have hcc := HCC.out
            go_wp2_with fail
            refine (refofb (vbF (vaN s)) gL 0 128 c wo (by omega) (fun k _ => vbF_lt _ k) (fun k hk => by rw [Nat.zero_add]; exact HCL.out k (by omega)) HLL.out).mono ?_
            rintro e w6 ⟨rfl, hq⟩
            have hR6 := hRr.to (by omega) hq
            go_wp2_with (refine wpList_store_ar rfl _ _ _ rfl _ _ _ (kyF (vaN s)) rfl rfl hR6 (size16x _) ?_; intro w8 hA8 hb8 _ _)
            refine bodyPost_ret (results_ctt rfl rfl rfl rfl hA8 Tryd.arr16x (size16x _)) rfl ⟨by rw [paK_ok HPA.out, HPA.out]; rfl, ?_⟩
            exact (HBW.out.trans (hq.mono HBW.out.size)).trans (hb8.mono (Nat.le_refl _))
  · have HPA := Lib.hid (pa_len hn hn22)
    have i1 : ¬ (n : Int) = 22 := by omega
    go_wp2_with (first | (refine wpList_build_by rfl _ _ rfl [] rfl _ (z0 _) ?_) | (refine wpList_store_ar rfl _ _ _ rfl _ _ _ (fun _ => 0) rfl rfl hR1 (size16x _) ?_; intro w8 hA8 hb8 _ _))
    refine bodyPost_ret (results_ctt rfl rfl rfl rfl hA8 Tryd.arr16x (size16x _)) rfl ⟨by rw [paK_no (by rw [HPA.out]; simp; try omega), HPA.out]; rfl, ?_⟩
    exact hb1.trans (hb8.mono (Nat.le_refl _))
end Go.Proofs.YtfmlllckfpagkaaDoor
