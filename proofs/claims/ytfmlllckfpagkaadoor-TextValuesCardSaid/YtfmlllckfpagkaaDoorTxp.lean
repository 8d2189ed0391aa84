/-
  Contract of Parse of package text, by a walk through its text; what was there stays as it was. Condition: the table holds what the program's text lays.
-/
import Derived.Test.YtfmlllckfpagkaaDoorTxn
import Derived.Test.YtfmlllckfpagkaaDoorTxo
namespace Go.Proofs.YtfmlllckfpagkaaDoor
open Go.RowKit
set_option linter.unusedVariables false
set_option maxRecDepth 100000

theorem results_ct {P : Program} {fn : Func} {T : Array Value} {w : World} {p q : Tmp} {ty e : TypeId} {v : Value} {g n m : Nat} {f : Nat → Nat} (hr : fn.results = #[.cell p ty, .tmp q]) (hp : T.getD p undef = .pointer (some ⟨g, 0, none⟩)) (hq : T.getD q undef = v)
    (hA : Ar w g n f) (hu : P.underlying ty = some (.array m e)) (hi : (P.info? ty).map (·.size) = some (arL n f).length) :
    (results fn T).run P w = .ok (.tuple #[.agg (arL n f).toArray, v]) w := by
  have hp' : T[p]?.getD undef = .pointer (some ⟨g, 0, none⟩) := by simpa using hp
  have hq' : T[q]?.getD undef = v := by simpa using hq
  simp only [results, hr]
  simp [hp', hq', asAddr, run_loadVar_mid (P := P) w g 0 ty (arL n f) _ hA.range hu rfl hi]
theorem wro_le (s : List UInt8) : wroN s ≤ 22 := by
  unfold wroN
  split
  · rename_i i h
    have := badF_some 22 0 h
    omega
  · split <;> omega
theorem pa_wro {s : List UInt8} (hn : s.length = 22) (h : wroN s < 22) : paC s = (11, wroN s) := by
  unfold wroN at h ⊢
  unfold paC
  rw [if_neg (by omega)]
  cases hb : badF s 0 22 with
  | some i => rfl
  | none =>
    rw [hb] at h
    dsimp only at h ⊢
    split
    · rfl
    · rw [if_neg (by assumption)] at h; omega
theorem wro_22 {s : List UInt8} (h : wroN s = 22) : (∀ j, j < 22 → 0 ≤ valF s j) ∧ (valF s 21).toNat % 16 = 0 := by
  unfold wroN at h
  cases hb : badF s 0 22 with
  | some i =>
    rw [hb] at h
    have := badF_some 22 0 hb
    dsimp only at h
    omega
  | none =>
    rw [hb] at h
    dsimp only at h
    refine ⟨fun j hj => badF_none 22 0 hb j (by omega) (by omega), ?_⟩
    by_cases h2 : (valF s 21).toNat % 16 = 0
    · exact h2
    · rw [if_pos h2] at h; omega
set_option maxHeartbeats 1600000 in
theorem tparse (s : List UInt8) (w : World) (hs : s.length ≤ 1000000) (hx : TxG w) : Calls Tryd.prog 9 #[.string (stB s)] w fun e w' => e = .returned (.tuple #[.agg (arL 16 (paK s)).toArray, fauV (paC s)]) ∧ Below w.heap.size w w' := by
  have hz := zero16x
  have z0 := run_zero16t
  have HX := Lib.hid hx
  obtain ⟨w1, hw1⟩ : ∃ V : World, V = w.alloc (.cells (arL 16 fun _ => 0).toArray 22) := ⟨_, rfl⟩
  have hb1 : Below w.heap.size w w1 := by rw [hw1]; exact (Below.refl _ _).alloc (Nat.le_refl _) _
  have hR1 : Ar w1 w.heap.size 16 (fun _ => 0) := by rw [hw1]; exact Ar.new w 16 _ _
  have HL1 := Lib.hid (hR1.lt (by omega))
  obtain ⟨S, hS⟩ : ∃ S, stB s = S := ⟨_, rfl⟩
  have HS := Lib.hid hS
  have hsz : S.size = s.length := by rw [← hS]; exact stB_size s
  rw [hS]
  clear hS hx
  by_cases hn : s.length = 22
  · rw [hn] at hsz
    have HN := Lib.hid hn
    have HTW := Lib.hid (fun V hV => twrong s V HN.out hV)
    rw [HS.out] at HTW
    have HTG := Lib.hid (fun hp V hV => tgath s V HN.out hp hV)
    rw [HS.out] at HTG
    clear hn hs
    go_enter Tryd.func9, Tryd.ntmps9
    go_upto_region 1 with fail
    rw [← hw1]
    clear hw1
    go_wp2_with fail
    refine (HTW.out w1 (HX.out.keep hb1)).mono ?_
    rintro e w2 ⟨rfl, hq⟩
    have hR2 := hR1.to (by omega) hq
    have hb2 := hb1.trans (hq.mono (Nat.le_of_lt HL1.out))
    have HLE := Lib.hid (wro_le s)
    have HPW := Lib.hid (pa_wro (s := s) HN.out)
    have HP2 := Lib.hid (wro_22 (s := s))
    obtain ⟨k, hk⟩ : ∃ k, wroN s = k := ⟨_, rfl⟩
    rw [hk] at HLE HPW HP2
    rw [hk]
    clear hk hq hR1 hb1
    by_cases hlt : k < 22
    · have i1 : (k : Int) < 22 := by omega
      have HPA := Lib.hid (HPW.out hlt)
      clear hlt
      go_wp2_with (first | (refine wpList_build_by rfl _ _ rfl [] rfl _ (z0 _) ?_) | (refine wpList_store_ar rfl _ _ _ rfl _ _ _ (fun _ => 0) rfl rfl hR2 (size16x _) ?_; intro w8 hA8 hb8 _ _))
      refine (new_ 11 k w2).mono ?_
      rintro e _ ⟨rfl, rfl⟩
      go_wp2_with (first | (refine wpList_build_by rfl _ _ rfl [] rfl _ (z0 _) ?_) | (refine wpList_store_ar rfl _ _ _ rfl _ _ _ (fun _ => 0) rfl rfl hR2 (size16x _) ?_; intro w8 hA8 hb8 _ _))
      refine bodyPost_ret (results_ct rfl rfl rfl hA8 Tryd.arr16x (size16x _)) rfl ⟨by rw [paK_no (by rw [HPA.out]; simp), HPA.out]; rfl, ?_⟩
      exact hb2.trans (hb8.mono (Nat.le_refl _))
    · obtain rfl : k = 22 := by have := HLE.out; omega
      have i1 : ¬ (22 : Int) < 22 := by omega
      have HPA := Lib.hid (pa_ok HN.out (HP2.out rfl).1 (HP2.out rfl).2)
      have HPP := Lib.hid (HP2.out rfl).1
      clear hlt
      go_wp2_with fail
      refine (HTG.out HPP.out w2 (HX.out.keep hb2)).mono ?_
      rintro e w3 ⟨rfl, hq⟩
      have hR3 := hR2.to (by omega) hq
      have hb3 := hb2.trans (hq.mono hb2.size)
      clear hR2 hb2 hq
      go_wp2_with (refine wpList_store_ar rfl _ _ _ rfl _ _ _ (kyF (vaN s)) rfl rfl hR3 (size16x _) ?_; intro w8 hA8 hb8 _ _)
      refine bodyPost_ret (results_ct rfl rfl rfl hA8 Tryd.arr16x (size16x _)) rfl ⟨by rw [paK_ok HPA.out, HPA.out]; rfl, ?_⟩
      exact hb3.trans (hb8.mono (Nat.le_refl _))
  · obtain ⟨n, hn9⟩ : ∃ n, s.length = n := ⟨_, rfl⟩
    rw [hn9] at hn hsz hs
    have HPA := Lib.hid (pa_len hn9 hn)
    have i1 : ¬ (n : Int) = 22 := by omega
    clear hn9 hn
    go_enter Tryd.func9, Tryd.ntmps9
    go_upto_region 1 with fail
    rw [← hw1]
    clear hw1
    go_wp2_with (first | (refine wpList_build_by rfl _ _ rfl [] rfl _ (z0 _) ?_) | (refine wpList_store_ar rfl _ _ _ rfl _ _ _ (fun _ => 0) rfl rfl hR1 (size16x _) ?_; intro w8 hA8 hb8 _ _))
    refine (new_ 4 n w1).mono ?_
    rintro e _ ⟨rfl, rfl⟩
    go_wp2_with (first | (refine wpList_build_by rfl _ _ rfl [] rfl _ (z0 _) ?_) | (refine wpList_store_ar rfl _ _ _ rfl _ _ _ (fun _ => 0) rfl rfl hR1 (size16x _) ?_; intro w8 hA8 hb8 _ _))
    refine bodyPost_ret (results_ct rfl rfl rfl hA8 Tryd.arr16x (size16x _)) rfl ⟨by rw [paK_no (by rw [HPA.out]; simp), HPA.out]; rfl, ?_⟩
    exact hb1.trans (hb8.mono (Nat.le_refl _))
end Go.Proofs.YtfmlllckfpagkaaDoor
