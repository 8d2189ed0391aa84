/-
  Slices of strings in memory; what a statement's frame tells of one that came in. The check of the examples of layer 21; the laws' function that asks whether strings are few; a list with two strings more. What was there stays as it was.
-/
import Derived.Test.YtfpniipbdkdhlaaPed
import Derived.Deep.Slices
import Derived.Lib.MinMax
namespace Go.Proofs.Ytfpniipbdkdhlaa
open Go.RowKit Go.MapKept
set_option linter.unusedVariables false
set_option linter.unusedSimpArgs false
set_option maxRecDepth 100000

theorem maxLen_eq : maxLen = 9223372036854775807 := by decide
/-- n strings as cells. -/
def stL (n : Nat) (F : Nat → ByteArray) : List Value := (List.range n).map fun j => .string (F j)
theorem stL_len (n : Nat) (F : Nat → ByteArray) : (stL n F).length = n := by simp [stL]
theorem stL_get (n : Nat) (F : Nat → ByteArray) (j : Nat) (h : j < n) : (stL n F)[j]? = some (.string (F j)) := by
  simp [stL, List.getElem?_map, List.getElem?_range h]
theorem stL_one (n : Nat) (F : Nat → ByteArray) : ∀ u ∈ stL n F, u.oneCell' = true := fun u hu => by
  obtain ⟨j, _, rfl⟩ := List.mem_map.1 hu
  rfl
/-- The n strings of a slice, whose block lies below B. -/
def Sts (w : World) (B : Nat) (A : Option Addr) (n : Nat) (F : Nat → ByteArray) : Prop :=
  ∀ j, j < n → ∃ g o, A = some ⟨g, o, none⟩ ∧ g < B ∧ w.cell? ⟨g, o + j, none⟩ = some (.string (F j))
section
variable {w w' : World} {B n b c : Nat} {A : Option Addr} {F : Nat → ByteArray} {e : TypeId}
theorem Sts.keep (h : Sts w B A n F) (hb : Below B w w') : Sts w' B A n F := fun j hj => by
  obtain ⟨g, o, e, hg, hc⟩ := h j hj
  exact ⟨g, o, e, hg, (hb.cell (p := ⟨g, o + j, none⟩) hg).trans hc⟩
theorem Sts.more (h : Sts w B A n F) {B' : Nat} (hB : B ≤ B') : Sts w B' A n F := fun j hj => by
  obtain ⟨g, o, e, hg, hc⟩ := h j hj
  exact ⟨g, o, e, Nat.lt_of_lt_of_le hg hB, hc⟩
theorem Sts.src (h : Sts w B A n F) (hn : 0 < n) : ∃ g o, A = some ⟨g, o, none⟩ ∧ ∀ j u, (stL n F)[j]? = some u → w.cell? ((⟨g, o, none⟩ : Addr).add j) = some u := by
  obtain ⟨g, o, rfl, hg, _⟩ := h 0 hn
  refine ⟨g, o, rfl, fun j u hu => ?_⟩
  have hj : j < n := by
    have := (List.getElem?_eq_some_iff.1 hu).1
    rw [stL_len] at this; exact this
  obtain ⟨g2, o2, e2, _, hc⟩ := h j hj
  injection e2 with e2
  injection e2 with e3 e4
  subst e3 e4
  rw [stL_get n F j hj] at hu
  rw [Addr.add_mid, hc, ← hu]
theorem Sts.of_own (h : w.ownsRow b e 1 (.slice A n c) n (stL n F)) : Sts w w.heap.size A n F := fun j hj => by
  obtain ⟨g, cap, hv, hg, hlt⟩ := World.ownsRow.form h (by omega)
  injection hv with e1 e2 e3
  subst e1
  refine ⟨g, 0, rfl, hlt, ?_⟩
  have hc := World.ownsRow.cells h (g := g) rfl j _ (stL_get n F j hj)
  have : (⟨g, 0, none⟩ : Addr).add j = ⟨g, 0 + j, none⟩ := by unfold Addr.add; split <;> simp_all
  rw [this] at hc
  exact hc
/-- What the frame of a statement tells of a slice of strings that came in. -/
theorem open_strings {H : Type} {enc : TypeId × Value → H} {P : Program} {W : World} {B : Nat} {sp : Nat → Bool} {held : Bool} {ty e : TypeId} {v : Value} {d : DataW H} {p : List MemPlace}
    (ht : P.underlying ty = some (.slice e)) (he : P.underlying e = some .string) (hc : P.cellsOf e = 1) (hv : v.cells = #[v]) (h : DataW.Trod enc P W B sp held ty v d p) :
    ∃ (A : Option Addr) (n c : Nat) (F : Nat → ByteArray), v = .slice A n c ∧ n ≤ c ∧ c ≤ maxLen ∧ (∀ i, (F i).size ≤ maxLen) ∧ Sts W W.heap.size A n F ∧ (d = .nil ∧ n = 0 ∨ ∃ l1 l2, d = .slice l1 l2 ∧ l1.length = n) := by
  obtain ⟨fuel, hf⟩ := h
  rw [hv] at hf
  rcases Go.Deep.open_slice ht hf with ⟨h1, hd⟩ | ⟨a, len, cap, m, k, D, Pl, h1, hb, hl, hm, hmm, hfu, hx⟩
  · simp at h1
    exact ⟨none, 0, 0, fun _ => ⟨#[]⟩, h1, Nat.le_refl _, Nat.zero_le _, fun _ => Nat.zero_le _, fun i hi => absurd hi (by omega), .inl ⟨by simp at hd; exact hd.1, rfl⟩⟩
  · simp at h1
    have hlm : len ≤ m := by rw [hmm]; split <;> omega
    have row : ∀ i, i < len → ∃ x : ByteArray, x.size ≤ maxLen ∧ W.cell? ((a.add (i * 1)).add 0) = some (.string x) := fun i hi => by
      obtain ⟨cs, hcs, ht2⟩ := hx i (by omega)
      rw [hc] at hcs
      obtain ⟨_, hcl, hcell⟩ := World.cells?_some hcs
      obtain ⟨s, es, _, hs⟩ := DataW.trod_string he ht2
      subst es
      exact ⟨s, hs, by simpa using hcell 0 (by omega)⟩
    let G : Nat → ByteArray := fun i => if hi : i < len then (row i hi).choose else ⟨#[]⟩
    have hG : ∀ i (hi : i < len), (G i).size ≤ maxLen ∧ W.cell? ((a.add (i * 1)).add 0) = some (.string (G i)) := fun i hi => by
      have e : G i = (row i hi).choose := dif_pos hi
      rw [e]; exact (row i hi).choose_spec
    have hN : ∀ i, ¬ i < len → G i = ⟨#[]⟩ := fun i hi => dif_neg hi
    refine ⟨some a, len, cap, G, h1, hl, hm, fun i => ?_, fun i hi => ?_, ?_⟩
    · by_cases h : i < len
      · exact (hG i h).1
      · rw [hN i h]; exact Nat.zero_le _
    · obtain ⟨b, o, spot⟩ := a
      obtain ⟨_, k0⟩ := hG i hi
      have hspot : spot = none := by simpa [Addr.add] using World.cell?_spot (hG 0 (by omega)).2
      subst hspot
      have hadd : (((⟨b, o, none⟩ : Addr).add (i * 1)).add 0) = ⟨b, o + i, none⟩ := by rw [Addr.add_mid, Addr.add_mid, Nat.mul_one, Nat.add_zero]
      rw [hadd] at k0
      refine ⟨b, o, rfl, ?_, k0⟩
      rcases Nat.lt_or_ge b W.heap.size with h3 | h3
      · exact h3
      · simp [World.cell?, Array.getElem?_eq_none h3] at k0
    · injection hfu with hf1 _
      exact .inr ⟨_, _, hf1, by simp⟩
/-- An answer that is true only for few. -/
def FewR (n : Nat) (e : Ending) : Prop := ∃ b, e = .returned (.bool b) ∧ (b = true → n ≤ 100)
end

set_option maxHeartbeats 1600000 in
theorem pfew (A : Option Addr) (n c : Nat) (F : Nat → ByteArray) (w : World) (h : Sts w w.heap.size A n F) (hn : n ≤ 9223372036854775807) :
    Calls Try.prog 8 #[.slice A n c] w fun e w' => FewR n e ∧ Below w.heap.size w w' := by
  go_enter Try.func8, Try.ntmps8
  go_wp2_with fail
  go_loopw [3, 4] (fun v i wr => ∃ k x : Nat, k ≤ n ∧ k ≤ 200 ∧ v = .int .i64 (x : Int) ∧ x ≤ k * 10000 ∧ i = .int .i64 (k : Int) ∧ Below w.heap.size w wr) (fun _ i _ => n - (intOf i).toNat)
  case atStart => exact ⟨0, 0, Nat.zero_le _, Nat.zero_le _, rfl, by omega, rfl, Below.refl _ _⟩
  case round =>
    obtain ⟨k, x, hk, hk2, rfl, hx, rfl, hB⟩ := hrel
    by_cases hlt : k < n
    · have i1 : (k : Int) < (n : Int) := by omega
      by_cases h2 : k < 200
      · have i2 : (k : Int) < 200 := by omega
        obtain ⟨g, o, rfl, hg, hcell⟩ := h k hlt
        have ce := (hB.cell (p := ⟨g, o + k, none⟩) hg).trans hcell
        obtain ⟨s, hs⟩ : ∃ s, F k = s := ⟨_, rfl⟩
        rw [hs] at ce
        clear hcell hs
        obtain ⟨y, hy⟩ : ∃ y, min s.size 10000 = y := ⟨_, rfl⟩
        have i3 : min (s.size : Int) 10000 = (y : Int) := by omega
        have hyl : y ≤ 10000 := by omega
        obtain ⟨z, hz⟩ : ∃ z, x + y = z := ⟨_, rfl⟩
        have i4 : (x : Int) + (y : Int) = (z : Int) := by omega
        have HZ := Lib.hid (show z ≤ (k + 1) * 10000 by omega)
        have HK := Lib.hid (And.intro hlt h2)
        have hzl : z ≤ 2010000 := by omega
        clear hy hz hx hk hk2 hlt h2 hyl
        go_wp2_with fail
        go_roundw
        case rel => exact ⟨k + 1, z, by have := HK.out; omega, by have := HK.out; omega, by go_num, HZ.out, by go_num, hB⟩
        case measure => have := HK.out; simp [intOf]; omega
      · have i2 : ¬ (k : Int) < 200 := by omega
        have i5 : ¬ (n : Int) ≤ 100 := by omega
        go_wp2_with fail
        go_ret
        exact ⟨⟨false, rfl, fun e => by cases e⟩, hB⟩
    · have i1 : ¬ (k : Int) < (n : Int) := by omega
      by_cases h3 : n ≤ 100
      · have i5 : (n : Int) ≤ 100 := by omega
        have H3 := Lib.hid h3
        clear hx hk hk2 hlt h3
        go_wp2_with fail
        go_ret
        exact ⟨⟨_, rfl, fun _ => H3.out⟩, hB⟩
      · have i5 : ¬ (n : Int) ≤ 100 := by omega
        clear hx hk hk2 hlt h3
        go_wp2_with fail
        go_ret
        exact ⟨⟨false, rfl, fun e => by cases e⟩, hB⟩

set_option maxHeartbeats 4000000 in
theorem pawake (w : World) :
    Calls Try.prog 7 #[] w fun e w' => e = .returned (.bool true) ∧ Below w.heap.size w w' := by
  have hBw : Below w.heap.size w w := Below.refl _ _
  go_enter Try.func7, Try.ntmps7
  go_wp2_with fail
  refine (pnew ⟨#[97, 58, 49]⟩ _).mono ?_
  rintro e x1 ⟨g, m, rfl, hlg, hlm, hpgx1, hq⟩
  have hBx1 := hBw.trans (hq.mono hBw.size)
  replace hlg : w.heap.size ≤ g := Nat.le_trans hBw.size hlg
  replace hlm : w.heap.size ≤ m := Nat.le_trans hBw.size hlm
  rw [show plA ⟨#[97, 58, 49]⟩ = ⟨#[97, 58, 49]⟩ from plA_ok (by decide +kernel)] at hpgx1
  clear hq hBw 
  go_wp2_with fail
  refine (pfixn ⟨#[97]⟩ _).mono ?_
  rintro e x2 ⟨gf, rfl, hlgf, hpgfx2, hq⟩
  have hpgx2 := (hpgx1).to hq
  have hBx2 := hBx1.trans (hq.mono hBx1.size)
  clear hpgfx2
  clear hq hBx1 hpgx1
  go_wp2_with fail
  refine (pmove_yes g m ⟨#[97, 58, 49]⟩ 0 0 (fun _ => 0) ⟨#[98, 58, 50]⟩ _ hpgx2 (by decide +kernel) (by decide) (by decide)).mono ?_
  rintro e x3 ⟨rfl, hpgx3, hq⟩
  have hBx3 := hBx2.trans (hq.tw hBx2.size (by omega) (by omega))
  clear hq hBx2 hpgx2
  go_wp2_with fail
  refine (pmove_same g m ⟨#[98, 58, 50]⟩ (0 + 1) (0 + 1) (upC (fun _ => 0) ⟨#[98, 58, 50]⟩) ⟨#[98, 58, 50]⟩ _ hpgx3 (by decide +kernel) rfl (by decide)).mono ?_
  rintro e x4 ⟨rfl, hpgx4, hq⟩
  have hBx4 := hBx3.trans (hq.tw hBx3.size (by omega) (by omega))
  clear hq hBx3 hpgx3
  go_wp2_with fail
  refine (paddr g m ⟨#[98, 58, 50]⟩ (0 + 1) (0 + 1 + 1) _ true _ hpgx4).mono ?_
  rintro e x5 ⟨rfl, hq⟩
  have hpgx5 := (hpgx4).to hq
  have hBx5 := hBx4.trans (hq.mono hBx4.size)
  clear hq hBx4 hpgx4
  rw [show emA ⟨#[98, 58, 50]⟩ = false by decide +kernel]
  go_wp2_with fail
  refine (pnew ⟨#[]⟩ _).mono ?_
  rintro e x6 ⟨g2, m2, rfl, hlg2, hlm2, hpg2x6, hq⟩
  have hpgx6 := (hpgx5).to hq
  have hBx6 := hBx5.trans (hq.mono hBx5.size)
  rw [show plA ⟨#[]⟩ = ⟨#[]⟩ from plA_no (by decide +kernel)] at hpg2x6
  have hp2 := hpg2x6
  clear hpg2x6 hlg2 hlm2
  clear hq hBx5 hpgx5
  go_wp2_with fail
  refine (paddr g2 m2 ⟨#[]⟩ 0 0 _ true _ hp2).mono ?_
  rintro e x7 ⟨rfl, hq⟩
  have hpgx7 := (hpgx6).to hq
  have hBx7 := hBx6.trans (hq.mono hBx6.size)
  clear hp2
  clear hq hBx6 hpgx6
  rw [show emA ⟨#[]⟩ = true by decide +kernel]
  simp only [Bool.not_true, Bool.not_false]
  go_wp2_with fail
  refine (pmoves g m ⟨#[98, 58, 50]⟩ (0 + 1) (0 + 1 + 1) _ true _ hpgx7).mono ?_
  rintro e w9 ⟨rfl, hv9⟩
  rw [hv9]
  clear hv9 w9
  go_wp2_with fail
  refine (pmet g m ⟨#[98, 58, 50]⟩ (0 + 1) (0 + 1 + 1) _ true ⟨#[98, 58, 50]⟩ _ hpgx7 (by decide +kernel)).mono ?_
  rintro e w9 ⟨rfl, hv9⟩
  rw [hv9]
  clear hv9 w9
  rw [show (if true = true then upC (upC (fun _ => 0) ⟨#[98, 58, 50]⟩) ⟨#[98, 58, 50]⟩ ⟨#[98, 58, 50]⟩ else 0) = 2 by simp [upC]]
  go_wp2_with fail
  refine (pright ⟨#[97, 45, 49, 46, 98, 58, 50]⟩ _).mono ?_
  rintro e x8 ⟨rfl, hq⟩
  have hpgx8 := (hpgx7).to hq
  have hBx8 := hBx7.trans (hq.mono hBx7.size)
  clear hq hBx7 hpgx7
  rw [show okA ⟨#[97, 45, 49, 46, 98, 58, 50]⟩ = true by decide +kernel]
  go_wp2_with fail
  refine (pright ⟨#[97, 32, 98]⟩ _).mono ?_
  rintro e x9 ⟨rfl, hq⟩
  have hpgx9 := (hpgx8).to hq
  have hBx9 := hBx8.trans (hq.mono hBx8.size)
  clear hq hBx8 hpgx8
  rw [show okA ⟨#[97, 32, 98]⟩ = false by decide +kernel]
  go_wp2_with fail
  refine (pcompare ⟨#[97]⟩ ⟨#[98]⟩ _).mono ?_
  rintro e w9 ⟨rfl, hv9⟩
  rw [hv9]
  clear hv9 w9
  rw [show Lib.compareBytes (⟨#[97]⟩ : ByteArray).data.toList (⟨#[98]⟩ : ByteArray).data.toList = -1 by decide +kernel]
  go_wp2_with fail
  go_ret
  exact ⟨rfl, hBx9⟩
end Go.Proofs.Ytfpniipbdkdhlaa
