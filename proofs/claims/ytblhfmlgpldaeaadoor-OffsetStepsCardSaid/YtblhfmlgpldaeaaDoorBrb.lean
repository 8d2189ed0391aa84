/-
  Contract of Bits in the reference package of layer 8, by a walk through its text: the bits of the bytes of an array, as a slice of ints of its own; what was there stays as it was.
-/
import Derived.Test.YtblhfmlgpldaeaaDoorBla
namespace Go.Proofs.YtblhfmlgpldaeaaDoor
open Go.RowKit
set_option linter.unusedVariables false
set_option maxRecDepth 10000

/-- n ints as cells. -/
def inL (n : Nat) (l : Nat → Nat) : List Value := (List.range n).map fun j => .int .i64 (l j : Nat)
theorem inL_len (n : Nat) (l : Nat → Nat) : (inL n l).length = n := by simp [inL]
theorem inL_get (n : Nat) (l : Nat → Nat) (j : Nat) (h : j < n) : (inL n l)[j]? = some (.int .i64 (l j : Nat)) := by
  simp [inL, List.getElem?_map, List.getElem?_range h]
theorem inL_snoc (n : Nat) (l : Nat → Nat) : inL (n + 1) l = inL n l ++ [.int .i64 (l n : Nat)] := by simp [inL, List.range_succ]
theorem infoI : (Tryd.prog.info? 3).map (fun i => (i.zero, i.size, i.bytes)) = some (some (.int .i64 0), 1, 8) := by kernel_rfl
/-- A slice of ints that the call made itself. -/
def OwI (w : World) (B : Nat) (v : Value) (n : Nat) (l : Nat → Nat) : Prop := w.ownsRow B 3 1 v n (inL n l)
theorem OwI.cell {w : World} {B : Nat} {A : Option Addr} {n c : Nat} {l : Nat → Nat} (h : OwI w B (.slice A n c) n l) (j : Nat) (hj : j < n) : ∃ g, A = some ⟨g, 0, none⟩ ∧ B ≤ g ∧ g < w.heap.size ∧ w.cell? ⟨g, j, none⟩ = some (.int .i64 (l j : Nat)) := by
  obtain ⟨g, cap, hv, hg, hlt⟩ := World.ownsRow.form h (by omega)
  injection hv with e1 e2 e3
  subst e1
  refine ⟨g, rfl, hg, hlt, ?_⟩
  have hc := World.ownsRow.cells h (g := g) rfl j _ (inL_get n l j hj)
  have : (⟨g, 0, none⟩ : Addr).add j = ⟨g, 0 + j, none⟩ := by unfold Addr.add; split <;> simp_all
  rw [this, Nat.zero_add] at hc
  exact hc

theorem own_block {w : World} {base : Nat} {e : TypeId} {size : Nat} {v : Value} {n : Nat} {xs : List Value} (h : w.ownsRow base e size v n xs) {g : Nat} (hg : v.ownBlock = some g) : base ≤ g := by
  rcases h.2 with ⟨rfl, _⟩ | ⟨g0, cap, cur, rfl, hb, _⟩
  · simp [Value.ownBlock] at hg
  · simp [Value.ownBlock] at hg; omega
theorem bit_facts (x t p q : Nat) (hx : x < 256) (hp : p = x / 2 ^ t) (hq : q = p % 2) :
    (wrap64 ((x : Int) / 2 ^ t) = (p : Int) ∧ IntKind.i64.wrap ((x : Int) / 2 ^ t) = (p : Int)) ∧ (p : Int).tmod 2 = (q : Int) ∧ (p : Int) % 2 = (q : Int) := by
  have h1 : p ≤ x := by rw [hp]; exact Nat.div_le_self _ _
  have e : (x : Int) / 2 ^ t = (p : Int) := by rw [hp, Int.natCast_ediv, Int.natCast_pow]; rfl
  refine ⟨⟨?_, ?_⟩, ?_, by omega⟩
  · rw [e]; exact IntWalk.wrap64_in _ (by omega)
  · rw [e]; exact wraps_i64' _ (by omega) (by omega)
  · rw [Int.tmod_eq_emod_of_nonneg (by omega)]; omega

set_option maxHeartbeats 1600000 in
theorem refbits (f : Nat → Nat) (n g : Nat) (w : World) (hn : n ≤ 100) (hf : ∀ j, j < n → f j < 256) (hA : Ar w g n f) (hg : g < w.heap.size) :
    Calls Tryd.prog 41 #[.slice (some ⟨g, 0, none⟩) n n] w fun e w' => ∃ A c, e = .returned (.slice A (8 * n) c) ∧ OwI w' w.heap.size (.slice A (8 * n) c) (8 * n) (bitF f) ∧ Below w.heap.size w w' := by
  obtain ⟨i0, hi0, hz0, hz1, hz2⟩ := info_parts infoI
  have hzs : (Value.int .i64 0).cells.size = 1 := rfl
  go_enter Tryd.func41, Tryd.ntmps41
  go_wp2_with fail
  go_loopw [3, 4] (fun v i wr => ∃ (k : Nat) (A : Option Addr) (c : Nat), k ≤ n ∧ i = .int .i64 k ∧ v = .slice A (8 * k) c ∧ OwI wr w.heap.size (.slice A (8 * k) c) (8 * k) (bitF f) ∧ Below w.heap.size w wr) (fun _ i _ => n - (intOf i).toNat)
  case atStart => exact ⟨0, none, 0, Nat.zero_le _, rfl, rfl, World.ownsRow_nil _ _ _ _, Below.refl _ _⟩
  case round =>
    obtain ⟨k, A, c, hk, rfl, rfl, hO, hB⟩ := hrel
    by_cases hlt : k < n
    · have i1 : (k : Int) < (n : Int) := by omega
      go_wp2_with fail
      obtain ⟨wo, rfl⟩ : ∃ wo : World, wo = wr := ⟨_, rfl⟩
      go_loopw [3, 5] (fun v i wr => ∃ (s : Nat) (A : Option Addr) (c : Nat), s ≤ 8 ∧ i = .int .i64 ((s : Int) - 1) ∧ v = .slice A (8 * k + (8 - s)) c ∧ OwI wr w.heap.size (.slice A (8 * k + (8 - s)) c) (8 * k + (8 - s)) (bitF f) ∧ Below w.heap.size w wr) (fun _ i _ => (intOf i + 1).toNat)
      case atStart => exact ⟨8, A, c, by omega, rfl, rfl, hO, hB⟩
      case round =>
        clear hO hB
        obtain ⟨s, A, c, hs, rfl, rfl, hO, hB⟩ := hrel
        by_cases hs0 : 0 < s
        · obtain ⟨t, rfl⟩ : ∃ t, s = t + 1 := ⟨s - 1, by omega⟩
          have es : ((t + 1 : Nat) : Int) - 1 = (t : Int) := by omega
          rw [es]
          have i2 : (0 : Int) ≤ (t : Int) := by omega
          have i3 : (t : Int) < 8 := by omega
          have hgw : g < wr.heap.size := by have := hB.size; omega
          have c0 : wr.cell? ⟨g, k, none⟩ = some (.int .u8 (f k : Nat)) := (hB.cell (p := ⟨g, k, none⟩) hg).trans (hA k hlt).1
          obtain ⟨p, hp⟩ : ∃ p : Nat, p = f k / 2 ^ t := ⟨_, rfl⟩
          obtain ⟨q, hq⟩ : ∃ q : Nat, q = p % 2 := ⟨_, rfl⟩
          obtain ⟨⟨e1, e2⟩, e3, e4⟩ := bit_facts (f k) t p q (hf k hlt) hp hq
          obtain ⟨M, hM⟩ : ∃ M : Nat, 8 * k + (8 - (t + 1)) = M := ⟨_, rfl⟩
          rw [hM] at hO ⊢
          have hbit := Lib.hid (show bitF f M = q by rw [← hM, show 8 * k + (8 - (t + 1)) = 8 * k + (7 - t) by omega, bitF_at f k (7 - t) (by omega), show 7 - (7 - t) = t by omega, ← hp, hq])
          have HM := Lib.hid hM
          have HM2 := Lib.hid (show M < 1000 by omega)
          have HB := Lib.hid hB
          have hsz := Lib.hid hB.size
          clear hM hp hq hB
          go_wp2_with (at_builtin
                       refine wpList_append_own _ rfl _ _ 73 rfl w.heap.size 3 i0 (.int .i64 0) 1 8 Tryd.underlying73 hi0 hz0 hz1 hz2 rfl (by decide) _ _ _ rfl (hO.alloc _) ⟨wr.heap.size, 0, none⟩ 1 1 [.int .i64 (q : Nat)] rfl rfl ?c1 ?c2 ?c3 ?c4 ?c5 ?_)
          case c1 =>
            intro j u hj
            match j, hj with
            | 0, hj => simp at hj; subst hj; simp [Addr.add]
          case c2 => intro u hu; simp at hu; subst hu; rfl
          case c3 => have := HM2.out; unfold maxLen; omega
          case c4 => have := HM2.out; omega
          case c5 => have := hsz.out; simp; omega
          intro v2 w2 hown2 hgrow _
          obtain ⟨A2, c2, rfl⟩ := own_shape hown2
          have hO2 : OwI w2 w.heap.size (.slice A2 (M + 1) c2) (M + 1) (bitF f) := by
            unfold OwI; rw [inL_snoc, hbit.out]; exact hown2
          have hB2 : Below w.heap.size w w2 := (HB.out.alloc hsz.out _).grown hgrow (by have := hsz.out; simp; omega) (fun g0 hg0 => own_block hO hg0)
          have eM : M + 1 = 8 * k + (8 - t) := by have := HM.out; omega
          rw [eM] at hO2 ⊢
          clear hO hown2 hgrow e1 e2 e3 e4 hgw c0
          go_wp2_with fail
          go_roundw
          case rel => exact ⟨t, A2, c2, by omega, by first | rfl | (go_num), rfl, hO2, hB2⟩
          case measure => simp [intOf]
        · obtain rfl : s = 0 := by omega
          go_wp2_with fail
          go_roundw
          case rel => exact ⟨k + 1, A, c, by omega, by go_num, rfl, hO, hB⟩
          case measure => simp [intOf]; omega
    · obtain rfl : k = n := by omega
      go_wp2_with fail
      go_ret
      exact ⟨A, c, rfl, hO, hB⟩
end Go.Proofs.YtblhfmlgpldaeaaDoor
