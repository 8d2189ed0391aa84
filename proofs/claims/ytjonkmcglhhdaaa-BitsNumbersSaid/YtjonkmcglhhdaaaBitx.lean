/-
  Contracts of the exclusive or of strings, in package bits and in the reference package of layer 1: a string of the call's own, with as many bytes as the shorter one has; what was there stays as it was.
-/
import Derived.Test.YtjonkmcglhhdaaaBitz
import Derived.Test.YtjonkmcglhhdaaaBitr
import Derived.StillTailTactics
namespace Go.Proofs.Ytjonkmcglhhdaaa
open Go.RowKit
set_option linter.unusedVariables false

theorem xor_store (l l' : List UInt8) (m k : Nat) (hm : m = min l.length l'.length) (hk : k < m) :
    ((xorL l l').take k ++ List.replicate (m - k) 0).set k (l[k]?.getD 0 ^^^ l'[k]?.getD 0) = (xorL l l').take (k + 1) ++ List.replicate (m - (k + 1)) 0 := by
  have h1 : k < (xorL l l').length := by rw [xorL_len]; omega
  have h2 : (xorL l l')[k]?.getD 0 = l[k]?.getD 0 ^^^ l'[k]?.getD 0 := by rw [xorL_get l l' k (by omega) (by omega)]; rfl
  rw [take_snoc _ _ h1, h2, List.set_append_right _ _ (by simp; omega)]
  have e : m - k = (m - (k + 1)) + 1 := by omega
  rw [List.length_take, Nat.min_eq_left (by omega), Nat.sub_self, e, List.replicate_succ, List.set_cons_zero, List.append_assoc]
  rfl

set_option maxHeartbeats 800000 in
theorem xor_ (A A' : Option Addr) (n n' m c c' : Nat) (l l' : List UInt8) (w : World) (h : Sl w w.heap.size A n l) (h' : Sl w w.heap.size A' n' l') (hn : n ≤ 140737488351232) (hn' : n' ≤ 140737488351232) (hm : (m = n ∧ n ≤ n') ∨ (m = n' ∧ n' < n)) :
    Calls Try.prog 16 #[.slice A n c, .slice A' n' c'] w fun e w' => ∃ A1 c1, e = .returned (.slice A1 m c1) ∧ Own w' w.heap.size A1 m c1 (xorL l l') ∧ Below w.heap.size w w' := by
  obtain ⟨i0, hi0, hz0, hz1, hz2⟩ := info_parts info8
  have hz := Lib.hid (fun w1 => @Row8.made w1 w.heap.size w.heap.size m)
  have hmin : m = min l.length l'.length := by rw [h.len, h'.len]; omega
  have hst := Lib.hid (fun k => xor_store l l' m k hmin)
  have hlen := Lib.hid (show (xorL l l').take m = xorL l l' from List.take_of_length_le (by rw [xorL_len]; omega))
  have hmn : m ≤ n := by omega
  have hmn' : m ≤ n' := by omega
  clear hmin
  rcases hm with ⟨rfl, hm⟩ | ⟨rfl, hm⟩
  all_goals
    go_enter Try.func16, Try.ntmps16
    go_wp2_with (at_make; refine wpList_make_full _ rfl _ _ _ rfl w.heap.size 5 i0 _ 1 Try.underlying22 hi0 hz0 hz1 _ _ _ _ _ rfl rfl rfl rfl (by rw [hz2]; omega) (by simp only [maxLen]; omega) (Nat.le_refl _) ?_
                 intro w1 hown hg1)
    have hown0 := hz.out _ hown
    clear hown
    go_loopw [15] (fun i wr => ∃ k : Nat, k ≤ m ∧ i = .int .i64 k ∧ Row8 wr w.heap.size ⟨w.heap.size, 0, none⟩ m ((xorL l l').take k ++ List.replicate (m - k) 0) ∧ Below w.heap.size w wr) (fun i _ => m - (intOf i).toNat)
    case atStart => exact ⟨0, Nat.zero_le _, rfl, by simpa using hown0, (Below.refl _ _).grown hg1 (Nat.le_refl _) (fun _ h => by cases h)⟩
    case round =>
      obtain ⟨k, hk, rfl, hrow, hbel⟩ := hrel
      by_cases hlt : k < m
      · obtain ⟨u, hcell⟩ := hrow.cell k (by omega)
        have hfr := hrow.frozen k
        obtain ⟨b, off, rfl, hb, hc⟩ := (h.below hbel).at_ (show k < _ by omega)
        obtain ⟨b', off', rfl, hb', hc'⟩ := (h'.below hbel).at_ (show k < _ by omega)
        have hs := xor_u8 (l[k]?.getD 0) (l'[k]?.getD 0)
        go_wp2
        go_region
        all_goals go_wp2
        all_goals go_roundw
        case rel =>
          have h2 := hrow.store k (l[k]?.getD 0 ^^^ l'[k]?.getD 0)
          rw [hst.out k hlt] at h2
          unfold b8 at h2
          exact ⟨k + 1, by omega, by go_num, World.ownsRow.drew h2, (hbel.setCell (Nat.le_refl _) _).drew⟩
        case measure => simp [intOf]; omega
      · obtain rfl : k = m := by omega
        go_wp2
        go_ret
        have hrow := hrow.own
        rw [Nat.sub_self, List.replicate_zero, List.append_nil, hlen.out] at hrow
        exact ⟨_, _, rfl, hrow, hbel⟩

theorem xor_bit (x y : UInt8) (k : Nat) : (x ^^^ y).toNat / 2 ^ k % 2 = if x.toNat / 2 ^ k % 2 = y.toNat / 2 ^ k % 2 then 0 else 1 := by
  have h := Nat.testBit_xor x.toNat y.toNat k
  rw [← UInt8.toNat_xor] at h
  simp only [Nat.testBit_eq_decide_div_mod_eq] at h
  generalize (x ^^^ y).toNat / 2 ^ k = a at *
  generalize x.toNat / 2 ^ k = b at *
  generalize y.toNat / 2 ^ k = c at *
  have h0 := Nat.mod_two_eq_zero_or_one a
  have h1 := Nat.mod_two_eq_zero_or_one b
  have h2 := Nat.mod_two_eq_zero_or_one c
  rcases h0 with h0 | h0 <;> rcases h1 with h1 | h1 <;> rcases h2 with h2 | h2 <;> simp_all
theorem step_c (z j : Nat) (hj : j < 8) (hz : z < 256) : wrap64 ((z : Int) + wrap64 (2 ^ j)) = ((z + 2 ^ j : Nat) : Int) := by
  have h1 : 2 ^ j ≤ 2 ^ 7 := Nat.pow_le_pow_right (by decide) (by omega)
  have e : (2 : Int) ^ j = ((2 ^ j : Nat) : Int) := by simp
  rw [e]
  generalize 2 ^ j = p at *
  rw [IntWalk.wrap64_in (p : Int) (by omega), IntWalk.wrap64_in _ (by omega)]
  omega
theorem tmod2 (x j : Nat) : ((x : Int) / 2 ^ j).tmod 2 = ((x / 2 ^ j % 2 : Nat) : Int) := by
  have e : (x : Int) / 2 ^ j = ((x / 2 ^ j : Nat) : Int) := by simp
  rw [e]
  generalize x / 2 ^ j = p
  rw [Int.tmod_eq_emod_of_nonneg (by omega)]
  omega
theorem mod_step (z k : Nat) : z % 2 ^ (k + 1) = z % 2 ^ k + 2 ^ k * (z / 2 ^ k % 2) := by
  rw [Nat.pow_succ, Nat.mod_mul]

theorem sl_lit {w : World} {g : Nat} {u : Int} {x : UInt8} (hg : g = w.heap.size) (h : u = (x.toNat : Int)) : Sl (w.alloc (.cells #[.int .u8 u] 5)) (w.heap.size + 1) (some ⟨g, 0, none⟩) 1 [x] := by
  subst hg h
  refine ⟨rfl, fun _ => ⟨w.heap.size, 0, rfl, by omega, fun j y hy => ?_⟩⟩
  have hj : j = 0 := by
    rcases j with _ | j
    · rfl
    · simp at hy
  subst hj
  simp at hy
  subst hy
  rw [World.cell?_alloc_at _ _ _ _ rfl]
  rfl

theorem refXor_step {w wo w1 : World} {B k c1 q : Nat} {A1 : Option Addr} {v1 o : Value} {l : List UInt8} {x : UInt8} {t : TypeId} (hown : Own wo B A1 k c1 (l.take k)) (hbel : Below B w wo) (hB : B ≤ wo.heap.size)
    (hnext : l.take (k + 1) = l.take k ++ [x])
    (hown1 : w1.ownsRow B 5 1 v1 (k + 1) ((l.take k).map b8 ++ [x].map b8)) (hg1 : (((wo.drewN q).alloc (.cells #[o] t))).grownBy w1 (Value.slice A1 k c1).ownBlock) :
    ∃ (A2 : Option Addr) (c2 : Nat), v1 = .slice A2 (k + 1) c2 ∧ Own w1 B A2 (k + 1) c2 (l.take (k + 1)) ∧ Below B w w1 := by
  obtain ⟨A2, c2, rfl⟩ := own_shape hown1
  refine ⟨A2, c2, rfl, ?_, ?_⟩
  · unfold Own
    rw [hnext, List.map_append]
    exact hown1
  · have h1 : Below B w (wo.drewN q) := hbel.trans ((Dr.below ⟨q, rfl⟩ B))
    exact (h1.alloc hB _).grown hg1 (by simp; omega) (fun g hg => (hown.lt g hg).1)

set_option maxHeartbeats 800000 in
theorem refXor (A A' : Option Addr) (n n' m c c' : Nat) (l l' : List UInt8) (w : World) (h : Sl w w.heap.size A n l) (h' : Sl w w.heap.size A' n' l') (hn : n ≤ 140737488351232) (hn' : n' ≤ 140737488351232) (hm : (m = n ∧ n ≤ n') ∨ (m = n' ∧ n' < n)) :
    Calls Try.prog 17 #[.slice A n c, .slice A' n' c'] w fun e w' => ∃ A1 c1, e = .returned (.slice A1 m c1) ∧ Own w' w.heap.size A1 m c1 (xorL l l') ∧ Below w.heap.size w w' := by
  obtain ⟨i0, hi0, hz0, hz1, hz2⟩ := info_parts info8
  have hzs : (Value.int .u8 0).cells.size = 1 := rfl
  have hmin : m = min l.length l'.length := by rw [h.len, h'.len]; omega
  have hlen := Lib.hid (show (xorL l l').take m = xorL l l' from List.take_of_length_le (by rw [xorL_len]; omega))
  have hget := Lib.hid (fun k (hk : k < m) => (take_snoc (xorL l l') k (by rw [xorL_len]; omega)).trans (by rw [xorL_get l l' k (by omega) (by omega)]; rfl : _ = (xorL l l').take k ++ [l[k]?.getD 0 ^^^ l'[k]?.getD 0]))
  have hmn : m ≤ n := by omega
  have hmn' : m ≤ n' := by omega
  clear hmin
  go_enter Try.func17, Try.ntmps17
  go_wp2
  go_loopw [5, 6] (fun v i wr => ∃ (k : Nat) (A1 : Option Addr) (c1 : Nat), k ≤ m ∧ i = .int .i64 k ∧ v = .slice A1 k c1 ∧ Own wr w.heap.size A1 k c1 ((xorL l l').take k) ∧ Below w.heap.size w wr) (fun _ i _ => m - (intOf i).toNat)
  case atStart => exact ⟨0, none, 0, Nat.zero_le _, rfl, rfl, World.ownsRow_nil _ _ _ _, Below.refl _ _⟩
  case round =>
    obtain ⟨k, A1, c1, hk, rfl, rfl, hown, hbel⟩ := hrel
    by_cases hlt : k < m
    · obtain ⟨b, off, rfl, hb, hc⟩ := (h.below hbel).at_ (show k < _ by omega)
      obtain ⟨b', off', rfl, hb', hc'⟩ := (h'.below hbel).at_ (show k < _ by omega)
      have hk1 : (k : Int) < (n : Int) := by omega
      have hk2 : (k : Int) < (n' : Int) := by omega
      have hnext := Lib.hid (hget.out k hlt)
      have hX := (l[k]?.getD 0).toNat_lt
      have hY := (l'[k]?.getD 0).toNat_lt
      rw [show l.getD k 0 = l[k]?.getD 0 from by simp] at hc
      rw [show l'.getD k 0 = l'[k]?.getD 0 from by simp] at hc'
      generalize l[k]?.getD 0 = X at *
      generalize l'[k]?.getD 0 = Y at *
      have hXY := (X ^^^ Y).toNat_lt
      obtain ⟨wo, rfl⟩ : ∃ wo : World, wo = wr := ⟨_, rfl⟩
      go_wp2
      go_loopw [7, 8] (fun cc jj ws => ∃ j z : Nat, j ≤ 8 ∧ jj = .int .i64 j ∧ cc = .int .i64 z ∧ Hid (z = (X ^^^ Y).toNat % 2 ^ j) ∧ z < 256 ∧ ∃ q, ws = wo.drewN q) (fun _ jj _ => 8 - (intOf jj).toNat)
      case atStart => exact ⟨0, 0, Nat.zero_le _, rfl, rfl, Lib.hid (by simp [Nat.mod_one]), by omega, 0, rfl⟩
      case round =>
        obtain ⟨j, z, hj, rfl, rfl, hz, hz2, q, rfl⟩ := hrel
        by_cases hjt : j < 8
        · by_cases he : X.toNat / 2 ^ j % 2 = Y.toNat / 2 ^ j % 2
          · have ht : (((X.toNat : Int) / 2 ^ j).tmod 2 != ((Y.toNat : Int) / 2 ^ j).tmod 2) = false := by
              rw [tmod2, tmod2, he]; simp
            have hnz : Hid (z = (X ^^^ Y).toNat % 2 ^ (j + 1)) := by
              unfold Hid
              rw [mod_step, xor_bit, if_pos he, hz.out]; simp
            clear he
            go_wp2
            go_quiet (fail)
            go_wp2
            go_roundw
            case rel => exact ⟨j + 1, z, by omega, by go_num, rfl, hnz, by omega, _, rfl⟩
            case measure => simp [intOf]; omega
          · have ht : (((X.toNat : Int) / 2 ^ j).tmod 2 != ((Y.toNat : Int) / 2 ^ j).tmod 2) = true := by
              rw [tmod2, tmod2, bne_iff_ne]
              omega
            have hnz : Hid (z + 2 ^ j = (X ^^^ Y).toNat % 2 ^ (j + 1)) := by
              unfold Hid
              rw [mod_step, xor_bit, if_neg he, hz.out]; simp
            clear he
            have hs := Lib.hid (step_c z j hjt hz2)
            have hz3 : z + 2 ^ j < 256 := by
              rw [hnz.out]
              exact Nat.lt_of_le_of_lt (Nat.mod_le _ _) (by simpa using hXY)
            go_wp2
            go_quiet (fail)
            go_wp2
            go_roundw
            case rel => exact ⟨j + 1, z + 2 ^ j, by omega, by go_num, val_of hs.out, hnz, hz3, _, rfl⟩
            case measure => simp [intOf]; omega
        · have hzz : Hid (z = (X ^^^ Y).toNat) := by
            obtain rfl : j = 8 := by omega
            unfold Hid
            rw [hz.out]
            exact Nat.mod_eq_of_lt hXY
          have hsl := hown.sl
          have hB := hbel.size
          have hnm : k + 1 ≤ 140737488355328 := by omega
          go_wp2_with (at_builtin
                       refine wpList_append_sl _ rfl (.tmp 47) (.tmp 50) _ rfl w.heap.size 5 i0 _ Try.underlying22 hi0 hz0 hz1 (by assumption) hzs _ k _ rfl (World.ownsRow.alloc (w := wo.drewN q) hown _) _ _ 1 1 [X ^^^ Y] rfl (sl_lit rfl (by rw [hzz.out])) hnm (by simp; omega) ?_
                       intro v1 w2 hown1 hg2 hat1)
          obtain ⟨A2, c2, rfl, hown2, hbel2⟩ := refXor_step hown hbel hB hnext.out hown1 hg2
          go_roundw
          case rel => exact ⟨k + 1, A2, c2, by omega, by go_num, rfl, hown2, hbel2⟩
          case measure => simp [intOf]; omega
    · obtain rfl : k = m := by omega
      have hfin : Hid (Own wr w.heap.size A1 k c1 (xorL l l')) := by
        rw [hlen.out] at hown
        exact hown
      clear hown
      rcases hm with ⟨h1, h2⟩ | ⟨h1, h2⟩
      · have hk1 : ¬ (k : Int) < (n : Int) := by omega
        clear h1 h2
        go_wp2
        go_ret
        exact ⟨_, _, rfl, hfin.out, hbel⟩
      · have hk1 : (k : Int) < (n : Int) := by omega
        have hk2 : ¬ (k : Int) < (n' : Int) := by omega
        clear h1 h2
        go_wp2
        go_ret
        exact ⟨_, _, rfl, hfin.out, hbel⟩

/-- A byte of a slice of the call's own: it can be read and written. -/
theorem Own.at_ {w : World} {B n c k : Nat} {A : Option Addr} {l : List UInt8} (h : Own w B A n c l) (hk : k < n) :
    ∃ g, A = some ⟨g, 0, none⟩ ∧ B ≤ g ∧ w.cell? ⟨g, k, none⟩ = some (.int .u8 ((l[k]?.getD 0).toNat : Int)) ∧ w.frozen? ⟨g, k, none⟩ = false ∧ ∀ u, Own (w.setCell ⟨g, k, none⟩ (b8 u)) B A n c (l.set k u) := by
  have hlen := h.sl.len
  obtain ⟨g, cap, hv, hB, _⟩ := World.ownsRow.form h (by omega)
  have hA : A = some ⟨g, 0, none⟩ := by injection hv
  subst hA
  refine ⟨g, rfl, hB, ?_, World.ownsRow.frozenAt h k, fun u => ?_⟩
  · rw [World.ownsRow.cellAt h k (by omega), List.getElem?_map, List.getElem?_eq_getElem (by omega)]
    rfl
  · unfold Own
    rw [List.map_set]
    exact (World.ownsRow.stored h k (b8 u)).1

theorem inc8 (u : UInt8) : IntKind.u8.wrap ((u.toNat : Int) + 1) = ((u + 1).toNat : Int) := by
  have h := u.toNat_lt
  have e : (u + 1).toNat = (u.toNat + 1) % 256 := UInt8.toNat_add u 1
  rw [IntKind.wrap_u8, e]; omega

theorem Sl.take {w : World} {B n m : Nat} {A : Option Addr} {l : List UInt8} (h : Sl w B A n l) (hm : m ≤ n) : Sl w B A m (l.take m) := by
  refine ⟨by have := h.1; simp; omega, fun h0 => ?_⟩
  obtain ⟨b, off, e, hb, hc⟩ := h.2 (by omega)
  refine ⟨b, off, e, hb, fun j u hu => hc j u ?_⟩
  have hj : j < m := by
    rcases Nat.lt_or_ge j m with h1 | h1
    · exact h1
    · rw [List.getElem?_eq_none (by simp; omega)] at hu; cases hu
  rwa [List.getElem?_take_of_lt hj] at hu

theorem Own.base {w w' : World} {B n c : Nat} {A : Option Addr} {l : List UInt8} (h : Own w B A n c l) (k : Base w w') : Own w' B A n c l := by
  refine ⟨h.1, ?_⟩
  rcases h.2 with h2 | ⟨g, cap, cur, h2, hB, hh, h3⟩
  · exact .inl h2
  · have hlt : g < w.heap.size := by
      rcases Nat.lt_or_ge g w.heap.size with h1 | h1
      · exact h1
      · rw [Array.getElem?_eq_none h1] at hh; cases hh
    exact .inr ⟨g, cap, cur, h2, hB, (Below.block k g hlt).trans hh, h3⟩
end Go.Proofs.Ytjonkmcglhhdaaa
