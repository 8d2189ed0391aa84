/-
  Contracts of the reference package of layer 3, by walks through its text: the product by counted coefficients is the product, for any bytes; what was there stays as it was.
-/
import Derived.Test.YtghcpfcomhfppaaDoorFre
namespace Go.Proofs.YtghcpfcomhfppaaDoor
open Go.RowKit
set_option linter.unusedVariables false

/-- A block of 15 coefficients. -/
def Pc (w : World) (g : Nat) (P : Nat → Nat) : Prop := ∀ j, j < 15 → w.cell? ⟨g, j, none⟩ = some (.int .i64 (P j : Nat)) ∧ w.frozen? ⟨g, j, none⟩ = false
theorem Pc.up {w : World} {g j v : Nat} {P : Nat → Nat} {x : Int} (h : Pc w g P) (hj : j < 15) (hx : x = ((P j + v : Nat) : Int)) : Pc (w.setCell ⟨g, j, none⟩ (.int .i64 x)) g (up P j v) := by
  subst hx
  intro i hi
  refine ⟨?_, by rw [World.frozen?_setCell]; exact (h i hi).2⟩
  by_cases e : i = j
  · subst e
    rw [World.cell?_setCell_same _ _ _ (h i hi).1]
    simp [_root_.Go.Proofs.YtghcpfcomhfppaaDoor.up]
  · rw [World.cell?_setCell_other _ _ _ _ (fun h => by injection h with _ h; exact e h.symm), (h i hi).1]
    simp [_root_.Go.Proofs.YtghcpfcomhfppaaDoor.up, e]
theorem Pc.new (w : World) : Pc (w.alloc (.cells #[.int .i64 0, .int .i64 0, .int .i64 0, .int .i64 0, .int .i64 0, .int .i64 0, .int .i64 0, .int .i64 0, .int .i64 0, .int .i64 0, .int .i64 0, .int .i64 0, .int .i64 0, .int .i64 0, .int .i64 0] 54)) w.heap.size (fun _ => 0) := by
  intro j hj
  refine ⟨?_, World.frozen?_alloc_at _ _ _ _ rfl⟩
  rw [World.cell?_alloc_at _ _ _ _ rfl]
  rcases (show j = 0 ∨ j = 1 ∨ j = 2 ∨ j = 3 ∨ j = 4 ∨ j = 5 ∨ j = 6 ∨ j = 7 ∨ j = 8 ∨ j = 9 ∨ j = 10 ∨ j = 11 ∨ j = 12 ∨ j = 13 ∨ j = 14 by omega) with rfl | rfl | rfl | rfl | rfl | rfl | rfl | rfl | rfl | rfl | rfl | rfl | rfl | rfl | rfl <;> rfl

theorem coef_bit (a i : Nat) (ha : a < 256) : (wrap64 ((a : Int) / 2 ^ i)).tmod 2 = ((bt a i : Nat) : Int) := by
  have e : (a : Int) / 2 ^ i = ((a / 2 ^ i : Nat) : Int) := by simp
  have h := Nat.div_le_self a (2 ^ i)
  unfold bt
  rw [e]
  generalize a / 2 ^ i = q at *
  rw [IntWalk.wrap64_in _ (by omega), Int.tmod_eq_emod_of_nonneg (by omega)]
  omega
theorem coef (p a b i k : Nat) (ha : a < 256) (hb : b < 256) (hp : p ≤ 1000) :
    wrap64 ((p : Int) + wrap64 ((wrap64 ((a : Int) / 2 ^ i)).tmod 2 * (wrap64 ((b : Int) / 2 ^ k)).tmod 2)) = ((p + bt a i * bt b k : Nat) : Int) := by
  have h := btbt_le a b i k
  rw [coef_bit a i ha, coef_bit b k hb, ← Int.natCast_mul]
  generalize bt a i * bt b k = q at *
  rw [IntWalk.wrap64_in (q : Int) (by omega), IntWalk.wrap64_in _ (by omega)]
  omega

theorem red_no (P : Nat → Nat) (n i : Nat) (hi : i = 14 - n) (h : red P n i % 2 = 0) : red P (n + 1) = red P n := by
  subst hi
  rw [red, red1, if_neg (by omega)]
theorem inc64 (p : Nat) (h : p ≤ 1000) : wrap64 ((p : Int) + 1) = ((p + 1 : Nat) : Int) := by
  rw [IntWalk.wrap64_in _ (by omega)]; omega
theorem Pc.red_yes {w : World} {g n i p q r s : Nat} {P : Nat → Nat} (h : Pc w g (red P n)) (hn : n ≤ 6) (hi : i = 14 - n) (hp : p = i - 4) (hq : q = i - 5) (hr : r = i - 7) (hs : s = i - 8)
    (h1 : red P n i % 2 = 1) (hb : ∀ j, red P n j ≤ 64 + 4 * n) :
    Pc ((((w.setCell ⟨g, p, none⟩ (.int .i64 (wrap64 ((red P n p : Nat) + 1)))).setCell ⟨g, q, none⟩ (.int .i64 (wrap64 ((red P n q : Nat) + 1)))).setCell ⟨g, r, none⟩ (.int .i64 (wrap64 ((red P n r : Nat) + 1)))).setCell ⟨g, s, none⟩ (.int .i64 (wrap64 ((red P n s : Nat) + 1)))) g (red P (n + 1)) := by
  have hbp := hb p
  have hbq := hb q
  have hbr := hb r
  have hbs := hb s
  rw [inc64 _ (by omega), inc64 _ (by omega), inc64 _ (by omega), inc64 _ (by omega)]
  have e : red P (n + 1) = _root_.Go.Proofs.YtghcpfcomhfppaaDoor.up (_root_.Go.Proofs.YtghcpfcomhfppaaDoor.up (_root_.Go.Proofs.YtghcpfcomhfppaaDoor.up (_root_.Go.Proofs.YtghcpfcomhfppaaDoor.up (red P n) p 1) q 1) r 1) s 1 := by
    rw [red, red1, ← hi, if_pos h1, hp, hq, hr, hs]
  rw [e]
  refine (((h.up (by omega) rfl).up (by omega) ?_).up (by omega) ?_).up (by omega) ?_
  · simp [_root_.Go.Proofs.YtghcpfcomhfppaaDoor.up, show ¬ q = p by omega]
  · simp [_root_.Go.Proofs.YtghcpfcomhfppaaDoor.up, show ¬ r = p by omega, show ¬ r = q by omega]
  · simp [_root_.Go.Proofs.YtghcpfcomhfppaaDoor.up, show ¬ s = p by omega, show ¬ s = q by omega, show ¬ s = r by omega]

theorem fin_step (Q : Nat → Nat) (k : Nat) (hk : k < 8) (hq : Q k ≤ 64 + 4 * 7) : wrap64 ((fin Q k : Int) + wrap64 ((Q k : Int) % 2 * 2 ^ k)) = ((fin Q (k + 1) : Nat) : Int) := by
  have h1 := fin_lt Q k
  have h2 : 2 ^ k ≤ 2 ^ 7 := Nat.pow_le_pow_right (by decide) (by omega)
  have e : (Q k : Int) % 2 * 2 ^ k = ((Q k % 2 * 2 ^ k : Nat) : Int) := by simp
  have h3 : Q k % 2 * 2 ^ k ≤ 1 * 2 ^ k := Nat.mul_le_mul_right _ (by omega)
  rw [e, fin]
  generalize Q k % 2 * 2 ^ k = q at *
  generalize fin Q k = p at *
  generalize 2 ^ k = r at *
  rw [IntWalk.wrap64_in (q : Int) (by omega), IntWalk.wrap64_in _ (by omega)]
  omega

set_option maxHeartbeats 1600000 in
theorem refmul (a b : Nat) (w : World) (ha : a < 256) (hb : b < 256) :
    Calls Tryd.prog 29 #[.int .u8 a, .int .u8 b] w fun e w' => e = .returned (.int .u8 (mul a b : Nat)) ∧ Below w.heap.size w w' := by
  have hol := Lib.hid (outr_le a b)
  have hil := Lib.hid (fun i => inn_le (outr a b i) a b i (8 * i) (outr_le a b i))
  have hp0 := Lib.hid (Pc.new w)
  go_enter Tryd.func29, Tryd.ntmps29
  go_wp2
  go_loopw [6] (fun x wr => ∃ i : Nat, i ≤ 8 ∧ x = .int .i64 i ∧ Pc wr w.heap.size (outr a b i) ∧ Below w.heap.size w wr) (fun x _ => 8 - (intOf x).toNat)
  case atStart => exact ⟨0, Nat.zero_le _, rfl, hp0.out, (Below.refl _ _).alloc (Nat.le_refl _) _⟩
  case round =>
    obtain ⟨i, hi, rfl, hP, hbel⟩ := hrel
    by_cases hit : i < 8
    · go_wp2
      go_loopw [7] (fun y wr => ∃ k : Nat, k ≤ 8 ∧ y = .int .i64 k ∧ Pc wr w.heap.size (inn (outr a b i) a b i k) ∧ Below w.heap.size w wr) (fun y _ => 8 - (intOf y).toNat)
      case atStart => exact ⟨0, Nat.zero_le _, rfl, hP, hbel⟩
      case round =>
        obtain ⟨k, hk, rfl, hQ, hbel⟩ := hrel
        by_cases hkt : k < 8
        · have hQb := hil.out i k (i + k)
          obtain ⟨hc, hf⟩ := hQ (i + k) (by omega)
          have HQ := Lib.hid hQ
          clear hQ
          go_wp2
          go_roundw
          case rel => exact ⟨k + 1, by omega, by go_num, HQ.out.up (by omega) (coef _ a b i k ha hb (by omega)), hbel.setCell (Nat.le_refl _) _⟩
          case measure => simp [intOf]; omega
        · obtain rfl : k = 8 := by omega
          go_wp2
          go_roundw
          case rel => exact ⟨i + 1, by omega, by go_num, hQ, hbel⟩
          case measure => simp [intOf]; omega
    · obtain rfl : i = 8 := by omega
      have hPb := Lib.hid (red_le (outr a b 8) 64 (hol.out 8))
      have hfm := Lib.hid (fin_mul a b ha hb)
      generalize outr a b 8 = P at *
      clear hol hil hp0
      go_wp2
      go_loopw [8] (fun x wr => ∃ j : Nat, j ≤ 7 ∧ x = .int .i64 ((j : Int) + 7) ∧ Pc wr w.heap.size (red P (7 - j)) ∧ Below w.heap.size w wr) (fun x _ => (intOf x).toNat - 7)
      case atStart => exact ⟨7, Nat.le_refl _, rfl, hP, hbel⟩
      case round =>
        obtain ⟨j, hj, rfl, hQ, hbel⟩ := hrel
        rcases (show j = 0 ∨ j = 1 ∨ j = 2 ∨ j = 3 ∨ j = 4 ∨ j = 5 ∨ j = 6 ∨ j = 7 by omega) with rfl | rfl | rfl | rfl | rfl | rfl | rfl | rfl
        case inl =>
          have hQ7 : Pc wr w.heap.size (red P 7) := hQ
          have hQb := Lib.hid (hPb.out 7)
          clear hQ hP hPb
          generalize red P 7 = Q at *
          go_wp2
          go_loopw [9, 10] (fun x y ws => ∃ k z : Nat, k ≤ 8 ∧ y = .int .i64 k ∧ x = .int .i64 z ∧ z = fin Q k ∧ ws = wr) (fun _ y _ => 8 - (intOf y).toNat)
          case atStart => exact ⟨0, 0, Nat.zero_le _, rfl, rfl, rfl, rfl⟩
          case round =>
            obtain ⟨k, z, hk, rfl, rfl, hz, rfl⟩ := hrel
            by_cases hkt : k < 8
            · obtain ⟨hc, hf⟩ := hQ7 k (by omega)
              have hqb := hQb.out k
              go_wp2
              go_roundw
              case rel => exact ⟨k + 1, _, by omega, by go_num, fval_of (fin_step Q k hkt hqb), rfl, trivial⟩
              case measure => simp [intOf]; omega
            · obtain rfl : k = 8 := by omega
              have hz8 : z < 256 := by rw [hz]; exact fin_lt Q 8
              have hzm : Hid (z = mul a b) := by unfold Hid; rw [hz]; exact hfm.out
              clear hz hfm
              go_wp2
              go_ret
              exact ⟨fret_of (by rw [hzm.out]), hbel⟩
        case inr.inl =>
          have hQ1 : Pc wr w.heap.size (red P 6) := hQ
          clear hQ
          have hb8 := hPb.out 6 8
          obtain ⟨hc, hf⟩ := hQ1 8 (by omega)
          obtain ⟨hc4, hf4⟩ := hQ1 4 (by omega)
          obtain ⟨hc5, hf5⟩ := hQ1 3 (by omega)
          obtain ⟨hc7, hf7⟩ := hQ1 1 (by omega)
          obtain ⟨hc8, hf8⟩ := hQ1 0 (by omega)
          rcases Nat.mod_two_eq_zero_or_one (red P 6 8) with h | h
          · have ht : (((red P 6 8 : Nat) : Int).tmod 2 == 1) = false := by
              rw [Int.tmod_eq_emod_of_nonneg (by omega)]; simp; omega
            have hn := Lib.hid (red_no P 6 8 rfl h)
            go_wp2
            go_roundw
            case rel => exact ⟨0, by omega, rfl, by rw [show 7 - 0 = 6 + 1 from rfl, hn.out]; exact hQ1, hbel⟩
            case measure => simp [intOf]
          · have ht : (((red P 6 8 : Nat) : Int).tmod 2 == 1) = true := by
              rw [Int.tmod_eq_emod_of_nonneg (by omega)]; simp; omega
            have hn := Lib.hid (hQ1.red_yes (p := 4) (q := 3) (r := 1) (s := 0) (by omega) rfl rfl rfl rfl rfl h (hPb.out 6))
            go_wp2
            go_roundw
            case rel => exact ⟨0, by omega, rfl, hn.out, (((hbel.setCell (Nat.le_refl _) _).setCell (Nat.le_refl _) _).setCell (Nat.le_refl _) _).setCell (Nat.le_refl _) _⟩
            case measure => simp [intOf]
        case inr.inr.inl =>
          have hQ2 : Pc wr w.heap.size (red P 5) := hQ
          clear hQ
          have hb8 := hPb.out 5 9
          obtain ⟨hc, hf⟩ := hQ2 9 (by omega)
          obtain ⟨hc4, hf4⟩ := hQ2 5 (by omega)
          obtain ⟨hc5, hf5⟩ := hQ2 4 (by omega)
          obtain ⟨hc7, hf7⟩ := hQ2 2 (by omega)
          obtain ⟨hc8, hf8⟩ := hQ2 1 (by omega)
          rcases Nat.mod_two_eq_zero_or_one (red P 5 9) with h | h
          · have ht : (((red P 5 9 : Nat) : Int).tmod 2 == 1) = false := by
              rw [Int.tmod_eq_emod_of_nonneg (by omega)]; simp; omega
            have hn := Lib.hid (red_no P 5 9 rfl h)
            go_wp2
            go_roundw
            case rel => exact ⟨1, by omega, rfl, by rw [show 7 - 1 = 5 + 1 from rfl, hn.out]; exact hQ2, hbel⟩
            case measure => simp [intOf]
          · have ht : (((red P 5 9 : Nat) : Int).tmod 2 == 1) = true := by
              rw [Int.tmod_eq_emod_of_nonneg (by omega)]; simp; omega
            have hn := Lib.hid (hQ2.red_yes (p := 5) (q := 4) (r := 2) (s := 1) (by omega) rfl rfl rfl rfl rfl h (hPb.out 5))
            go_wp2
            go_roundw
            case rel => exact ⟨1, by omega, rfl, hn.out, (((hbel.setCell (Nat.le_refl _) _).setCell (Nat.le_refl _) _).setCell (Nat.le_refl _) _).setCell (Nat.le_refl _) _⟩
            case measure => simp [intOf]
        case inr.inr.inr.inl =>
          have hQ3 : Pc wr w.heap.size (red P 4) := hQ
          clear hQ
          have hb8 := hPb.out 4 10
          obtain ⟨hc, hf⟩ := hQ3 10 (by omega)
          obtain ⟨hc4, hf4⟩ := hQ3 6 (by omega)
          obtain ⟨hc5, hf5⟩ := hQ3 5 (by omega)
          obtain ⟨hc7, hf7⟩ := hQ3 3 (by omega)
          obtain ⟨hc8, hf8⟩ := hQ3 2 (by omega)
          rcases Nat.mod_two_eq_zero_or_one (red P 4 10) with h | h
          · have ht : (((red P 4 10 : Nat) : Int).tmod 2 == 1) = false := by
              rw [Int.tmod_eq_emod_of_nonneg (by omega)]; simp; omega
            have hn := Lib.hid (red_no P 4 10 rfl h)
            go_wp2
            go_roundw
            case rel => exact ⟨2, by omega, rfl, by rw [show 7 - 2 = 4 + 1 from rfl, hn.out]; exact hQ3, hbel⟩
            case measure => simp [intOf]
          · have ht : (((red P 4 10 : Nat) : Int).tmod 2 == 1) = true := by
              rw [Int.tmod_eq_emod_of_nonneg (by omega)]; simp; omega
            have hn := Lib.hid (hQ3.red_yes (p := 6) (q := 5) (r := 3) (s := 2) (by omega) rfl rfl rfl rfl rfl h (hPb.out 4))
            go_wp2
            go_roundw
            case rel => exact ⟨2, by omega, rfl, hn.out, (((hbel.setCell (Nat.le_refl _) _).setCell (Nat.le_refl _) _).setCell (Nat.le_refl _) _).setCell (Nat.le_refl _) _⟩
            case measure => simp [intOf]
        case inr.inr.inr.inr.inl =>
          have hQ4 : Pc wr w.heap.size (red P 3) := hQ
          clear hQ
          have hb8 := hPb.out 3 11
          obtain ⟨hc, hf⟩ := hQ4 11 (by omega)
          obtain ⟨hc4, hf4⟩ := hQ4 7 (by omega)
          obtain ⟨hc5, hf5⟩ := hQ4 6 (by omega)
          obtain ⟨hc7, hf7⟩ := hQ4 4 (by omega)
          obtain ⟨hc8, hf8⟩ := hQ4 3 (by omega)
          rcases Nat.mod_two_eq_zero_or_one (red P 3 11) with h | h
          · have ht : (((red P 3 11 : Nat) : Int).tmod 2 == 1) = false := by
              rw [Int.tmod_eq_emod_of_nonneg (by omega)]; simp; omega
            have hn := Lib.hid (red_no P 3 11 rfl h)
            go_wp2
            go_roundw
            case rel => exact ⟨3, by omega, rfl, by rw [show 7 - 3 = 3 + 1 from rfl, hn.out]; exact hQ4, hbel⟩
            case measure => simp [intOf]
          · have ht : (((red P 3 11 : Nat) : Int).tmod 2 == 1) = true := by
              rw [Int.tmod_eq_emod_of_nonneg (by omega)]; simp; omega
            have hn := Lib.hid (hQ4.red_yes (p := 7) (q := 6) (r := 4) (s := 3) (by omega) rfl rfl rfl rfl rfl h (hPb.out 3))
            go_wp2
            go_roundw
            case rel => exact ⟨3, by omega, rfl, hn.out, (((hbel.setCell (Nat.le_refl _) _).setCell (Nat.le_refl _) _).setCell (Nat.le_refl _) _).setCell (Nat.le_refl _) _⟩
            case measure => simp [intOf]
        case inr.inr.inr.inr.inr.inl =>
          have hQ5 : Pc wr w.heap.size (red P 2) := hQ
          clear hQ
          have hb8 := hPb.out 2 12
          obtain ⟨hc, hf⟩ := hQ5 12 (by omega)
          obtain ⟨hc4, hf4⟩ := hQ5 8 (by omega)
          obtain ⟨hc5, hf5⟩ := hQ5 7 (by omega)
          obtain ⟨hc7, hf7⟩ := hQ5 5 (by omega)
          obtain ⟨hc8, hf8⟩ := hQ5 4 (by omega)
          rcases Nat.mod_two_eq_zero_or_one (red P 2 12) with h | h
          · have ht : (((red P 2 12 : Nat) : Int).tmod 2 == 1) = false := by
              rw [Int.tmod_eq_emod_of_nonneg (by omega)]; simp; omega
            have hn := Lib.hid (red_no P 2 12 rfl h)
            go_wp2
            go_roundw
            case rel => exact ⟨4, by omega, rfl, by rw [show 7 - 4 = 2 + 1 from rfl, hn.out]; exact hQ5, hbel⟩
            case measure => simp [intOf]
          · have ht : (((red P 2 12 : Nat) : Int).tmod 2 == 1) = true := by
              rw [Int.tmod_eq_emod_of_nonneg (by omega)]; simp; omega
            have hn := Lib.hid (hQ5.red_yes (p := 8) (q := 7) (r := 5) (s := 4) (by omega) rfl rfl rfl rfl rfl h (hPb.out 2))
            go_wp2
            go_roundw
            case rel => exact ⟨4, by omega, rfl, hn.out, (((hbel.setCell (Nat.le_refl _) _).setCell (Nat.le_refl _) _).setCell (Nat.le_refl _) _).setCell (Nat.le_refl _) _⟩
            case measure => simp [intOf]
        case inr.inr.inr.inr.inr.inr.inl =>
          have hQ6 : Pc wr w.heap.size (red P 1) := hQ
          clear hQ
          have hb8 := hPb.out 1 13
          obtain ⟨hc, hf⟩ := hQ6 13 (by omega)
          obtain ⟨hc4, hf4⟩ := hQ6 9 (by omega)
          obtain ⟨hc5, hf5⟩ := hQ6 8 (by omega)
          obtain ⟨hc7, hf7⟩ := hQ6 6 (by omega)
          obtain ⟨hc8, hf8⟩ := hQ6 5 (by omega)
          rcases Nat.mod_two_eq_zero_or_one (red P 1 13) with h | h
          · have ht : (((red P 1 13 : Nat) : Int).tmod 2 == 1) = false := by
              rw [Int.tmod_eq_emod_of_nonneg (by omega)]; simp; omega
            have hn := Lib.hid (red_no P 1 13 rfl h)
            go_wp2
            go_roundw
            case rel => exact ⟨5, by omega, rfl, by rw [show 7 - 5 = 1 + 1 from rfl, hn.out]; exact hQ6, hbel⟩
            case measure => simp [intOf]
          · have ht : (((red P 1 13 : Nat) : Int).tmod 2 == 1) = true := by
              rw [Int.tmod_eq_emod_of_nonneg (by omega)]; simp; omega
            have hn := Lib.hid (hQ6.red_yes (p := 9) (q := 8) (r := 6) (s := 5) (by omega) rfl rfl rfl rfl rfl h (hPb.out 1))
            go_wp2
            go_roundw
            case rel => exact ⟨5, by omega, rfl, hn.out, (((hbel.setCell (Nat.le_refl _) _).setCell (Nat.le_refl _) _).setCell (Nat.le_refl _) _).setCell (Nat.le_refl _) _⟩
            case measure => simp [intOf]
        case inr.inr.inr.inr.inr.inr.inr =>
          have hQ7 : Pc wr w.heap.size (red P 0) := hQ
          clear hQ
          have hb8 := hPb.out 0 14
          obtain ⟨hc, hf⟩ := hQ7 14 (by omega)
          obtain ⟨hc4, hf4⟩ := hQ7 10 (by omega)
          obtain ⟨hc5, hf5⟩ := hQ7 9 (by omega)
          obtain ⟨hc7, hf7⟩ := hQ7 7 (by omega)
          obtain ⟨hc8, hf8⟩ := hQ7 6 (by omega)
          rcases Nat.mod_two_eq_zero_or_one (red P 0 14) with h | h
          · have ht : (((red P 0 14 : Nat) : Int).tmod 2 == 1) = false := by
              rw [Int.tmod_eq_emod_of_nonneg (by omega)]; simp; omega
            have hn := Lib.hid (red_no P 0 14 rfl h)
            go_wp2
            go_roundw
            case rel => exact ⟨6, by omega, rfl, by rw [show 7 - 6 = 0 + 1 from rfl, hn.out]; exact hQ7, hbel⟩
            case measure => simp [intOf]
          · have ht : (((red P 0 14 : Nat) : Int).tmod 2 == 1) = true := by
              rw [Int.tmod_eq_emod_of_nonneg (by omega)]; simp; omega
            have hn := Lib.hid (hQ7.red_yes (p := 10) (q := 9) (r := 7) (s := 6) (by omega) rfl rfl rfl rfl rfl h (hPb.out 0))
            go_wp2
            go_roundw
            case rel => exact ⟨6, by omega, rfl, hn.out, (((hbel.setCell (Nat.le_refl _) _).setCell (Nat.le_refl _) _).setCell (Nat.le_refl _) _).setCell (Nat.le_refl _) _⟩
            case measure => simp [intOf]
end Go.Proofs.YtghcpfcomhfppaaDoor
