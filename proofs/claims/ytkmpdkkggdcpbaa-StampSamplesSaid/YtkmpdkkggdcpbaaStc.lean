/-
  The walks of the six laws of layer 16: for every input each returns true, and writes nothing that was there.
-/
import Derived.Test.YtkmpdkkggdcpbaaStb
namespace Go.Proofs.Ytkmpdkkggdcpbaa
open Go.RowKit
set_option linter.unusedVariables false
set_option linter.unusedSimpArgs false
set_option maxRecDepth 100000

set_option maxHeartbeats 1600000 in
theorem st_matches (a b : Nat) (w : World) (ha : a < 18446744073709551616) (hb : b < 18446744073709551616) :
    Calls Try.prog 3 #[.int .u64 (a : Int), .int .u64 (b : Int)] w fun e w' => e = .returned (.bool true) ∧ Below w.heap.size w w' := by
  obtain ⟨c, hc, hc2, hcd⟩ : ∃ c : Nat, IntKind.u64.wrap ((a : Int) - b) = c ∧ c < 18446744073709551616 ∧ c % 65536 = dfN (a % 65536) (b % 65536) := by
    refine ⟨(IntKind.u64.wrap ((a : Int) - b)).toNat, ?_, ?_, ?_⟩
    · rw [IntKind.wrap_u64]; omega
    · rw [IntKind.wrap_u64]; omega
    · unfold dfN; rw [IntKind.wrap_u64]; omega
  have hC1 := Lib.hid (fun V => stof a V ha)
  have hC2 := Lib.hid (fun V => stof b V hb)
  have hC3 := Lib.hid (fun V => rstof a V ha)
  have hC4 := Lib.hid (fun V => stof c V hc2)
  rw [hcd] at hC4
  obtain ⟨p, hp⟩ : ∃ p, a % 65536 = p := ⟨_, rfl⟩
  obtain ⟨q, hq⟩ : ∃ q, b % 65536 = q := ⟨_, rfl⟩
  have hp2 : p < 65536 := by omega
  have hq2 : q < 65536 := by omega
  rw [hp] at hC1 hC3 hC4
  rw [hq] at hC2 hC4
  have hC5 := Lib.hid (fun V => stdiff p q V hp2 hq2)
  have hC6 := Lib.hid (fun V => rstdiff p q V hp2 hq2)
  have hd := dfN_lt p q
  obtain ⟨d, hdd⟩ : ∃ d, dfN p q = d := ⟨_, rfl⟩
  rw [hdd] at hC4 hC5 hC6 hd
  clear hcd hp hq hdd
  go_enter Try.func3, Try.ntmps3
  go_wp2_with fail
  refine (stawake _).mono ?_
  rintro e w1 ⟨rfl, k1⟩
  go_wp2_with fail
  refine (hC1.out _).mono ?_
  rintro e w' ⟨rfl, rfl⟩
  go_wp2_with fail
  refine (hC2.out _).mono ?_
  rintro e w' ⟨rfl, rfl⟩
  go_wp2_with fail
  refine (hC3.out _).mono ?_
  rintro e w' ⟨rfl, rfl⟩
  go_wp2_with fail
  refine (hC5.out _).mono ?_
  rintro e w' ⟨rfl, rfl⟩
  go_wp2_with fail
  refine (hC6.out _).mono ?_
  rintro e w' ⟨rfl, rfl⟩
  go_wp2_with fail
  refine (hC5.out _).mono ?_
  rintro e w' ⟨rfl, rfl⟩
  go_wp2_with fail
  refine (hC4.out _).mono ?_
  rintro e w' ⟨rfl, rfl⟩
  go_wp2_with fail
  go_ret
  exact ⟨rfl, k1⟩

set_option maxHeartbeats 1600000 in
theorem st_echoes (a x : Nat) (w : World) (ha : a < 65536) (hx : x < 18446744073709551616) :
    Calls Try.prog 5 #[.int .u16 (a : Int), .int .u64 (x : Int)] w fun e w' => e = .returned (.bool true) ∧ Below w.heap.size w w' := by
  have hC1 := Lib.hid (fun V => stecho a x V ha hx)
  have hC2 := Lib.hid (fun V => rstecho a x V ha hx)
  have hd := ecN_lt a x
  generalize ecN a x = d at *
  go_enter Try.func5, Try.ntmps5
  go_wp2_with fail
  refine (stawake _).mono ?_
  rintro e w1 ⟨rfl, k1⟩
  go_wp2_with fail
  refine (hC1.out _).mono ?_
  rintro e w' ⟨rfl, rfl⟩
  go_wp2_with fail
  refine (hC2.out _).mono ?_
  rintro e w' ⟨rfl, rfl⟩
  go_wp2_with fail
  go_ret
  exact ⟨rfl, k1⟩

theorem adds_facts (a : Nat) (n : Int) (ha : a < 65536) (hn : -2147483648 ≤ n ∧ n ≤ 2147483647) :
    ∃ m : Nat, adN a n = m ∧ m < 65536 ∧ adN m (-n) = a ∧ adN a (dfN m a : Nat) = m ∧ ((a : Int) + n.tmod 65536 + 65536) % 65536 = (m : Int) ∧ (-65536 < n.tmod 65536 ∧ n.tmod 65536 < 65536) := by
  have e := Int.tmod_eq_emod (a := n) (b := 65536)
  have h1 : n.tmod 65536 = n % 65536 ∨ (n.tmod 65536 = n % 65536 - 65536 ∧ n % 65536 ≠ 0) := by
    rw [e]; split <;> omega
  refine ⟨_, rfl, adN_lt a n, ?_, ?_, ?_, ?_⟩
  · unfold adN; omega
  · unfold adN dfN; omega
  · unfold adN; omega
  · omega

set_option maxHeartbeats 1600000 in
theorem st_adds (a : Nat) (n : Int) (w : World) (ha : a < 65536) (hn : -2147483648 ≤ n ∧ n ≤ 2147483647) :
    Calls Try.prog 4 #[.int .u16 (a : Int), .int .i32 n] w fun e w' => e = .returned (.bool true) ∧ Below w.heap.size w w' := by
  obtain ⟨m, e1, hm, e2, e3, e4, e5⟩ := adds_facts a n ha hn
  have hC1 := Lib.hid (fun V => stadd a n V ha (by omega))
  rw [e1] at hC1
  have hC2 := Lib.hid (fun V => stadd m (-n) V hm (by omega))
  rw [e2] at hC2
  have hd := dfN_lt m a
  have hC3 := Lib.hid (fun V => stdiff m a V hm ha)
  have hC4 := Lib.hid (fun V => stadd a (dfN m a : Nat) V ha (by omega))
  rw [e3] at hC4
  generalize dfN m a = d at *
  clear e1 e2 e3
  obtain ⟨r, hr⟩ : ∃ r, n.tmod 65536 = r := ⟨_, rfl⟩
  rw [hr] at e4 e5
  go_enter Try.func4, Try.ntmps4
  go_wp2_with fail
  refine (stawake _).mono ?_
  rintro e w1 ⟨rfl, k1⟩
  go_wp2_with fail
  refine (hC1.out _).mono ?_
  rintro e w' ⟨rfl, rfl⟩
  go_wp2_with fail
  refine (hC2.out _).mono ?_
  rintro e w' ⟨rfl, rfl⟩
  go_wp2_with fail
  refine (hC3.out _).mono ?_
  rintro e w' ⟨rfl, rfl⟩
  go_wp2_with fail
  refine (hC4.out _).mono ?_
  rintro e w' ⟨rfl, rfl⟩
  go_wp2_with fail
  go_ret
  exact ⟨rfl, k1⟩

theorem chains_facts (a b c : Nat) (ha : a < 65536) (hb : b < 65536) (hc : c < 65536) :
    dfN a c = (dfN a b + dfN b c) % 65536 ∧ (dfN a b + dfN b a) % 65536 = 0 ∧ adN b (dfN a b : Nat) = a := by
  unfold dfN adN; omega

set_option maxHeartbeats 1600000 in
theorem st_chains (a b c : Nat) (w : World) (ha : a < 65536) (hb : b < 65536) (hc : c < 65536) :
    Calls Try.prog 8 #[.int .u16 (a : Int), .int .u16 (b : Int), .int .u16 (c : Int)] w fun e w' => e = .returned (.bool true) ∧ Below w.heap.size w w' := by
  obtain ⟨e1, e2, e3⟩ := chains_facts a b c ha hb hc
  have h1 := dfN_lt a b
  have h2 := dfN_lt b c
  have h3 := dfN_lt b a
  have h4 := dfN_lt a c
  have hC1 := Lib.hid (fun V => rstdiff a b V ha hb)
  have hC2 := Lib.hid (fun V => rstdiff b c V hb hc)
  have hC3 := Lib.hid (fun V => stdiff a c V ha hc)
  have hC4 := Lib.hid (fun V => stdiff a b V ha hb)
  have hC5 := Lib.hid (fun V => stdiff b a V hb ha)
  have hC6 := Lib.hid (fun V => stadd b (dfN a b : Nat) V hb (by omega))
  rw [e3] at hC6
  generalize dfN a b = x at *
  generalize dfN b c = y at *
  generalize dfN b a = z at *
  generalize dfN a c = q at *
  have e4 : ((x : Int) + y) % 65536 = (q : Int) := by omega
  have e5 : IntKind.u16.wrap ((x : Int) + z) = 0 := by rw [IntKind.wrap_u16]; omega
  clear e1 e2 e3
  go_enter Try.func8, Try.ntmps8
  go_wp2_with fail
  refine (stawake _).mono ?_
  rintro e w1 ⟨rfl, k1⟩
  go_wp2_with fail
  refine (hC1.out _).mono ?_
  rintro e w' ⟨rfl, rfl⟩
  go_wp2_with fail
  refine (hC2.out _).mono ?_
  rintro e w' ⟨rfl, rfl⟩
  go_wp2_with fail
  refine (hC3.out _).mono ?_
  rintro e w' ⟨rfl, rfl⟩
  go_wp2_with fail
  refine (hC4.out _).mono ?_
  rintro e w' ⟨rfl, rfl⟩
  go_wp2_with fail
  refine (hC5.out _).mono ?_
  rintro e w' ⟨rfl, rfl⟩
  go_wp2_with fail
  refine (hC6.out _).mono ?_
  rintro e w' ⟨rfl, rfl⟩
  go_wp2_with fail
  go_ret
  exact ⟨rfl, k1⟩

theorem samples_facts (s x v : Nat) (hs : s ≤ 4611686018427387904) (hx : x < 65536) (hv : v < 65536) (he : ecN (s % 65536) x ≠ 65535) : dfN ((s + x + v) % 65536) (ecN (s % 65536) x) = v := by
  have h : ¬ 1000 < x := by intro h; apply he; unfold ecN; rw [if_pos h]
  unfold ecN at *
  rw [if_neg h] at *
  unfold dfN; omega

set_option maxHeartbeats 1600000 in
theorem st_samples (s x v : Nat) (w : World) (hs : s < 18446744073709551616) (hx : x < 65536) (hv : v < 65536) :
    Calls Try.prog 6 #[.int .u64 (s : Int), .int .u16 (x : Int), .int .u16 (v : Int)] w fun e w' => e = .returned (.bool true) ∧ Below w.heap.size w w' := by
  by_cases hs2 : 4611686018427387904 < s
  · go_enter Try.func6, Try.ntmps6
    go_wp2_with fail
    refine (stawake _).mono ?_
    rintro e w1 ⟨rfl, k1⟩
    go_wp2_with fail
    refine (stawake _).mono ?_
    rintro e w2 ⟨rfl, k2⟩
    have k1 := k1.trans (k2.mono k1.size)
    go_wp2_with fail
    go_ret
    exact ⟨rfl, k1⟩
  have hf := samples_facts s x v (by omega) hx hv
  have hC1 := Lib.hid (fun V => stof s V hs)
  have hp : s % 65536 < 65536 := by omega
  have hC2 := Lib.hid (fun V => stecho (s % 65536) x V hp (by omega))
  have hC3 := Lib.hid (fun V => stof (s + x + v) V (by omega))
  have hq : (s + x + v) % 65536 < 65536 := by omega
  have he := ecN_lt (s % 65536) x
  have hC4 := Lib.hid (fun V => stsample ((s + x + v) % 65536) (ecN (s % 65536) x) V hq he)
  have hC5 := Lib.hid (fun V => rstsample ((s + x + v) % 65536) (ecN (s % 65536) x) V hq he)
  generalize ecN (s % 65536) x = g at *
  by_cases hg : g = 65535
  · subst hg
    rw [show smN ((s + x + v) % 65536) 65535 = 0 from rfl] at hC4
    clear hf hC5
    generalize s % 65536 = p at *
    have e1 : (s : Int) + x + v = ((s + x + v : Nat) : Int) := by omega
    obtain ⟨c, hc⟩ : ∃ c, s + x + v = c := ⟨_, rfl⟩
    have hc2 : c < 18446744073709551616 := by omega
    rw [hc] at hC3 hC4 hq e1
    clear hc
    generalize c % 65536 = q at *
    go_enter Try.func6, Try.ntmps6
    go_wp2_with fail
    refine (stawake _).mono ?_
    rintro e w1 ⟨rfl, k1⟩
    go_wp2_with fail
    refine (hC1.out _).mono ?_
    rintro e w' ⟨rfl, rfl⟩
    go_wp2_with fail
    refine (hC2.out _).mono ?_
    rintro e w' ⟨rfl, rfl⟩
    go_wp2_with fail
    refine (hC3.out _).mono ?_
    rintro e w' ⟨rfl, rfl⟩
    go_wp2_with fail
    refine (hC4.out _).mono ?_
    rintro e w2 ⟨rfl, k2⟩
    rw [show decide (65535 ≠ 65535) = false from rfl]
    have k1 := k1.trans (k2.mono k1.size)
    go_wp2_with fail
    go_ret
    exact ⟨rfl, k1⟩
  · have hf := hf hg
    have e0 : smN ((s + x + v) % 65536) g = v := by unfold smN; rw [if_neg hg, hf]
    rw [e0, decide_eq_true (show g ≠ 65535 from hg)] at hC4
    rw [if_neg hg, hf] at hC5
    clear hf e0
    generalize s % 65536 = p at *
    have e1 : (s : Int) + x + v = ((s + x + v : Nat) : Int) := by omega
    obtain ⟨c, hc⟩ : ∃ c, s + x + v = c := ⟨_, rfl⟩
    have hc2 : c < 18446744073709551616 := by omega
    rw [hc] at hC3 hC4 hC5 hq e1
    clear hc
    generalize c % 65536 = q at *
    have hg2 : ((g : Int) == 65535) = false := by simp; omega
    go_enter Try.func6, Try.ntmps6
    go_wp2_with fail
    refine (stawake _).mono ?_
    rintro e w1 ⟨rfl, k1⟩
    go_wp2_with fail
    refine (hC1.out _).mono ?_
    rintro e w' ⟨rfl, rfl⟩
    go_wp2_with fail
    refine (hC2.out _).mono ?_
    rintro e w' ⟨rfl, rfl⟩
    go_wp2_with fail
    refine (hC3.out _).mono ?_
    rintro e w' ⟨rfl, rfl⟩
    go_wp2_with fail
    refine (hC4.out _).mono ?_
    rintro e w2 ⟨rfl, k2⟩
    have k1 := k1.trans (k2.mono k1.size)
    go_wp2_with fail
    refine (hC5.out _).mono ?_
    rintro e w' ⟨rfl, rfl⟩
    go_wp2_with fail
    go_ret
    exact ⟨rfl, k1⟩

theorem before_facts (a b : Nat) (ha : a < 65536) (hb : b < 65536) : (dfN b a = 0 ∧ bfN a b = false) ∨ (1 ≤ dfN b a ∧ dfN b a ≤ 32767 ∧ bfN a b = true ∧ bfN b a = false) ∨ (32767 < dfN b a ∧ bfN a b = false) := by
  have h : ∀ x y, bfN x y = decide (1 ≤ dfN y x ∧ dfN y x ≤ 32767) := fun _ _ => rfl
  rw [h, h, decide_eq_false_iff_not, decide_eq_true_iff, decide_eq_false_iff_not]
  unfold dfN; omega
theorem before_late (t n c : Nat) (ht : t < 18446744073709551616) (h0 : n ≠ 0) (hn : n ≤ 32767) (hc : IntKind.u64.wrap ((t : Int) + n) = (c : Int)) : bfN (t % 65536) (c % 65536) = true := by
  unfold bfN dfN
  rw [decide_eq_true_iff]
  rw [IntKind.wrap_u64] at hc
  omega

set_option maxHeartbeats 1600000 in
theorem st_before (a b t n : Nat) (w : World) (ha : a < 65536) (hb : b < 65536) (ht : t < 18446744073709551616) (hn : n < 65536) :
    Calls Try.prog 7 #[.int .u16 (a : Int), .int .u16 (b : Int), .int .u64 (t : Int), .int .u16 (n : Int)] w fun e w' => e = .returned (.bool true) ∧ Below w.heap.size w w' := by
  have hd := dfN_lt b a
  have hf := before_facts a b ha hb
  have hC1 := Lib.hid (fun V => rstdiff b a V hb ha)
  have hC2 := Lib.hid (fun V => stbefore a b V ha hb)
  have hC3 := Lib.hid (fun V => stbefore b a V hb ha)
  obtain ⟨c, hc, hc2⟩ : ∃ c : Nat, IntKind.u64.wrap ((t : Int) + n) = (c : Int) ∧ c < 18446744073709551616 := by
    refine ⟨(IntKind.u64.wrap ((t : Int) + n)).toNat, ?_, ?_⟩
    · rw [IntKind.wrap_u64]; omega
    · rw [IntKind.wrap_u64]; omega
  generalize dfN b a = d at *
  have hC7 := Lib.hid (fun V => stof t V ht)
  have hC8 := Lib.hid (fun V => stof c V hc2)
  have hC9 := Lib.hid (fun V => stbefore (t % 65536) (c % 65536) V (by omega) (by omega))
  have hL := Lib.hid (fun h0 h1 => before_late t n c ht h0 h1 hc)
  have hcc := Lib.hid hc
  clear hc
  generalize t % 65536 = p at *
  generalize c % 65536 = q at *
  have hn3 : (n = 0 ∨ 32767 < n) ∨ (n ≠ 0 ∧ n ≤ 32767) := by omega
  rcases hf with ⟨h0, h1⟩ | ⟨h0, h1, h2, h3⟩ | ⟨h0, h1⟩
  · subst h0
    rw [h1] at hC2
    clear h1
    rcases hn3 with (n0 | n0) | ⟨n0, n2⟩
    · subst n0
      clear hC7 hC8 hC9 hL hcc hc2
      go_enter Try.func7, Try.ntmps7
      go_wp2_with fail
      refine (stawake _).mono ?_
      rintro e w1 ⟨rfl, k1⟩
      go_wp2_with fail
      refine (hC1.out _).mono ?_
      rintro e w' ⟨rfl, rfl⟩
      go_wp2_with fail
      refine (hC2.out _).mono ?_
      rintro e w' ⟨rfl, rfl⟩
      go_wp2_with fail
      refine (hC2.out _).mono ?_
      rintro e w' ⟨rfl, rfl⟩
      go_wp2_with fail
      go_ret
      exact ⟨rfl, k1⟩
    · clear hC7 hC8 hC9 hL hcc hc2
      have n1 : ((n : Int) == 0) = false := by simp; omega
      go_enter Try.func7, Try.ntmps7
      go_wp2_with fail
      refine (stawake _).mono ?_
      rintro e w1 ⟨rfl, k1⟩
      go_wp2_with fail
      refine (hC1.out _).mono ?_
      rintro e w' ⟨rfl, rfl⟩
      go_wp2_with fail
      refine (hC2.out _).mono ?_
      rintro e w' ⟨rfl, rfl⟩
      go_wp2_with fail
      refine (hC2.out _).mono ?_
      rintro e w' ⟨rfl, rfl⟩
      go_wp2_with fail
      go_ret
      exact ⟨rfl, k1⟩
    · have n1 : ((n : Int) == 0) = false := by simp; omega
      have hL := hL.out n0 n2
      rw [hL] at hC9
      have hcc := hcc.out
      clear hL n0
      go_enter Try.func7, Try.ntmps7
      go_wp2_with fail
      refine (stawake _).mono ?_
      rintro e w1 ⟨rfl, k1⟩
      go_wp2_with fail
      refine (hC1.out _).mono ?_
      rintro e w' ⟨rfl, rfl⟩
      go_wp2_with fail
      refine (hC2.out _).mono ?_
      rintro e w' ⟨rfl, rfl⟩
      go_wp2_with fail
      refine (hC2.out _).mono ?_
      rintro e w' ⟨rfl, rfl⟩
      go_wp2_with fail
      refine (hC7.out _).mono ?_
      rintro e w' ⟨rfl, rfl⟩
      go_wp2_with fail
      refine (hC8.out _).mono ?_
      rintro e w' ⟨rfl, rfl⟩
      go_wp2_with fail
      refine (hC9.out _).mono ?_
      rintro e w' ⟨rfl, rfl⟩
      go_wp2_with fail
      go_ret
      exact ⟨rfl, k1⟩
  · rw [h2] at hC2
    rw [h3] at hC3
    clear h2 h3
    have h4 : decide ((d : Int) ≤ 32767) = true := decide_eq_true (by omega)
    rcases hn3 with (n0 | n0) | ⟨n0, n2⟩
    · subst n0
      clear hC7 hC8 hC9 hL hcc hc2
      go_enter Try.func7, Try.ntmps7
      go_wp2_with fail
      refine (stawake _).mono ?_
      rintro e w1 ⟨rfl, k1⟩
      go_wp2_with fail
      refine (hC1.out _).mono ?_
      rintro e w' ⟨rfl, rfl⟩
      go_wp2_with fail
      refine (hC2.out _).mono ?_
      rintro e w' ⟨rfl, rfl⟩
      go_wp2_with fail
      refine (hC2.out _).mono ?_
      rintro e w' ⟨rfl, rfl⟩
      go_wp2_with fail
      refine (hC3.out _).mono ?_
      rintro e w' ⟨rfl, rfl⟩
      go_wp2_with fail
      go_ret
      exact ⟨rfl, k1⟩
    · clear hC7 hC8 hC9 hL hcc hc2
      have n1 : ((n : Int) == 0) = false := by simp; omega
      go_enter Try.func7, Try.ntmps7
      go_wp2_with fail
      refine (stawake _).mono ?_
      rintro e w1 ⟨rfl, k1⟩
      go_wp2_with fail
      refine (hC1.out _).mono ?_
      rintro e w' ⟨rfl, rfl⟩
      go_wp2_with fail
      refine (hC2.out _).mono ?_
      rintro e w' ⟨rfl, rfl⟩
      go_wp2_with fail
      refine (hC2.out _).mono ?_
      rintro e w' ⟨rfl, rfl⟩
      go_wp2_with fail
      refine (hC3.out _).mono ?_
      rintro e w' ⟨rfl, rfl⟩
      go_wp2_with fail
      go_ret
      exact ⟨rfl, k1⟩
    · have n1 : ((n : Int) == 0) = false := by simp; omega
      have hL := hL.out n0 n2
      rw [hL] at hC9
      have hcc := hcc.out
      clear hL n0
      go_enter Try.func7, Try.ntmps7
      go_wp2_with fail
      refine (stawake _).mono ?_
      rintro e w1 ⟨rfl, k1⟩
      go_wp2_with fail
      refine (hC1.out _).mono ?_
      rintro e w' ⟨rfl, rfl⟩
      go_wp2_with fail
      refine (hC2.out _).mono ?_
      rintro e w' ⟨rfl, rfl⟩
      go_wp2_with fail
      refine (hC2.out _).mono ?_
      rintro e w' ⟨rfl, rfl⟩
      go_wp2_with fail
      refine (hC3.out _).mono ?_
      rintro e w' ⟨rfl, rfl⟩
      go_wp2_with fail
      refine (hC7.out _).mono ?_
      rintro e w' ⟨rfl, rfl⟩
      go_wp2_with fail
      refine (hC8.out _).mono ?_
      rintro e w' ⟨rfl, rfl⟩
      go_wp2_with fail
      refine (hC9.out _).mono ?_
      rintro e w' ⟨rfl, rfl⟩
      go_wp2_with fail
      go_ret
      exact ⟨rfl, k1⟩
  · rw [h1] at hC2
    clear h1
    have h4 : decide ((d : Int) ≤ 32767) = false := decide_eq_false (by omega)
    rcases hn3 with (n0 | n0) | ⟨n0, n2⟩
    · subst n0
      clear hC7 hC8 hC9 hL hcc hc2
      go_enter Try.func7, Try.ntmps7
      go_wp2_with fail
      refine (stawake _).mono ?_
      rintro e w1 ⟨rfl, k1⟩
      go_wp2_with fail
      refine (hC1.out _).mono ?_
      rintro e w' ⟨rfl, rfl⟩
      go_wp2_with fail
      refine (hC2.out _).mono ?_
      rintro e w' ⟨rfl, rfl⟩
      go_wp2_with fail
      refine (hC2.out _).mono ?_
      rintro e w' ⟨rfl, rfl⟩
      go_wp2_with fail
      go_ret
      exact ⟨rfl, k1⟩
    · clear hC7 hC8 hC9 hL hcc hc2
      have n1 : ((n : Int) == 0) = false := by simp; omega
      go_enter Try.func7, Try.ntmps7
      go_wp2_with fail
      refine (stawake _).mono ?_
      rintro e w1 ⟨rfl, k1⟩
      go_wp2_with fail
      refine (hC1.out _).mono ?_
      rintro e w' ⟨rfl, rfl⟩
      go_wp2_with fail
      refine (hC2.out _).mono ?_
      rintro e w' ⟨rfl, rfl⟩
      go_wp2_with fail
      refine (hC2.out _).mono ?_
      rintro e w' ⟨rfl, rfl⟩
      go_wp2_with fail
      go_ret
      exact ⟨rfl, k1⟩
    · have n1 : ((n : Int) == 0) = false := by simp; omega
      have hL := hL.out n0 n2
      rw [hL] at hC9
      have hcc := hcc.out
      clear hL n0
      go_enter Try.func7, Try.ntmps7
      go_wp2_with fail
      refine (stawake _).mono ?_
      rintro e w1 ⟨rfl, k1⟩
      go_wp2_with fail
      refine (hC1.out _).mono ?_
      rintro e w' ⟨rfl, rfl⟩
      go_wp2_with fail
      refine (hC2.out _).mono ?_
      rintro e w' ⟨rfl, rfl⟩
      go_wp2_with fail
      refine (hC2.out _).mono ?_
      rintro e w' ⟨rfl, rfl⟩
      go_wp2_with fail
      refine (hC7.out _).mono ?_
      rintro e w' ⟨rfl, rfl⟩
      go_wp2_with fail
      refine (hC8.out _).mono ?_
      rintro e w' ⟨rfl, rfl⟩
      go_wp2_with fail
      refine (hC9.out _).mono ?_
      rintro e w' ⟨rfl, rfl⟩
      go_wp2_with fail
      go_ret
      exact ⟨rfl, k1⟩
end Go.Proofs.Ytkmpdkkggdcpbaa
