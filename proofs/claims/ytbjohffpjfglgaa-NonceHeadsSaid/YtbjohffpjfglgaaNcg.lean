/-
  Contracts of package nonce: Head, Whole, Make, Parse, by walks through their texts; what was there stays as it was.
-/
import Derived.Test.YtbjohffpjfglgaaNcf
import Derived.ArgAppend
namespace Go.Proofs.Ytbjohffpjfglgaa
open Go.RowKit
set_option linter.unusedVariables false
set_option maxRecDepth 100000

set_option linter.unusedSimpArgs false
theorem info8n : (Try.prog.info? 5).map (fun i => (i.zero, i.size, i.bytes)) = some (some (.int .u8 0), 1, 1) := by kernel_rfl
theorem wp_append_cells {P : Program} (w : World) {o : Oper} {a : Act} {K : Act → World → Prop} {Q : Exit → Act → World → Prop} (s x : Operand) (t : TypeId)
    (ho : o.op = .call { callee := .builtin .append, args := #[s, x], argTypes := #[t, t] })
    (e : TypeId) (i : TypeInfo) (ht : P.underlying t = some (.slice e)) (hi : P.info? e = some i) (hsize : i.size = 1)
    (b off n cap : Nat) (hs : a.eval s = .slice (some ⟨b, off, none⟩) n cap) (ad : Addr) (m c : Nat) (news : List Value) (hx : a.eval x = .slice (some ad) m c) (hl : news.length = m)
    (hnews : ∀ j u, news[j]? = some u → w.cell? (ad.add j) = some u) (h1 : ∀ u ∈ news, u.oneCell' = true) (hroom : n + m ≤ cap)
    (hc : ∀ j, j < news.length → ∃ k, w.cell? ⟨b, off + n + j, none⟩ = some k ∧ w.frozen? ⟨b, off + n + j, none⟩ = false)
    (h : K (a.put o.dst (.slice (some ⟨b, off, none⟩) (n + m) cap)) (w.setCells b (off + n) news)) : o.wp P a w K Q := by
  have hr := run_append_room_cells (P := P) w t o.type e i ht hi b off n cap ad m c news (by rw [hsize, Nat.mul_one]; exact hl) hnews h1 hroom (fun j hj => by obtain ⟨k, hk, _⟩ := hc j hj; rw [hsize, Nat.mul_one, hk]; rfl) (fun j hj => by obtain ⟨k, _, hk⟩ := hc j hj; rw [hsize, Nat.mul_one, hk])
  rw [hsize, Nat.mul_one] at hr
  unfold Oper.wp execOp
  simp only [ho, resolve, invoke, builtin, Sem.run_bind, Sem.run_pure, Result.andThen_ok, List.map_toArray, List.map_cons, List.map_nil, hs, hx, hr]
  exact h
theorem arrayAt12n (g o c : Nat) (w : World) : (Instr.arrayAt 27 (.slice (some ⟨g, o, none⟩) 12 c)).run Try.prog w = .ok (.pointer (some ⟨g, o, none⟩)) w := by
  simp [Instr.arrayAt, run_underlying Try.arr12n]
theorem slice412 (g : Nat) (w : World) : (Instr.sliceAt 27 (.pointer (some ⟨g, 0, none⟩)) none (some (.int .i64 4)) (some (.int .i64 12))).run Try.prog w = .ok (.slice (some ⟨g, 0, none⟩) 4 12) w := by
  have hal : Try.prog.arrayLen 27 = 12 := by simp [Program.arrayLen]
  have hel : Try.prog.elem 27 = 5 := by simp [Program.elem]
  have hs : (sizeOf 5).run Try.prog w = .ok 1 w := by kernel_rfl
  rw [run_sliceAt_array_hm w 27 ⟨g, 0, none⟩ (by rw [hal, hel]; exact Try.arr12n) .i64 .i64 4 12 (by omega) (by omega) (by rw [hal]; omega), hel, hs]
  simp [Result.andThen_ok, slicedAt, Addr.add]
theorem slice8a (g : Nat) (w : World) : (Instr.sliceAt 24 (.pointer (some ⟨g, 0, none⟩)) none none none).run Try.prog w = .ok (.slice (some ⟨g, 0, none⟩) 8 8) w := by
  have hal : Try.prog.arrayLen 24 = 8 := by simp [Program.arrayLen]
  have hel : Try.prog.elem 24 = 5 := by simp [Program.elem]
  have hs : (sizeOf 5).run Try.prog w = .ok 1 w := by kernel_rfl
  rw [run_sliceAt_array_all w 24 ⟨g, 0, none⟩ (by rw [hal, hel]; exact Try.arr8n), hal, hel, hs]
  simp [Result.andThen_ok, slicedAt, Addr.add]
theorem noW {h : Nat → Nat} : ∀ j, j < 12 → putO (fun _ => 0) h 4 8 j = noF h j := fun j hj => by
  unfold putO noF
  by_cases e : j < 4
  · rw [if_pos e, if_neg (by omega)]
  · rw [if_neg e, if_pos (by omega)]

set_option maxHeartbeats 1600000 in
theorem nhead (d : Int) (x : Nat) (w : World) (hd : -9223372036854775808 ≤ d ∧ d ≤ 9223372036854775807) (hx : x < 18446744073709551616) :
    Calls Try.prog 9 #[.int .i64 d, .int .u64 (x : Int)] w fun e w' => e = .returned (.tuple #[.agg (arL 8 (hdZ d x)).toArray, .bool (okN d x)]) ∧ Below w.heap.size w w' := by
  have hz := zero8n
  have hat := arrayAt8n
  by_cases hk : d = 0 ∨ d = 1
  · by_cases hx2 : x < 9223372036854775808
    · obtain ⟨m, rfl⟩ : ∃ m : Nat, d = (m : Int) := ⟨d.toNat, by omega⟩
      have hm : m < 2 := by omega
      have HK := Lib.hid (ok_yes hk hx2)
      rw [HK.out]
      obtain ⟨y, hy⟩ : ∃ y, hnN m x = y := ⟨_, rfl⟩
      have HY := Lib.hid (show y < 18446744073709551616 by rw [← hy]; exact hn_lt hm hx2)
      obtain ⟨H, hH⟩ : ∃ H, hdZ (m : Int) x = H := ⟨_, rfl⟩
      have HL := Lib.hid (show lF (byt y 8) = H by rw [← hH, ← hy]; unfold hdZ; rw [HK.out, if_pos rfl, Int.toNat_natCast]; rfl)
      rw [hH]
      have a1 := or63_u64 hm hx2 hy
      have a2 : IntKind.u64.wrap (m : Int) = (m : Int) := wraps_u64' _ (by omega) (by omega)
      have i1 : ¬ ((x : Int) > 9223372036854775807) := by omega
      have HD := Lib.hid (decide_eq_true hk)
      clear hH hy hx hx2 hm hk HK
      obtain ⟨w1, hw1⟩ : ∃ w1 : World, w1 = w.alloc (.cells (arL 8 fun _ => 0).toArray 24) := ⟨_, rfl⟩
      have hb1 : Below w.heap.size w w1 := by rw [hw1]; exact (Below.refl _ _).alloc (Nat.le_refl _) _
      have hR1 : Ar w1 w.heap.size 8 (fun _ => 0) := by rw [hw1]; exact Ar.new w 8 _ _
      have HK9 := Lib.hid (nknown m w1 hd)
      clear hd
      go_enter Try.func9, Try.ntmps9
      go_upto_region 1 with fail
      rw [← hw1]
      clear hw1
      go_wp2_with fail
      refine HK9.out.mono ?_
      clear HK9
      rintro e w2 ⟨rfl, rfl⟩
      have hR2 := hR1
      have hb2 := hb1
      clear hR1 hb1
      rw [HD.out]
      go_upto_region 4 with fail
      go_wp2_with fail
      refine (bytes y 8 _ HY.out (by omega)).mono ?_
      rintro e w3 ⟨A, c, rfl, hown, hq⟩
      rw [show min (8 : Int).toNat 8 = 8 from rfl] at hown
      try rw [show min (8 : Int).toNat 8 = 8 from rfl]
      obtain ⟨g, cap, hv, _, _⟩ := World.ownsRow.form hown (by omega)
      injection hv with e1 e2 e3
      subst e1
      subst e3
      have hr : w3.rangeAt g 0 (arL 8 (H)) := by rw [← HL.out]; exact own_range8 hown
      have hR3 := hR2.to (by omega) hq
      have hB3 := hb2.trans (hq.mono hb2.size)
      clear hown hq hR2 hb2
      go_wp2_with (first
        | (refine wpList_load_mid rfl _ _ rfl g 0 rfl (arL 8 (H)) _ hr Try.arr8n rfl (size8n _) ?_)
        | (refine wpList_store_ar rfl _ _ _ rfl _ _ _ (H) rfl rfl hR3 (size8n _) ?_; intro w8 hA8 hb8 _ _))
      refine bodyPost_ret_ar2 rfl rfl rfl hA8 Try.arr8n (size8n _) rfl ⟨rfl, ?_⟩
      exact hB3.trans (hb8.mono (Nat.le_refl _))
    · have HK := Lib.hid (ok_no (d := d) (x := x) (by omega))
      have HD := Lib.hid (decide_eq_true hk)
      have HH := Lib.hid (show hdZ d x = fun _ => 0 by unfold hdZ; rw [HK.out, if_neg (by simp)])
      have i1 : (x : Int) > 9223372036854775807 := by omega
      clear hx hx2 hk
      obtain ⟨w1, hw1⟩ : ∃ w1 : World, w1 = w.alloc (.cells (arL 8 fun _ => 0).toArray 24) := ⟨_, rfl⟩
      have hb1 : Below w.heap.size w w1 := by rw [hw1]; exact (Below.refl _ _).alloc (Nat.le_refl _) _
      have hR1 : Ar w1 w.heap.size 8 (fun _ => 0) := by rw [hw1]; exact Ar.new w 8 _ _
      have HK9 := Lib.hid (nknown d w1 hd)
      clear hd
      go_enter Try.func9, Try.ntmps9
      go_upto_region 1 with fail
      rw [← hw1]
      clear hw1
      go_wp2_with fail
      refine HK9.out.mono ?_
      clear HK9
      rintro e w2 ⟨rfl, rfl⟩
      have hR2 := hR1
      have hb2 := hb1
      clear hR1 hb1
      rw [HD.out]
      go_wp2_with (first | (refine wpList_build_by rfl _ _ rfl [] rfl _ (zeron8 _) ?_) | (refine wpList_store_ar rfl _ _ _ rfl _ _ _ (fun _ => 0) rfl rfl hR2 (size8n _) ?_; intro w8 hA8 hb8 _ _))
      refine bodyPost_ret_ar2 rfl rfl rfl hA8 Try.arr8n (size8n _) rfl ⟨by rw [HK.out, HH.out]; rfl, ?_⟩
      exact hb2.trans (hb8.mono (Nat.le_refl _))
  · have HK := Lib.hid (ok_no (d := d) (x := x) (by omega))
    have HD := Lib.hid (decide_eq_false hk)
    have HH := Lib.hid (show hdZ d x = fun _ => 0 by unfold hdZ; rw [HK.out, if_neg (by simp)])
    clear hx hk
    obtain ⟨w1, hw1⟩ : ∃ w1 : World, w1 = w.alloc (.cells (arL 8 fun _ => 0).toArray 24) := ⟨_, rfl⟩
    have hb1 : Below w.heap.size w w1 := by rw [hw1]; exact (Below.refl _ _).alloc (Nat.le_refl _) _
    have hR1 : Ar w1 w.heap.size 8 (fun _ => 0) := by rw [hw1]; exact Ar.new w 8 _ _
    have HK9 := Lib.hid (nknown d w1 hd)
    clear hd
    go_enter Try.func9, Try.ntmps9
    go_upto_region 1 with fail
    rw [← hw1]
    clear hw1
    go_wp2_with fail
    refine HK9.out.mono ?_
    clear HK9
    rintro e w2 ⟨rfl, rfl⟩
    have hR2 := hR1
    have hb2 := hb1
    clear hR1 hb1
    rw [HD.out]
    go_wp2_with (first | (refine wpList_build_by rfl _ _ rfl [] rfl _ (zeron8 _) ?_) | (refine wpList_store_ar rfl _ _ _ rfl _ _ _ (fun _ => 0) rfl rfl hR2 (size8n _) ?_; intro w8 hA8 hb8 _ _))
    refine bodyPost_ret_ar2 rfl rfl rfl hA8 Try.arr8n (size8n _) rfl ⟨by rw [HK.out, HH.out]; rfl, ?_⟩
    exact hb2.trans (hb8.mono (Nat.le_refl _))

set_option maxHeartbeats 1600000 in
theorem nwhole (h : Nat → Nat) (w : World) (hh : ∀ j, j < 8 → h j < 256) :
    Calls Try.prog 16 #[.agg (arL 8 h).toArray] w fun e w' => e = .returned (.agg (arL 12 (noF h)).toArray) ∧ Below w.heap.size w w' := by
  have hz := zero12n
  have HB := Lib.hid hh
  obtain ⟨kK, hkK⟩ : ∃ k : Array Value, (arL 8 (h)).toArray = k := ⟨_, rfl⟩
  obtain ⟨w1, hw1⟩ : ∃ V : World, V = w.alloc (.cells (arL 8 (h)).toArray 24) := ⟨_, rfl⟩
  have hs1 : w1.heap.size = w.heap.size + 1 := by rw [hw1]; simp
  have hBw1 : Below w.heap.size w w1 := by rw [hw1]; exact (Below.refl _ _).alloc (Nat.le_refl _) _
  have hKw1 : Ar w1 w.heap.size 8 (h) := by rw [hw1]; exact Ar.new w 8 _ _
  obtain ⟨w2, hw2⟩ : ∃ V : World, V = w1.alloc (.cells (arL 12 (fun _ => 0)).toArray 27) := ⟨_, rfl⟩
  have hs2 : w2.heap.size = w.heap.size + 2 := by rw [hw2]; simp [hs1]
  have hBw2 : Below w.heap.size w w2 := by rw [hw2]; exact hBw1.alloc (by omega) _
  have hKw2 := hKw1.alloc (by omega) (.cells (arL 12 (fun _ => 0)).toArray 27)
  rw [← hw2] at hKw2
  have hRw2 : Ar w2 (w.heap.size + 1) 12 (fun _ => 0) := by rw [hw2, ← hs1]; exact Ar.new w1 12 _ _
  clear hKw1 hBw1
  obtain ⟨w3, hw3⟩ : ∃ V : World, V = w2.alloc (.cells (arL 12 (fun _ => 0)).toArray 27) := ⟨_, rfl⟩
  have hs3 : w3.heap.size = w.heap.size + 3 := by rw [hw3]; simp [hs2]
  have hBw3 : Below w.heap.size w w3 := by rw [hw3]; exact hBw2.alloc (by omega) _
  have hKw3 := hKw2.alloc (by omega) (.cells (arL 12 (fun _ => 0)).toArray 27)
  rw [← hw3] at hKw3
  have hRw3 := hRw2.alloc (by omega) (.cells (arL 12 (fun _ => 0)).toArray 27)
  rw [← hw3] at hRw3
  have hNw3 : Ar w3 (w.heap.size + 2) 12 (fun _ => 0) := by rw [hw3, ← hs2]; exact Ar.new w2 12 _ _
  clear hKw2 hRw2 hBw2
  have HKK := Lib.hid hkK
  rw [hkK] at hw1
  rw [hkK]
  clear hkK
  obtain ⟨i0, hi0, hz0, hz1, hz2⟩ := info_parts info8n
  have HI0 := Lib.hid hi0
  have HZ1 := Lib.hid hz1
  clear hi0 hz0 hz1 hz2 hh
  have hat := arrayAt12n
  go_enter Try.func16, Try.ntmps16
  go_upto_region 2 with fail
  rw [← hw1, ← hw2, ← hw3]
  clear hw1 hw2 hw3
  try simp only [Nat.add_assoc, Nat.reduceAdd]
  obtain ⟨gR, hgR⟩ : ∃ g : Nat, w.heap.size + 1 = g := ⟨_, rfl⟩
  rw [hgR] at hRw3
  obtain ⟨gN, hgN⟩ : ∃ g : Nat, w.heap.size + 2 = g := ⟨_, rfl⟩
  rw [hgN] at hNw3
  try rw [hgN]
  try rw [hgR]
  have hlR : w.heap.size < gR := by omega
  have hlN : gR < gN := by omega
  clear hs1 hs2 hs3 hgR hgN
  refine wp_region_noPanic ?_
  have hRqd := hRw3.drew
  have hNqd := hNw3.drew
  refine wp_region_held_drew (S := fun W => Ar W w.heap.size 8 (h) ∧ Below w.heap.size w W) (by kernel_rfl) ⟨hKw3.drew, hBw3.drew⟩ (fun hHeld => ?_)
  clear hKw3 hBw3 hRw3 hNw3
  generalize World.drew w3 = qd at *
  refine wpAnyH_take (i := 0) (v := ?vq1) rfl (by kernel_rfl) (by kernel_rfl) (by kernel_rfl) (fun _ _ _ h => h) (Or.inl ⟨by rfl, ?hyq1⟩) (by assumption) ?restq1
  case hyq1 =>
    intro W hSw
    have hsl := slice412 gN W
    go_simp
    try with_reducible rfl
  simp only [Act.put, List.setIfInBounds_toArray, List.set_cons_zero, List.set_cons_succ, List.getElem_toArray, List.getElem_cons_zero]
  refine wpAnyH_take (i := 1) (v := ?vq2) rfl (by kernel_rfl) (by kernel_rfl) (by kernel_rfl) (fun _ _ _ h => h) (Or.inl ⟨by rfl, ?hyq2⟩) (by assumption) ?restq2
  case hyq2 =>
    intro W hSw
    have hsl := slice8a w.heap.size W
    go_simp
    try with_reducible rfl
  simp only [Act.put, List.setIfInBounds_toArray, List.set_cons_zero, List.set_cons_succ, List.getElem_toArray, List.getElem_cons_zero, List.getElem_cons_succ]
  refine wpAnyH_ready (rs := [2]) (by kernel_rfl) (by simp) ?_
  refine AllReadyH.cons rfl (fun K hK => ?_) AllReadyH.nil
  rw [if_pos (by rfl)]
  refine wp_append_cells qd _ _ 33 rfl 5 i0 Try.underlying33 HI0.out HZ1.out gN 0 4 12 rfl ⟨w.heap.size, 0, none⟩ 8 8 (arL 8 h) rfl (arL_len _ _) (hHeld.1).src (arL_one 8 h) (by omega) (fun j hj => ⟨_, hNqd (0 + 4 + j) (by rw [arL_len] at hj; omega)⟩) ?_
  have hNq3 := (hNqd.wholeO h 4 8 (by omega)).ext noW
  have hRq3 := hRqd.apart (b := gN) (by omega) (arL 8 h) 4
  have hSq3 := show Ar (World.setCells qd gN 4 (arL 8 h)) w.heap.size 8 (h) ∧ Below w.heap.size w (World.setCells qd gN 4 (arL 8 h)) from ⟨(hHeld.1).apart (b := gN) (by omega) (arL 8 h) 4, (hHeld.2).trans (Below.setCells (Below.refl w.heap.size _) (b := gN) (by omega) (arL 8 h) 4)⟩
  try dsimp only [Nat.zero_add, Nat.reduceAdd]
  generalize World.setCells qd gN 4 (arL 8 h) = q3 at *
  refine hK.out _ _ hSq3 (fun hHeld2 => ?_)
  clear hK K hHeld hSq3 hNqd hRqd
  have hHeld := hHeld2
  clear hHeld2
  try simp only [Act.put, List.setIfInBounds_toArray, List.set_cons_zero, List.set_cons_succ, List.getElem_toArray, List.getElem_cons_zero, List.getElem_cons_succ]
  refine wpAnyH_ready (rs := [3]) (by kernel_rfl) (by simp) ?_
  refine AllReadyH.cons rfl (fun K hK => ?_) AllReadyH.nil
  go_simp
  refine hK.out _ _ hHeld (fun hHeld2 => ?_)
  clear hK K hHeld
  have hHeld := hHeld2
  clear hHeld2
  try simp only [Act.put, List.setIfInBounds_toArray, List.set_cons_zero, List.set_cons_succ, List.getElem_toArray, List.getElem_cons_zero, List.getElem_cons_succ]
  refine wpAnyH_ready (rs := [4]) (by kernel_rfl) (by simp) ?_
  refine AllReadyH.cons rfl (fun K hK => ?_) AllReadyH.nil
  rw [if_pos (by rfl)]
  refine wp_load_mid _ _ rfl gN 0 rfl (arL 12 (noF h)) _ hNq3.range Try.arr12n rfl (size12n _) ?_
  refine hK.out _ _ hHeld (fun hHeld2 => ?_)
  clear hK K hHeld
  have hHeld := hHeld2
  clear hHeld2
  try simp only [Act.put, List.setIfInBounds_toArray, List.set_cons_zero, List.set_cons_succ, List.getElem_toArray, List.getElem_cons_zero, List.getElem_cons_succ]
  refine wpAnyH_ready (rs := [5]) (by kernel_rfl) (by simp) ?_
  refine AllReadyH.cons rfl (fun K hK => ?_) AllReadyH.nil
  rw [if_pos (by rfl)]
  refine wp_store_mid _ _ _ rfl gR 0 (arL 12 (noF h)).toArray rfl rfl hRq3.there (size12n _) (all_oneCell_toArray (arL_one 12 (noF h))) ?_
  have hRq4 := hRq3.whole (noF h)
  have hNq4 := hNq3.apart (b := gR) (by omega) (arL 12 (noF h)) 0
  have hSq4 := show Ar (World.setCells q3 gR 0 (arL 12 (noF h))) w.heap.size 8 (h) ∧ Below w.heap.size w (World.setCells q3 gR 0 (arL 12 (noF h))) from ⟨(hHeld.1).apart (b := gR) (by omega) (arL 12 (noF h)) 0, (hHeld.2).trans (Below.setCells (Below.refl w.heap.size _) (b := gR) (by omega) (arL 12 (noF h)) 0)⟩
  dsimp only [List.toList_toArray]
  generalize World.setCells q3 gR 0 (arL 12 (noF h)) = q4 at *
  refine hK.out _ _ hSq4 (fun hHeld2 => ?_)
  clear hK K hHeld hSq4 hRq3 hNq3
  have hHeld := hHeld2
  clear hHeld2
  try simp only [Act.put]
  refine wpAnyH_done (by kernel_rfl) ?_ _
  refine NoPanic.normal ?_
  have hB9 := hHeld.2
  clear hHeld
  go_wp2_with fail
  refine bodyPost_ret_ar rfl rfl hRq4 Try.arr12n (size12n _) rfl ⟨rfl, hB9⟩
end Go.Proofs.Ytbjohffpjfglgaa
