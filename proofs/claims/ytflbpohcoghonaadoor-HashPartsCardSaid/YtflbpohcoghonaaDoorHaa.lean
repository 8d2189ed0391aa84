/-
  The hash as functions on bytes: the sum and the offset after some parts, the block for a rest. Plain regions inside a round; a whole array stored, with the equation of the world; two arrays returned. No condition.
-/
import Derived.Test.YtflbpohcoghonaaDoorOfw
import Derived.Test.YtflbpohcoghonaaDoorBwj
import Derived.Test.YtflbpohcoghonaaDoorBkh
import Derived.RangeFuncOwn
import Derived.RangeFuncWrites
namespace Go.Proofs.YtflbpohcoghonaaDoor
open Go.RowKit
set_option linter.unusedVariables false
set_option maxRecDepth 100000

theorem enF_inj {f b c : Nat → Nat} (hf : B16 f) (hb : B16 b) (hc : B16 c) (h : E16 (enF f b) (enF f c)) : E16 b c := fun j hj =>
  (de_en hf hb 10 j hj).symm.trans ((deR_congr f 10 h j hj).trans (de_en hf hc 10 j hj))
/-! ### The sum and the offset after some parts -/
/-- The block for the index x of a part, from 0 on. -/
def nxH (s : Nat → Nat) (x : Nat) : Nat → Nat := atI s (zer ((x + 1) % 18446744073709551616) : Nat)
/-- After the parts at the places of a list. -/
def foH (f s : Nat → Nat) (P : Nat → Nat → Nat) (pre : List Nat) : (Nat → Nat) × (Nat → Nat) :=
  pre.foldl (fun p x => (adF p.1 (enF f (adF (P x) (adF p.2 (nxH s x)))), adF p.2 (nxH s x))) (zF, zF)
/-- The sum after the first parts. -/
def hsF (f s : Nat → Nat) (P : Nat → Nat → Nat) : Nat → Nat → Nat
  | 0 => zF
  | k + 1 => adF (hsF f s P k) (enF f (adF (P k) (atF zF s (k + 1))))
/-- What a rest adds, with an offset. -/
def hrF (f s o : Nat → Nat) (l : List UInt8) : Nat → Nat := if l.length = 0 ∨ 16 ≤ l.length then zF else enF f (adF (lF (padL l 16)) (adF o s))
/-- The hash. -/
def haF (f s : Nat → Nat) (l : List UInt8) : Nat → Nat :=
  adF (hsF f s (pt l) (l.length / 16)) (hrF f s (atF zF s (l.length / 16)) (l.drop (16 * (l.length / 16))))
section
variable {f s : Nat → Nat} {P : Nat → Nat → Nat}
theorem nxH_lt (hs : B16 s) (x : Nat) : B16 (nxH s x) := fun j hj => by
  unfold nxH atI
  split
  · exact dk_lt hs _ j hj
  · exact Nat.zero_lt_of_lt (show 0 < 256 by decide)
theorem nxH_eq (s : Nat → Nat) (x : Nat) (hx : x < 9223372036854775807) : nxH s x = dk s (zer (x + 1) + 2) := by
  unfold nxH
  rw [Nat.mod_eq_of_lt (by omega)]
  have h1 := zer_lt (x + 1) (by omega) (by omega)
  unfold atI
  rw [if_pos (by omega), Int.toNat_natCast]
theorem foH_snoc (f s : Nat → Nat) (P : Nat → Nat → Nat) (pre : List Nat) (x : Nat) :
    foH f s P (pre ++ [x]) = (adF (foH f s P pre).1 (enF f (adF (P x) (adF (foH f s P pre).2 (nxH s x)))), adF (foH f s P pre).2 (nxH s x)) := by
  unfold foH
  rw [List.foldl_append]
  rfl
theorem foH_off (hs : B16 s) (pre : List Nat) : B16 (foH f s P pre).2 := by
  suffices h : ∀ (l : List Nat) (p : (Nat → Nat) × (Nat → Nat)), B16 p.2 → B16 (l.foldl (fun p x => (adF p.1 (enF f (adF (P x) (adF p.2 (nxH s x)))), adF p.2 (nxH s x))) p).2 from h pre (zF, zF) zF_lt
  intro l
  induction l with
  | nil => intro p h; exact h
  | cons x l ih => intro p h; exact ih _ (adF_lt h (nxH_lt hs x))
theorem foH_sum (hf : B16 f) (hs : B16 s) (hP : ∀ k, B16 (P k)) (pre : List Nat) : B16 (foH f s P pre).1 := by
  suffices h : ∀ (l : List Nat) (p : (Nat → Nat) × (Nat → Nat)), B16 p.1 → B16 p.2 → B16 (l.foldl (fun p x => (adF p.1 (enF f (adF (P x) (adF p.2 (nxH s x)))), adF p.2 (nxH s x))) p).1 from h pre (zF, zF) zF_lt zF_lt
  intro l
  induction l with
  | nil => intro p h _; exact h
  | cons x l ih => intro p h h2; exact ih _ (adF_lt h (enR_lt hf (adF_lt (hP x) (adF_lt h2 (nxH_lt hs x))) 10)) (adF_lt h2 (nxH_lt hs x))
theorem foH_range (f s : Nat → Nat) (P : Nat → Nat → Nat) : ∀ n, n < 9223372036854775807 → foH f s P (List.range n) = (hsF f s P n, atF zF s n)
  | 0, _ => by rw [atF_zero]; rfl
  | n + 1, h => by
    rw [List.range_succ, foH_snoc, foH_range f s P n (by omega), nxH_eq s n (by omega), atF_step]
    rfl
theorem hsF_lt (hf : B16 f) (hs : B16 s) (hP : ∀ k, B16 (P k)) : ∀ n, B16 (hsF f s P n)
  | 0 => zF_lt
  | n + 1 => adF_lt (hsF_lt hf hs hP n) (enR_lt hf (adF_lt (hP n) (atF_lt zF_lt hs _)) 10)
theorem hsF_congr (f s : Nat → Nat) {P Q : Nat → Nat → Nat} : ∀ n, (∀ k, k < n → E16 (P k) (Q k)) → E16 (hsF f s P n) (hsF f s Q n)
  | 0, _ => fun _ _ => rfl
  | n + 1, h => adF_congr (hsF_congr f s n (fun k hk => h k (by omega))) (enR_congr f (adF_congr (h n (by omega)) (fun _ _ => rfl)) 10)
theorem lF_lt16 (l : List UInt8) : B16 (lF l) := fun _ _ => lF_lt _ _
theorem hrF_lt (hf : B16 f) (hs : B16 s) {o : Nat → Nat} (ho : B16 o) (l : List UInt8) : B16 (hrF f s o l) := by
  unfold hrF
  split
  · exact zF_lt
  · exact enR_lt hf (adF_lt (lF_lt16 _) (adF_lt ho hs)) 10
theorem ad_zero (f : Nat → Nat) : adF f zF = f := funext fun j => Nat.xor_zero _
theorem zero_ad (f : Nat → Nat) : adF zF f = f := funext fun j => Nat.zero_xor _
end
/-! ### Stores -/
theorem keepsOthers_setCells (g : Nat) : ∀ (vs : List Value) (o : Nat) (W : World), KeepsOthers W (W.setCells g o vs)
  | [], _, W => KeepsOthers.refl W
  | v :: r, o, W => (KeepsOthers.setCell W ⟨g, o, none⟩ v).trans (keepsOthers_setCells g r (o + 1) _)
theorem boxed_under2 {W W' : World} {B b : Nat} {t : TypeId} {v : Value} (h : Boxed W B t v) (hb : Below b W W') (hB : B < b) : Boxed W' B t v := (hb.block B hB).trans h
theorem below_setCells (W : World) (g : Nat) (vs : List Value) (o : Nat) : Below g W (W.setCells g o vs) := Below.setCells (Below.refl _ _) (Nat.le_refl _) _ _
theorem wpList_store_arE {P : Program} {ops : Array Oper} {rest : List Oper} {op : Oper} {a : Act} {w : World} {Q : Exit → Act → World → Prop} (hgd : op.guard = none) (ty : TypeId) (x y : Operand) (ho : op.op = .store ty x y)
    (g n : Nat) (f f' : Nat → Nat) (hx : a.eval x = .pointer (some ⟨g, 0, none⟩)) (hy : a.eval y = .agg (arL n f').toArray)
    (hA : Ar w g n f) (hi : (P.info? ty).map (·.size) = some (arL n f').length)
    (h : ∀ w', w' = w.setCells g 0 (arL n f') → Ar w' g n f' → wpList P ops Q rest (a.put op.dst undef) w') :
    wpList P ops Q (op :: rest) a w := by
  refine wpList_store_mid hgd ty x y ho g 0 _ hx hy ?_ ?_ (all_oneCell_toArray (arL_one n f')) ?_
  · rw [List.size_toArray, arL_len]; exact hA.there
  · rw [List.size_toArray]; exact hi
  · exact h _ rfl (hA.whole f')
theorem results_ar2 {P : Program} {fn : Func} {T : Array Value} {w : World} {p q : Tmp} {ty e : TypeId} {g g' n m : Nat} {f f' : Nat → Nat} (hr : fn.results = #[.cell p ty, .cell q ty]) (hp : T.getD p undef = .pointer (some ⟨g, 0, none⟩)) (hq : T.getD q undef = .pointer (some ⟨g', 0, none⟩))
    (hA : Ar w g n f) (hA' : Ar w g' n f') (hu : P.underlying ty = some (.array m e)) (hi : (P.info? ty).map (·.size) = some (arL n f).length) (hi' : (P.info? ty).map (·.size) = some (arL n f').length) :
    (results fn T).run P w = .ok (.tuple #[.agg (arL n f).toArray, .agg (arL n f').toArray]) w := by
  have hp' : T[p]?.getD undef = .pointer (some ⟨g, 0, none⟩) := by simpa using hp
  have hq' : T[q]?.getD undef = .pointer (some ⟨g', 0, none⟩) := by simpa using hq
  simp only [results, hr]
  simp [hp', hq', asAddr, run_loadVar_mid (P := P) w g 0 ty (arL n f) _ hA.range hu rfl hi, run_loadVar_mid (P := P) w g' 0 ty (arL n f') _ hA'.range hu rfl hi']
/-! ### Inside a round -/
section
variable {P : Program} {n l : Nat} {Q : Exit → Act → World → Prop}
theorem wpListIn_of_wpList {ops : Array Oper} (hno : ¬ LetsOut Q) : ∀ (L : List Oper) (_ : ∀ o ∈ L, ∀ c, o.op ≠ .defer c) (a : Act) (w : World), wpList P ops Q L a w → wpListIn (Fence.wide.inRound l) n P ops Q L a w
  | [], _, _, _, h => h
  | o :: L, hd, a, w, h => by
    unfold wpList at h
    unfold wpListIn
    by_cases hw : Region.wanted o (yielded ops a.tmps) = true
    · rw [if_pos hw] at h ⊢
      exact Oper.wpIn_mono (fun a' w' h' => wpListIn_of_wpList hno L (fun o ho => hd o (List.mem_cons_of_mem _ ho)) a' w' h') (wpIn_of_wp (hd o List.mem_cons_self) (h.resolve_right (fun h2 => hno h2.2)))
    · rw [if_neg hw] at h ⊢
      exact ⟨fun _ _ => trivial, wpListIn_of_wpList hno L (fun o ho => hd o (List.mem_cons_of_mem _ ho)) _ _ h⟩
theorem wpIn_region_plain {id : Nat} {L : List Oper} {a : Act} {w : World} (hd : calmOps L.toArray = true) (h : wpList P L.toArray (OnlyN Q) L a w) : (Code.region id L.toArray false).wpIn (Fence.wide.inRound l) n P Q a w :=
  wpIn_mono (wpIn_region_lit (wpListIn_of_wpList (fun h0 => by obtain ⟨_, _, h1⟩ := h0; exact h1) L (fun o ho c hc => by
    have h1 := (Array.all_eq_true_iff_forall_mem.1 hd) o (by simpa using ho)
    rw [hc] at h1
    exact absurd h1 (by simp)) a w h)) OnlyN.imp
theorem onlyN_normal {a : Act} {w : World} (h : Q .normal a w) : OnlyN Q .normal a w := h
end
theorem wrap_u_any (y : Nat) : IntKind.u64.wrap (y : Int) = ((y % 18446744073709551616 : Nat) : Int) := by rw [IntKind.wrap_u64]; omega
end Go.Proofs.YtflbpohcoghonaaDoor
