/-
  Contract of Prepare in the reference package of layer 6, by a walk through its text: the round keys and the table in one struct; what was there stays as it was.
-/
import Derived.Test.YtghcpfcomhfppaaDoorCra
import Derived.Test.YtghcpfcomhfppaaDoorKex
namespace Go.Proofs.YtghcpfcomhfppaaDoor
open Go.RowKit
set_option linter.unusedVariables false
set_option maxRecDepth 100000

/-- A prepared key: 176 bytes of round keys, 256 of the table. -/
def pkF (e s : Nat → Nat) (j : Nat) : Nat := if j < 176 then e j else s (j - 176)
theorem Tryd.structK : ∃ d, Tryd.prog.underlying 29 = some d ∧ d.isRow = true := by
  have h : (Tryd.prog.underlying 29).map (·.isRow) = some true := by kernel_rfl
  cases hu : Tryd.prog.underlying 29 with
  | none => rw [hu] at h; cases h
  | some d => rw [hu] at h; exact ⟨d, rfl, Option.some.inj h⟩
theorem Tryd.zeroK : (Tryd.prog.info? 29).map (fun i => (i.zero, i.size)) = some (some (.agg (Array.replicate 432 (.int .u8 0))), 432) := by kernel_rfl
theorem sizeK (f : Nat → Nat) : (Tryd.prog.info? 29).map (·.size) = some (arL 432 f).length := by rw [arL_len]; exact (zero_of_info Tryd.zeroK).2
theorem zeroK (w : World) : (zeroValue 29).run Tryd.prog w = .ok (.agg (arL 432 fun _ => 0).toArray) w := by
  rw [arL_zero]; exact (zero_of_info Tryd.zeroK).1 w
theorem built_key (e s : Nat → Nat) : Tryd.prog.built 29 [(0, .agg (arL 176 e).toArray), (1, .agg (arL 256 s).toArray)] = some (arL 432 (pkF e s)).toArray := by kernel_rfl
theorem run_key (e : Nat → Nat) (w : World) : (Instr.build 29 #[(0, .agg (arL 176 e).toArray), (1, .agg boxA)]).run Tryd.prog w = .ok (.agg (arL 432 (pkF e sb)).toArray) w :=
  run_build w _ _ _ (built_key e sb)
/-- The one result is a struct in a block of the call's own. -/
theorem bodyPost_ret_row {P : Program} {fn : Func} {R : Ending → World → Prop} {a : Act} {w : World} {p : Tmp} {ty : TypeId} {g n : Nat} {f : Nat → Nat} {d : TypeDesc} (hr : fn.results = #[.cell p ty]) (hp : a.tmps.getD p undef = .pointer (some ⟨g, 0, none⟩))
    (hA : Ar w g n f) (hu : P.underlying ty = some d) (hrow : d.isRow = true) (hi : (P.info? ty).map (·.size) = some (arL n f).length) (hd : a.defers = []) (hR : R (.returned (.agg (arL n f).toArray)) w) : bodyPost P fn R .ret a w := by
  refine bodyPost_ret (v := .agg (arL n f).toArray) ?_ hd hR
  have hp' : a.tmps[p]?.getD undef = .pointer (some ⟨g, 0, none⟩) := by simpa using hp
  simp only [results, hr]
  simp [hp', asAddr, run_loadVar_mid (P := P) w g 0 ty (arL n f) _ hA.range hu hrow hi]

set_option maxHeartbeats 1600000 in
theorem refprepare (f : Nat → Nat) (w : World) (hf : B16 f) :
    Calls Tryd.prog 11 #[.agg (arL 16 f).toArray] w fun e w' => e = .returned (.agg (arL 432 (pkF (ek f) sb)).toArray) ∧ Below w.heap.size w w' := by
  have hz := zeroK
  obtain ⟨kA, hkA⟩ : ∃ kA : Array Value, (arL 16 f).toArray = kA := ⟨_, rfl⟩
  obtain ⟨w1, hw1⟩ : ∃ w1 : World, w1 = w.alloc (.cells (arL 16 f).toArray 22) := ⟨_, rfl⟩
  have hs1 : w1.heap.size = w.heap.size + 1 := by rw [hw1]; simp
  have hb1 : Below w.heap.size w w1 := by rw [hw1]; exact (Below.refl _ _).alloc (Nat.le_refl _) _
  have hK1 : Ar w1 w.heap.size 16 f := by rw [hw1]; exact Ar.new w 16 f _
  obtain ⟨w2, hw2⟩ : ∃ w2 : World, w2 = w1.alloc (.cells (arL 432 fun _ => 0).toArray 29) := ⟨_, rfl⟩
  have hb2 : Below w.heap.size w w2 := by rw [hw2]; exact hb1.alloc (by omega) _
  have hR2 : Ar w2 (w.heap.size + 1) 432 (fun _ => 0) := by rw [hw2, ← hs1]; exact Ar.new w1 432 _ _
  have hK2 : Ar w2 w.heap.size 16 f := by rw [hw2]; exact hK1.alloc (by omega) _
  have HF := Lib.hid hf
  rw [hkA] at hw1
  rw [hkA]
  clear hb1 hK1 hf hkA
  go_enter Tryd.func11, Tryd.ntmps11
  go_upto_region 1 with fail
  rw [← hw1, ← hw2]
  clear hw1 hw2 hs1
  go_wp2_with (refine wpList_load_ar rfl _ _ rfl _ _ _ rfl hK2 Tryd.arr16b (size16b _) ?_)
  refine (refexpand f HF.out _).mono ?_
  rintro e w3 ⟨rfl, hq⟩
  have hR3 := hR2.to (by omega) hq
  have hB3 := hb2.trans (hq.mono hb2.size)
  clear hR2 hb2 hK2 hq
  go_wp2_with fail
  refine (reftable _).mono ?_
  rintro e w4 ⟨rfl, hq⟩
  have hR4 := hR3.to (by omega) hq
  have hB4 := hB3.trans (hq.mono hB3.size)
  clear hR3 hB3 hq
  obtain ⟨G, hG⟩ : ∃ G : Nat → Nat, G = pkF (ek f) sb := ⟨_, rfl⟩
  obtain ⟨bA, hbA⟩ : ∃ bA : Array Value, boxA = bA := ⟨_, rfl⟩
  have hbd := Lib.hid (run_key (ek f))
  rw [← hG, hbA] at hbd
  rw [hbA]
  have HG := Lib.hid hG
  clear hG hbA
  obtain ⟨d, hfs, hrow⟩ := Tryd.structK
  have HS := Lib.hid hfs
  have HW := Lib.hid hrow
  clear hfs hrow
  go_wp2_with (first
    | (refine wpList_build_by rfl _ _ rfl [(0, .agg (arL 176 (ek f)).toArray), (1, .agg bA)] rfl _ (hbd.out _) ?_)
    | (refine wpList_store_ar rfl _ _ _ rfl _ _ _ G rfl rfl hR4 (sizeK _) ?_; intro w8 hA8 hb8 _ _))
  refine bodyPost_ret_row rfl rfl hA8 HS.out HW.out (sizeK _) rfl ⟨by rw [HG.out], ?_⟩
  exact hB4.trans (hb8.mono (by omega))
end Go.Proofs.YtghcpfcomhfppaaDoor
