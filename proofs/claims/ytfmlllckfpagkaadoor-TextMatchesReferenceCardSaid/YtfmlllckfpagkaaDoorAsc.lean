/-
  Contracts of errors.As at nil, and of what package fault finds by it: the first code and the first offset of a chain. Condition: package errors knows the type error.
-/
import Derived.Test.YtfmlllckfpagkaaDoorAsb
namespace Go.Proofs.YtfmlllckfpagkaaDoor
open Go.RowKit Go.Extern.Stop Go.Stop Go.Extern
set_option linter.unusedVariables false
set_option maxRecDepth 20000

theorem link_unwrap_nil (w : World) : Calls Tryd.prog 52 #[.agg #[.nilIface]] w fun e w' => e = .returned .nilIface ∧ Below w.heap.size w w' := by
  have hmf : ∀ (fn : Fn) (first cap : Array Value) (w : World), (Instr.makeFunc fn first cap).run Tryd.prog w = .ok (.func fn first cap) w := fun _ _ _ _ => rfl
  go_enter_defers Tryd.func52, Tryd.ntmps52
  go_wp2_with fail
  refine (unwrap_nil _).mono ?_
  rintro e w1 ⟨rfl, hb⟩
  obtain ⟨hc, hf⟩ := bcell hb
  have hz := hb.size
  go_wp2_with fail
  refine leaves_cons (f := 53) (args := #[.pointer (some ⟨w.heap.size + 1, 0, none⟩)]) (by simp) (by simp [go_sem]) ?_
  refine (catch_idle ⟨w.heap.size + 1, 0, none⟩ _).mono ?_
  rintro e u' w'' ⟨rfl, rfl, rfl⟩
  have hz1 : w.heap.size + 1 < w1.heap.size := by simp at hz; omega
  have hcell : w1.cell? ⟨w.heap.size + 1, 0, none⟩ = some .nilIface := by rw [hc _ _ (by simp)]; simp
  have hfr : w1.frozen? ⟨w.heap.size + 1, 0, none⟩ = false := by rw [hf _ _ (by simp)]; simp
  have hB : Below w.heap.size w w1 := (((Below.refl _ _).alloc (Nat.le_refl _) _).alloc (by simp) _).trans (hb.mono (by simp; omega))
  simp [Leaves, settle, results, Tryd.results52, go_sem, hcell]
  exact hB.setCell (by simp) _

/-- What the search leaves at nil. -/
def NilC (tb B : Nat) (w : World) (e : Ending) (w' : World) : Prop :=
  e = .returned (.bool false) ∧ w'.cell? ⟨tb, 0, none⟩ = some (.int .i64 0) ∧ Below B w w'
theorem Tryd.taNilC (xT : TypeId) (w : World) : (Instr.typeAssert .nilIface xT 42 true).run Tryd.prog w = .ok (.tuple #[.int .i64 0, .bool false]) w := by kernel_rfl
theorem link_as_nilC (tb : Nat) (x : Int) (w : World) (hc : w.cell? ⟨tb, 0, none⟩ = some (.int .i64 x)) (hf : w.frozen? ⟨tb, 0, none⟩ = false) :
    Calls Tryd.prog 51 #[.agg #[.nilIface], .iface 60 (.pointer (some ⟨tb, 0, none⟩))] w fun e w' => e = .returned (.bool false) ∧ w' = (w.setCell ⟨tb, 0, none⟩ (.int .i64 0)).alloc (.cells #[.nilIface] 59) := by
  have hlt : tb < w.heap.size := block_lt hc
  have f1 := Tryd.taPCPC
  have f2 := Tryd.taNilC
  go_enter Tryd.func51, Tryd.ntmps51
  go_wp2
  go_ret
  exact ⟨rfl, rfl⟩
set_option maxHeartbeats 4000000 in
theorem as_nilC (tb B : Nat) (x : Int) (v2 : Value) (w : World) (hB : B ≤ tb) (hc : w.cell? ⟨tb, 0, none⟩ = some (.int .i64 x)) (hf : w.frozen? ⟨tb, 0, none⟩ = false) :
    Calls Tryd.prog 27 #[.iface 59 (.agg #[.nilIface]), .iface 60 (.pointer (some ⟨tb, 0, none⟩)), .agg #[.pointer (some ⟨2, 60, none⟩), v2, .int .u64 150], .iface 75 (hdl 42)] w (NilC tb B w) := by
  have hTo := @run_callFunc_extern Tryd.prog 28 _ ReflectliteType.typeOf Tryd.func28 (by kernel_rfl) (by kernel_rfl) (by kernel_rfl) (by kernel_rfl)
  have hAs := @run_callFunc_extern Tryd.prog 59 _ (ReflectliteType.relation "AssignableTo" ReflectliteType.assignableTo) Tryd.func59 (by kernel_rfl) (by kernel_rfl) (by kernel_rfl) (by kernel_rfl)
  have tO := Tryd.typeOfLink
  have mA := Tryd.methodAssignableTo
  have aC := Tryd.linkToCode
  have lA := Tryd.linkAs
  have lU := Tryd.linkUnwrap
  have mLA := Tryd.methodLinkAs
  have mLU := Tryd.methodLinkUnwrap
  have hlt : tb < w.heap.size := block_lt hc
  unfold hdl at *
  go_enter Tryd.func27, Tryd.ntmps27
  go_wp2_with fail
  have hbW : Below B w (w.alloc (.cells #[.pointer (some ⟨2, 60, none⟩), v2, .int .u64 150] 65)) := (Below.refl _ _).alloc (by omega) _
  have hlW : w.heap.size < (w.alloc (.cells #[.pointer (some ⟨2, 60, none⟩), v2, .int .u64 150] 65)).heap.size := by simp
  have hc1 : (w.alloc (.cells #[.pointer (some ⟨2, 60, none⟩), v2, .int .u64 150] 65)).cell? ⟨tb, 0, none⟩ = some (.int .i64 x) := by rw [World.cell?_alloc_lt _ _ ⟨tb, 0, none⟩ hlt]; exact hc
  have hf1 : (w.alloc (.cells #[.pointer (some ⟨2, 60, none⟩), v2, .int .u64 150] 65)).frozen? ⟨tb, 0, none⟩ = false := by rw [World.frozen?_alloc_old _ _ ⟨tb, 0, none⟩ (Nat.ne_of_lt hlt)]; exact hf
  generalize hW : w.alloc (.cells #[.pointer (some ⟨2, 60, none⟩), v2, .int .u64 150] 65) = W at *
  clear hW
  refine wp_loop_rounds 1 ?_
  rw [rounds_succ]
  go_wp2_with fail
  refine (link_as_nilC tb x _ hc1 hf1).mono ?_
  rintro ev w2 ⟨rfl, rfl⟩
  go_wp2_with fail
  refine (link_unwrap_nil _).mono ?_
  rintro ev w3 ⟨rfl, hb3⟩
  obtain ⟨hc3, hf3⟩ := bcell hb3
  go_wp2_with fail
  go_ret
  refine ⟨rfl, ?_, ?_⟩
  · rw [hc3 _ _ (by simp; omega)]
    exact one_after hc1 _ _
  · exact ((hbW.setCell (p := ⟨tb, 0, none⟩) hB _).alloc (by simp; omega) _).trans (hb3.mono (by simp; omega))
set_option maxHeartbeats 4000000 in
theorem AsNilC (tb B : Nat) (x : Int) (w : World) (hE : ErrType w) (hB : B ≤ tb) (hc : w.cell? ⟨tb, 0, none⟩ = some (.int .i64 x)) (hf : w.frozen? ⟨tb, 0, none⟩ = false) :
    Calls Tryd.prog 23 #[.iface 59 (.agg #[.nilIface]), .iface 60 (.pointer (some ⟨tb, 0, none⟩))] w (NilC tb B w) := by
  have h6 := @run_callFunc_extern Tryd.prog 24 _ (fun args => ReflectliteValue.unpack (args.getD 0 (.tuple #[]))) Tryd.func24 (by kernel_rfl) (by kernel_rfl) (by kernel_rfl) (by kernel_rfl)
  have h7 := @run_callFunc_extern Tryd.prog 25 _ (ReflectliteValue.methodAny (ReflectliteValue.valueError "reflectlite.Value.Type" 0) (fun t _ _ _ => ReflectliteType.toType t)) Tryd.func25 (by kernel_rfl) (by kernel_rfl) (by kernel_rfl) (by kernel_rfl)
  have h8 := @run_callFunc_extern Tryd.prog 26 _ (ReflectliteValue.method (ReflectliteValue.valueError "reflectlite.Value.IsNil" 0) ReflectliteValue.isNil) Tryd.func26 (by kernel_rfl) (by kernel_rfl) (by kernel_rfl) (by kernel_rfl)
  have h27 := @run_callFunc_extern Tryd.prog 45 _ (ReflectliteType.abiMethod fun t => do pure (.int .u8 (← Rtype.kind t))) Tryd.func45 (by kernel_rfl) (by kernel_rfl) (by kernel_rfl) (by kernel_rfl)
  have h37 := @run_callFunc_extern Tryd.prog 61 _ (ReflectliteType.method ReflectliteType.elem) Tryd.func61 (by kernel_rfl) (by kernel_rfl) (by kernel_rfl) (by kernel_rfl)
  have h38 := @run_callFunc_extern Tryd.prog 62 _ (ReflectliteType.relation "Implements" ReflectliteType.implements_) Tryd.func62 (by kernel_rfl) (by kernel_rfl) (by kernel_rfl) (by kernel_rfl)
  have f6 := Tryd.valueOfC
  have f7 := Tryd.typeC
  have mK := Tryd.methodKind
  have mE := Tryd.methodElem
  have mI := Tryd.methodImplements
  have k27 := Tryd.kindPC
  have k25 := Tryd.kindC
  have e27 := Tryd.elemC
  have i25 := Tryd.implementsC
  have hlt : tb < w.heap.size := block_lt hc
  have hlE : 1 < w.heap.size := block_lt hE
  have n8 := Tryd.isNilC ⟨w.heap.size, 0, none⟩ ⟨tb, 0, none⟩ ((w.alloc (.cells #[.pointer (some ⟨tb, 0, none⟩)] 60)).alloc (.cells #[.pointer (some ⟨2, 60, none⟩), .pointer (some ⟨w.heap.size, 0, none⟩), .int .u64 150] 65)) (by simp)
  have hg2 : ((w.alloc (.cells #[.pointer (some ⟨tb, 0, none⟩)] 60)).alloc (.cells #[.pointer (some ⟨2, 60, none⟩), .pointer (some ⟨w.heap.size, 0, none⟩), .int .u64 150] 65)).cell? ⟨1, 0, none⟩ = some (.iface 75 (.agg #[.pointer (some ⟨2, 26, none⟩)])) := by
    rw [World.cell?_alloc_lt _ _ ⟨1, 0, none⟩ (by simp; omega), World.cell?_alloc_lt _ _ ⟨1, 0, none⟩ hlE]; exact hE
  clear hE
  go_enter Tryd.func23, Tryd.ntmps23
  go_wp2_with fail
  refine (as_nilC tb B x _ _ hB (by rw [World.cell?_alloc_lt _ _ ⟨tb, 0, none⟩ (by simp; omega), World.cell?_alloc_lt _ _ ⟨tb, 0, none⟩ hlt]; exact hc) (by rw [World.frozen?_alloc_old _ _ ⟨tb, 0, none⟩ (by simp; omega), World.frozen?_alloc_old _ _ ⟨tb, 0, none⟩ (Nat.ne_of_lt hlt)]; exact hf)).mono ?_
  rintro ev w1 ⟨rfl, hcell, hbel⟩
  go_wp2_with fail
  go_ret
  exact ⟨rfl, hcell, (((Below.refl _ _).alloc (by omega) _).alloc (by simp; omega) _).trans hbel⟩

/-- What the search leaves at nil. -/
def NilF (tb B : Nat) (w : World) (e : Ending) (w' : World) : Prop :=
  e = .returned (.bool false) ∧ w'.cell? ⟨tb, 1, none⟩ = some (.int .i64 0) ∧ Below B w w'
theorem Tryd.taNilF (xT : TypeId) (w : World) : (Instr.typeAssert .nilIface xT 56 true).run Tryd.prog w = .ok (.tuple #[.agg #[.int .i64 0, .int .i64 0], .bool false]) w := by kernel_rfl
theorem link_as_nilF (tb : Nat) (x y : Int) (w : World) (hc : w.cell? ⟨tb, 0, none⟩ = some (.int .i64 x)) (hd : w.cell? ⟨tb, 1, none⟩ = some (.int .i64 y)) (hf : w.frozen? ⟨tb, 0, none⟩ = false) (hg : w.frozen? ⟨tb, 1, none⟩ = false) :
    Calls Tryd.prog 51 #[.agg #[.nilIface], .iface 61 (.pointer (some ⟨tb, 0, none⟩))] w fun e w' => e = .returned (.bool false) ∧ w' = ((w.setCell ⟨tb, 0, none⟩ (.int .i64 0)).setCell ⟨tb, 1, none⟩ (.int .i64 0)).alloc (.cells #[.nilIface] 59) := by
  have hlt : tb < w.heap.size := block_lt hc
  have f1 := Tryd.taPFPF
  have f0 := Tryd.taPFPC
  have f2 := Tryd.taNilF
  go_enter Tryd.func51, Tryd.ntmps51
  go_wp2
  go_ret
  exact ⟨rfl, rfl⟩
set_option maxHeartbeats 4000000 in
theorem as_nilF (tb B : Nat) (x y : Int) (v2 : Value) (w : World) (hB : B ≤ tb) (hc : w.cell? ⟨tb, 0, none⟩ = some (.int .i64 x)) (hd : w.cell? ⟨tb, 1, none⟩ = some (.int .i64 y)) (hf : w.frozen? ⟨tb, 0, none⟩ = false) (hg : w.frozen? ⟨tb, 1, none⟩ = false) :
    Calls Tryd.prog 27 #[.iface 59 (.agg #[.nilIface]), .iface 61 (.pointer (some ⟨tb, 0, none⟩)), .agg #[.pointer (some ⟨2, 61, none⟩), v2, .int .u64 150], .iface 75 (hdl 56)] w (NilF tb B w) := by
  have hTo := @run_callFunc_extern Tryd.prog 28 _ ReflectliteType.typeOf Tryd.func28 (by kernel_rfl) (by kernel_rfl) (by kernel_rfl) (by kernel_rfl)
  have hAs := @run_callFunc_extern Tryd.prog 59 _ (ReflectliteType.relation "AssignableTo" ReflectliteType.assignableTo) Tryd.func59 (by kernel_rfl) (by kernel_rfl) (by kernel_rfl) (by kernel_rfl)
  have tO := Tryd.typeOfLink
  have mA := Tryd.methodAssignableTo
  have aC := Tryd.linkToFault
  have lA := Tryd.linkAs
  have lU := Tryd.linkUnwrap
  have mLA := Tryd.methodLinkAs
  have mLU := Tryd.methodLinkUnwrap
  have hlt : tb < w.heap.size := block_lt hc
  unfold hdl at *
  go_enter Tryd.func27, Tryd.ntmps27
  go_wp2_with fail
  have hbW : Below B w (w.alloc (.cells #[.pointer (some ⟨2, 61, none⟩), v2, .int .u64 150] 65)) := (Below.refl _ _).alloc (by omega) _
  have hlW : w.heap.size < (w.alloc (.cells #[.pointer (some ⟨2, 61, none⟩), v2, .int .u64 150] 65)).heap.size := by simp
  have hc1 : (w.alloc (.cells #[.pointer (some ⟨2, 61, none⟩), v2, .int .u64 150] 65)).cell? ⟨tb, 0, none⟩ = some (.int .i64 x) := by rw [World.cell?_alloc_lt _ _ ⟨tb, 0, none⟩ hlt]; exact hc
  have hd1 : (w.alloc (.cells #[.pointer (some ⟨2, 61, none⟩), v2, .int .u64 150] 65)).cell? ⟨tb, 1, none⟩ = some (.int .i64 y) := by rw [World.cell?_alloc_lt _ _ ⟨tb, 1, none⟩ hlt]; exact hd
  have hf1 : (w.alloc (.cells #[.pointer (some ⟨2, 61, none⟩), v2, .int .u64 150] 65)).frozen? ⟨tb, 0, none⟩ = false := by rw [World.frozen?_alloc_old _ _ ⟨tb, 0, none⟩ (Nat.ne_of_lt hlt)]; exact hf
  have hg1 : (w.alloc (.cells #[.pointer (some ⟨2, 61, none⟩), v2, .int .u64 150] 65)).frozen? ⟨tb, 1, none⟩ = false := by rw [World.frozen?_alloc_old _ _ ⟨tb, 1, none⟩ (Nat.ne_of_lt hlt)]; exact hg
  generalize hW : w.alloc (.cells #[.pointer (some ⟨2, 61, none⟩), v2, .int .u64 150] 65) = W at *
  clear hW
  refine wp_loop_rounds 1 ?_
  rw [rounds_succ]
  go_wp2_with fail
  refine (link_as_nilF tb x y _ hc1 hd1 hf1 hg1).mono ?_
  rintro ev w2 ⟨rfl, rfl⟩
  go_wp2_with fail
  refine (link_unwrap_nil _).mono ?_
  rintro ev w3 ⟨rfl, hb3⟩
  obtain ⟨hc3, hf3⟩ := bcell hb3
  go_wp2_with fail
  go_ret
  refine ⟨rfl, ?_, ?_⟩
  · rw [hc3 _ _ (by simp; omega)]
    exact (two_after hc1 hd1 _ _ _).2
  · exact (((hbW.setCell (p := ⟨tb, 0, none⟩) hB _).setCell (p := ⟨tb, 1, none⟩) hB _).alloc (by simp; omega) _).trans (hb3.mono (by simp; omega))
set_option maxHeartbeats 4000000 in
theorem AsNilF (tb B : Nat) (x y : Int) (w : World) (hE : ErrType w) (hB : B ≤ tb) (hc : w.cell? ⟨tb, 0, none⟩ = some (.int .i64 x)) (hd : w.cell? ⟨tb, 1, none⟩ = some (.int .i64 y)) (hf : w.frozen? ⟨tb, 0, none⟩ = false) (hg : w.frozen? ⟨tb, 1, none⟩ = false) :
    Calls Tryd.prog 23 #[.iface 59 (.agg #[.nilIface]), .iface 61 (.pointer (some ⟨tb, 0, none⟩))] w (NilF tb B w) := by
  have h6 := @run_callFunc_extern Tryd.prog 24 _ (fun args => ReflectliteValue.unpack (args.getD 0 (.tuple #[]))) Tryd.func24 (by kernel_rfl) (by kernel_rfl) (by kernel_rfl) (by kernel_rfl)
  have h7 := @run_callFunc_extern Tryd.prog 25 _ (ReflectliteValue.methodAny (ReflectliteValue.valueError "reflectlite.Value.Type" 0) (fun t _ _ _ => ReflectliteType.toType t)) Tryd.func25 (by kernel_rfl) (by kernel_rfl) (by kernel_rfl) (by kernel_rfl)
  have h8 := @run_callFunc_extern Tryd.prog 26 _ (ReflectliteValue.method (ReflectliteValue.valueError "reflectlite.Value.IsNil" 0) ReflectliteValue.isNil) Tryd.func26 (by kernel_rfl) (by kernel_rfl) (by kernel_rfl) (by kernel_rfl)
  have h27 := @run_callFunc_extern Tryd.prog 45 _ (ReflectliteType.abiMethod fun t => do pure (.int .u8 (← Rtype.kind t))) Tryd.func45 (by kernel_rfl) (by kernel_rfl) (by kernel_rfl) (by kernel_rfl)
  have h37 := @run_callFunc_extern Tryd.prog 61 _ (ReflectliteType.method ReflectliteType.elem) Tryd.func61 (by kernel_rfl) (by kernel_rfl) (by kernel_rfl) (by kernel_rfl)
  have h38 := @run_callFunc_extern Tryd.prog 62 _ (ReflectliteType.relation "Implements" ReflectliteType.implements_) Tryd.func62 (by kernel_rfl) (by kernel_rfl) (by kernel_rfl) (by kernel_rfl)
  have f6 := Tryd.valueOfF
  have f7 := Tryd.typeF
  have mK := Tryd.methodKind
  have mE := Tryd.methodElem
  have mI := Tryd.methodImplements
  have k27 := Tryd.kindPF
  have k25 := Tryd.kindF
  have e27 := Tryd.elemF
  have i25 := Tryd.implementsF
  have hlt : tb < w.heap.size := block_lt hc
  have hlE : 1 < w.heap.size := block_lt hE
  have n8 := Tryd.isNilF ⟨w.heap.size, 0, none⟩ ⟨tb, 0, none⟩ ((w.alloc (.cells #[.pointer (some ⟨tb, 0, none⟩)] 61)).alloc (.cells #[.pointer (some ⟨2, 61, none⟩), .pointer (some ⟨w.heap.size, 0, none⟩), .int .u64 150] 65)) (by simp)
  have hg2 : ((w.alloc (.cells #[.pointer (some ⟨tb, 0, none⟩)] 61)).alloc (.cells #[.pointer (some ⟨2, 61, none⟩), .pointer (some ⟨w.heap.size, 0, none⟩), .int .u64 150] 65)).cell? ⟨1, 0, none⟩ = some (.iface 75 (.agg #[.pointer (some ⟨2, 26, none⟩)])) := by
    rw [World.cell?_alloc_lt _ _ ⟨1, 0, none⟩ (by simp; omega), World.cell?_alloc_lt _ _ ⟨1, 0, none⟩ hlE]; exact hE
  clear hE
  go_enter Tryd.func23, Tryd.ntmps23
  go_wp2_with fail
  refine (as_nilF tb B x y _ _ hB (by rw [World.cell?_alloc_lt _ _ ⟨tb, 0, none⟩ (by simp; omega), World.cell?_alloc_lt _ _ ⟨tb, 0, none⟩ hlt]; exact hc) (by rw [World.cell?_alloc_lt _ _ ⟨tb, 1, none⟩ (by simp; omega), World.cell?_alloc_lt _ _ ⟨tb, 1, none⟩ hlt]; exact hd) (by rw [World.frozen?_alloc_old _ _ ⟨tb, 0, none⟩ (by simp; omega), World.frozen?_alloc_old _ _ ⟨tb, 0, none⟩ (Nat.ne_of_lt hlt)]; exact hf) (by rw [World.frozen?_alloc_old _ _ ⟨tb, 1, none⟩ (by simp; omega), World.frozen?_alloc_old _ _ ⟨tb, 1, none⟩ (Nat.ne_of_lt hlt)]; exact hg)).mono ?_
  rintro ev w1 ⟨rfl, hcell, hbel⟩
  go_wp2_with fail
  go_ret
  exact ⟨rfl, hcell, (((Below.refl _ _).alloc (by omega) _).alloc (by simp; omega) _).trans hbel⟩
end Go.Proofs.YtfmlllckfpagkaaDoor
