/-
 Contracts of layer 10 and its reference at the very arguments that its laws have, what they return as letters; arrays of 24 bytes compared.
-/
import Derived.Test.YtiacbphnclgikaaGreatDoorGof
namespace Go.Proofs.YtiacbphnclgikaaGreatDoor
open Go.RowKit
set_option linter.unusedVariables false
set_option maxRecDepth 100000
theorem yieldsIf_build_by {P:Program} {ops:Array Oper} {S:World→Prop} {op:Oper} {a:Act} (hw:Region.wanted op (yielded ops a.tmps)=true) (ty:TypeId) (parts:Array (Nat×Operand)) (ho:op.op= .build ty parts)
  (ps:List (Nat×Value)) (hps:parts.toList.map (fun p=>(p.1,a.eval p.2))=ps) (cells:Array Value) (hb: ∀w,(Instr.build ty ps.toArray).run P w= .ok (.agg cells) w):YieldsIf P ops S op (.agg cells) a:=
 .inl ⟨hw,fun w hw'=>by
  have e:(parts.map fun(i,x)=>(i,a.eval x))=ps.toArray:=by rw [←hps];apply Array.toList_inj.1;simp
  unfold execOp
  simp only [ho,e,Sem.run_bind,hb,Result.andThen_ok]
  rfl⟩
theorem eq24_true {f g:Nat→Nat} (h: ∀j,j<24→f j=g j) (w:World):(Op.equalIn 10000 149 (.agg (arL 24 f).toArray) (.agg (arL 24 g).toArray)).run Tryz.prog w= .ok true w:=by
 have:=run_equalIn_arr (P:=Tryz.prog) (n:=24) Tryz.arr24 Tryz.underlying5 (by kernel_rfl) 9998 f g w
 rwa [decide_eq_true h]at this
theorem Tryz.eqg24:Tryz.prog.eqGuardType Tryz.prog.depth 149=false:=by kernel_rfl
theorem wtab (gT gC:Nat) (f s:Nat→Nat) (w:World) (hs:enF f zF=s) (hT:Ti w gT (some ⟨gC,0,none⟩) s) (hC:Ci w gC f):TabC w (.pointer (some ⟨gT,0,none⟩)) f:=by
 subst hs
 exact tabc_made gT _ f w hT (exp_made gC f w hC)
theorem wtop (v:Value) (f n t:Nat→Nat) (w:World) (h:enF f (nbF n)=t) (hf:B16 f) (hn:B12 n) (ht:TabC w v f) (hx:Boxes w):Calls Tryz.prog 108 #[v,.agg (arL 12 n).toArray] w fun e w'=>e= .returned (.agg (arL 16 (t)).toArray)∧Below w.heap.size w w':=by subst h;exact otop v f n w hf hn ht hx
theorem wstart (v:Value) (f n o:Nat→Nat) (w:World) (h:o0F (enF f (nbF n)) (n 11)=o) (hf:B16 f) (hn:B12 n) (ht:TabC w v f) (hx:Boxes w):Calls Tryz.prog 78 #[v,.agg (arL 12 n).toArray] w fun e w'=>e= .returned (.agg (arL 16 (o)).toArray)∧Below w.heap.size w w':=by subst h;exact ostart v f n w hf hn ht hx
theorem wrtop (f n t:Nat→Nat) (w:World) (h:enF f (nbF n)=t) (hf:B16 f) (hn:B12 n):Calls Tryz.prog 123 #[.agg (arL 432 (pkF (ek f) sb)).toArray,.agg (arL 12 n).toArray] w fun e w'=>e= .returned (.agg (arL 16 (t)).toArray)∧Below w.heap.size w w':=by subst h;exact rtop f n w hf hn
theorem wrstart (f n o:Nat→Nat) (w:World) (h:o0F (enF f (nbF n)) (n 11)=o) (hf:B16 f) (hn:B12 n):Calls Tryz.prog 90 #[.agg (arL 432 (pkF (ek f) sb)).toArray,.agg (arL 12 n).toArray] w fun e w'=>e= .returned (.agg (arL 16 (o)).toArray)∧Below w.heap.size w w':=by subst h;exact rstart f n w hf hn
theorem wrshift (t o:Nat→Nat) (b:Nat) (w:World) (h:o0F t b=o) (ht:B16 t):Calls Tryz.prog 121 #[.agg (arL 24 (stF t)).toArray,.int .i64 (b%64:Nat)] w fun e w'=>e= .returned (.agg (arL 16 (o)).toArray)∧Below w.heap.size w w':=by subst h;exact rshift t b w ht
theorem atI_zer (s:Nat→Nat) (i:Nat) (h0:i≠0) (hi:i<18446744073709551616):atI s (zer i:Nat)=dk s (zer i+2):=by
 have h1:=zer_lt i h0 hi
 unfold atI
 rw [if_pos (by omega),Int.toNat_natCast]
theorem atI_zero (s:Nat→Nat):atI s (zer 0:Nat)=fun _=>0:=by
 unfold atI
 rw [zer_zero,if_neg (by omega)]
theorem wstep (v:Value) (f o s:Nat→Nat) (m k:Nat) (w:World) (hs:enF f zF=s) (hk:m+1=k) (hm:m<9223372036854775807) (hf:B16 f) (ho:B16 o) (ht:TabC w v f):Calls Tryz.prog 80 #[v,.agg (arL 16 (atF o s m)).toArray,.int .u64 k] w fun e w'=>e= .returned (.agg (arL 16 (atF o s k)).toArray)∧Below w.heap.size w w':=by
 have hsl:B16 s:=by rw [←hs];exact enR_lt hf zF_lt 10
 have h:=onext v f (atF o s m) k w hf (atF_lt ho hsl m) (by omega) ht
 rw [atI_zer _ k (by omega) (by omega),hs,←hk,atF_step]at h
 rw [←hk]
 exact h
theorem wnext0 (v:Value) (f l:Nat→Nat) (w:World) (hf:B16 f) (hl:B16 l) (ht:TabC w v f):Calls Tryz.prog 80 #[v,.agg (arL 16 l).toArray,.int .u64 0] w fun e w'=>e= .returned (.agg (arL 16 (l)).toArray)∧Below w.heap.size w w':=by
 have h:=onext v f l 0 w hf hl (by omega) ht
 rw [atI_zero,show adF l (fun _=>0)=l from funext fun j=>Nat.xor_zero _]at h
 exact h
theorem wnext (v:Value) (f l s d:Nat→Nat) (i:Nat) (w:World) (hs:enF f zF=s) (hd:dk s (zer i+2)=d) (h0:i≠0) (hi:i<18446744073709551616) (hf:B16 f) (hl:B16 l) (ht:TabC w v f):Calls Tryz.prog 80 #[v,.agg (arL 16 l).toArray,.int .u64 i] w fun e w'=>e= .returned (.agg (arL 16 (adF l d)).toArray)∧Below w.heap.size w w':=by
 have h:=onext v f l i w hf hl hi ht
 rw [atI_zer _ i h0 hi,hs,hd]at h
 exact h
theorem wback (v:Value) (f l s d:Nat→Nat) (i:Nat) (w:World) (hs:enF f zF=s) (hd:dk s (zer i+2)=d) (h0:i≠0) (hi:i<18446744073709551616) (hf:B16 f) (hl:B16 l) (hdl:B16 d) (ht:TabC w v f):Calls Tryz.prog 80 #[v,.agg (arL 16 (adF l d)).toArray,.int .u64 i] w fun e w'=>e= .returned (.agg (arL 16 (l)).toArray)∧Below w.heap.size w w':=by
 have h:=wnext v f (adF l d) s d i w hs hd h0 hi hf (adF_lt hl hdl) ht
 rw [show adF (adF l d) d=l from funext fun j=>by show(l j^^^d j)^^^d j=l j;rw [Nat.xor_assoc,Nat.xor_self,Nat.xor_zero]]at h
 exact h
theorem wfirst (v:Value) (f s:Nat→Nat) (w:World) (hs:enF f zF=s) (hf:B16 f) (ht:TabC w v f):Calls Tryz.prog 80 #[v,.agg (arL 16 zF).toArray,.int .u64 1] w fun e w'=>e= .returned (.agg (arL 16 (dk s 2)).toArray)∧Below w.heap.size w w':=by
 have h:=wnext v f zF s (dk s 2) 1 w hs (by rw [zer_odd 1 rfl]) (by omega) (by omega) hf zF_lt ht
 rw [show adF zF (dk s 2)=dk s 2 from funext fun j=>Nat.zero_xor _]at h
 exact h
theorem step_facts (m k:Nat) (hk:m+1=k) (h:m≤300):(m:Int)+1=(k:Int)∧wrap64 (k:Int)=(k:Int)∧IntKind.u64.wrap (m:Int)=(m:Int)∧IntKind.u64.wrap (k:Int)=(k:Int)∧IntKind.i64.wrap (k:Int)=(k:Int):=
 ⟨by omega,IntWalk.wrap64_in _ (by omega),wraps_u64' _ (by omega) (by omega),wraps_u64' _ (by omega) (by omega),wraps_i64' _ (by omega) (by omega)⟩
theorem xl_facts (n:Nat→Nat) (x:Nat) (hx:x<256) (hn:B12 n):bits .xor .u8 (n 11:Int) ((x%64:Nat):Int)=((xlF n x 11:Nat):Int)∧(x:Int).tmod 64=((x%64:Nat):Int)∧xlF n x 11<256∧n 11<256:=by
 have hb:=hn 11 (by omega)
 have h:xlF n x 11=n 11^^^x%64:=by unfold xlF;rw [if_pos rfl]
 refine⟨?_,?_,xlF_lt hn x 11 (by omega),hb⟩
 ·rw [h];exact xor_n8 _ _ hb (by omega)
 ·rw [Int.tmod_eq_emod_of_nonneg (by omega)];omega
def nF (b j:Nat):Nat:=if j=11 then b else 0
theorem nF_lt (b:Nat) (h:b<256):B12 (nF b):=fun j _=>by unfold nF;split<;>omega
theorem run_n255 (w:World):(Instr.build 77 #[(11,.int .u8 255)]).run Tryz.prog w= .ok (.agg (arL 12 (nF 255)).toArray) w:=run_build w _ _ _ (by kernel_rfl)
theorem run_n192 (w:World):(Instr.build 77 #[(11,.int .u8 192)]).run Tryz.prog w= .ok (.agg (arL 12 (nF 192)).toArray) w:=run_build w _ _ _ (by kernel_rfl)
theorem nF_nb:nbF (nF 192)=nbF (nF 255):=funext fun j=>by
 unfold nbF lowF nF
 by_cases h:4≤j∧j<16
 ·rw [if_pos h,if_pos h]
  by_cases g:j-4=11
  ·rw [if_pos g,if_pos g];rfl
  ·rw [if_neg g,if_neg g,if_neg g,if_neg g]
 ·rw [if_neg h,if_neg h]
def e16 (j:Nat):Nat:=if j=0 then 1 else 0
def e24 (j:Nat):Nat:=if j=0 then 1 else if j=16 then 1 else 0
theorem run_o16 (w:World):(Instr.build 22 #[(0,.int .u8 1)]).run Tryz.prog w= .ok (.agg (arL 16 e16).toArray) w:=run_build w _ _ _ (by kernel_rfl)
theorem run_o24 (w:World):(Instr.build 149 #[(0,.int .u8 1),(16,.int .u8 1)]).run Tryz.prog w= .ok (.agg (arL 24 e24).toArray) w:=run_build w _ _ _ (by kernel_rfl)
theorem e_st: ∀j,j<24→stF e16 j=e24 j:=by decide+kernel
theorem e16_lt:B16 e16:=fun j _=>by unfold e16;split<;>omega
theorem wbot (w:World):Calls Tryz.prog 109 #[.agg (arL 12 (nF 255)).toArray] w fun e w'=>e= .returned (.int .i64 63)∧Below w.heap.size w w':=obottom (nF 255) w (nF_lt 255 (by omega))
end Go.Proofs.YtiacbphnclgikaaGreatDoor
