/-
 Contracts of the reference package of layer 6, by walks through their texts, one after the other; what was there stays as it was.
-/
import Derived.Test.YtiacbphnclgikaaDoorFre
import Derived.Test.YtiacbphnclgikaaDoorGsb
import Derived.BigRegion
import Derived.Deep.RegionHeld3
import Derived.Test.YtiacbphnclgikaaDoorGfi
import Derived.Test.YtiacbphnclgikaaDoorGke
import Derived.Deep.RegionWith
namespace Go.Proofs.YtiacbphnclgikaaDoor
section
open Go.RowKit
set_option linter.unusedVariables false
set_option maxRecDepth 100000
theorem Tryd.arr16b:Tryd.prog.underlying 35=some (.array 16 5):=by kernel_rfl
theorem Tryd.zero16b:(Tryd.prog.info? 35).map (fun i=>(i.zero,i.size))=some (some (.agg (Array.replicate 16 (.int .u8 0))),16):=by kernel_rfl
theorem size16b (f:Nat→Nat):(Tryd.prog.info? 35).map (·.size)=some (arL 16 f).length:=by rw [arL_len];exact(zero_of_info Tryd.zero16b).2
theorem zero16b (w:World):(zeroValue 35).run Tryd.prog w= .ok (.agg (arL 16 fun _=>0).toArray) w:=by
 rw [arL_zero];exact(zero_of_info Tryd.zero16b).1 w
theorem tr_step (f:Nat→Nat) (n m a b:Nat) (ha:a=n%4) (hb:b=n/4) (hn:n<16) (hm:m<16):
  (if m=a*4+b then f n else(if 4*(m%4)+m/4<n then tr f m else 0))=if 4*(m%4)+m/4<n+1 then tr f m else 0:=by
 by_cases h:m=a*4+b
 ·have e:4*(m%4)+m/4=n:=by omega
  rw [if_pos h,if_pos (by omega),tr,e]
 ·rw [if_neg h]
  have e:4*(m%4)+m/4≠n:=by omega
  by_cases h2:4*(m%4)+m/4<n
  ·rw [if_pos h2,if_pos (by omega)]
  ·rw [if_neg h2,if_neg (by omega)]
end
section
open Go.RowKit
set_option linter.unusedVariables false
set_option maxRecDepth 100000
end
section
open Go.RowKit
set_option linter.unusedVariables false
set_option maxRecDepth 100000
theorem mid_step (F f:Nat→Nat) (o m:Nat):(if m=o then F o else(if m<o then F m else f m))=if m<o+1 then F m else f m:=by
 by_cases h:m=o
 ·rw [if_pos h,if_pos (by omega),h]
 ·rw [if_neg h]
  by_cases h2:m<o
  ·rw [if_pos h2,if_pos (by omega)]
  ·rw [if_neg h2,if_neg (by omega)]
end
section
open Go.RowKit
set_option linter.unusedVariables false
set_option maxRecDepth 100000
end
section
open Go.RowKit
set_option linter.unusedVariables false
set_option maxRecDepth 100000
def shP (f:Nat→Nat) (r n m:Nat):Nat:=if m/4<r then f (m/4*4+(m%4+m/4)%4)else if m/4=r then f (r*4+(m%4+n)%4)else f m
theorem shP_next (f:Nat→Nat) (r m:Nat):shP f r r m=shP f (r+1) 0 m:=by
 unfold shP
 by_cases h1:m/4<r
 ·rw [if_pos h1,if_pos (by omega)]
 ·rw [if_neg h1]
  by_cases h2:m/4=r
  ·rw [if_pos h2,if_pos (by omega),h2]
  ·rw [if_neg h2,if_neg (by omega)]
   by_cases h3:m/4=r+1
   ·rw [if_pos h3];congr 1;omega
   ·rw [if_neg h3]
theorem shP_start (f:Nat→Nat) (m:Nat) (hm:m<16):f m=shP f 1 0 m:=by
 unfold shP
 by_cases h1:m/4<1
 ·rw [if_pos h1];congr 1;omega
 ·rw [if_neg h1]
  by_cases h2:m/4=1
  ·rw [if_pos h2];congr 1;omega
  ·rw [if_neg h2]
theorem shP_end (f:Nat→Nat) (m:Nat) (hm:m<16):shP f 4 0 m=tr (shF (tr f)) m:=by
 have H: ∀m,m<16→m/4*4+(m%4+m/4)%4=4*((4*(m%4)+m/4+4*((4*(m%4)+m/4)%4))%16%4)+(4*(m%4)+m/4+4*((4*(m%4)+m/4)%4))%16/4:=by decide
 unfold shP tr shF
 rw [if_pos (by omega),H m hm]
theorem shP_row (f:Nat→Nat) (r n k:Nat) (hk:k<4):shP f r n (r*4+k)=f (r*4+(k+n)%4):=by
 unfold shP
 rw [if_neg (by omega),if_pos (by omega)]
 congr 1;omega
theorem shP_step (f:Nat→Nat) (r n m:Nat):
  (if m=r*4+3 then f (r*4+n%4)else if m=r*4+2 then f (r*4+(3+n)%4)else if m=r*4+1 then f (r*4+(2+n)%4)else if m=r*4 then f (r*4+(1+n)%4)else shP f r n m)=shP f r (n+1) m:=by
 have h: ∀k,k<4→m=r*4+k→shP f r (n+1) m=f (r*4+(k+(n+1))%4):=fun k hk e=>by rw [e];exact shP_row f r (n+1) k hk
 by_cases h3:m=r*4+3
 ·rw [if_pos h3,h 3 (by omega) h3];congr 1;omega
 rw [if_neg h3]
 by_cases h2:m=r*4+2
 ·rw [if_pos h2,h 2 (by omega) h2];congr 1;omega
 rw [if_neg h2]
 by_cases h1:m=r*4+1
 ·rw [if_pos h1,h 1 (by omega) h1];congr 1;omega
 rw [if_neg h1]
 by_cases h0:m=r*4
 ·rw [if_pos h0,h 0 (by omega) h0];congr 1;omega
 rw [if_neg h0]
 unfold shP
 by_cases h4:m/4<r
 ·rw [if_pos h4,if_pos h4]
 ·rw [if_neg h4,if_neg h4,if_neg (by omega),if_neg (by omega)]
theorem Ar.set4c {w:World} {g n o v0 v1 v2 v3:Nat} {f:Nat→Nat} (h:Ar w g n f) (ho:o+3<n):
  Ar ((((w.setCell ⟨g,o,none⟩ (.int .u8 (v0:Int))).setCell ⟨g,o+1,none⟩ (.int .u8 (v1:Int))).setCell ⟨g,o+2,none⟩ (.int .u8 (v2:Int))).setCell ⟨g,o+3,none⟩ (.int .u8 (v3:Int))) g n
   (fun i=>if i=o+3 then v3 else if i=o+2 then v2 else if i=o+1 then v1 else if i=o then v0 else f i):=
 (((h.set (v:=v0) (by omega) rfl).set (v:=v1) (by omega) rfl).set (v:=v2) (by omega) rfl).set (v:=v3) (by omega) rfl
theorem Ar.far4c {w:World} {g g' n o o1 o2 o3:Nat} {v0 v1 v2 v3:Value} {f:Nat→Nat} (h:Ar w g n f) (hg:g'≠g):
  Ar ((((w.setCell ⟨g',o,none⟩ v0).setCell ⟨g',o1,none⟩ v1).setCell ⟨g',o2,none⟩ v2).setCell ⟨g',o3,none⟩ v3) g n f:=
 (((h.far (p:=⟨g',o,none⟩) hg _).far (p:=⟨g',o1,none⟩) hg _).far (p:=⟨g',o2,none⟩) hg _).far (p:=⟨g',o3,none⟩) hg _
theorem below_set4c {B:Nat} {a w:World} {g' o o1 o2 o3:Nat} {v0 v1 v2 v3:Value} (h:Below B a w) (hg:B≤g'):
  Below B a ((((w.setCell ⟨g',o,none⟩ v0).setCell ⟨g',o1,none⟩ v1).setCell ⟨g',o2,none⟩ v2).setCell ⟨g',o3,none⟩ v3):=
 (((h.setCell (p:=⟨g',o,none⟩) hg _).setCell (p:=⟨g',o1,none⟩) hg _).setCell (p:=⟨g',o2,none⟩) hg _).setCell (p:=⟨g',o3,none⟩) hg _
end
section
open Go.RowKit
set_option linter.unusedVariables false
set_option maxRecDepth 100000
def mxG (f:Nat→Nat) (m:Nat):Nat:=
 ((mul 2 (f m)^^^mul 3 (f ((m/4+1)%4*4+m%4)))^^^f ((m/4+2)%4*4+m%4))^^^f ((m/4+3)%4*4+m%4)
theorem mxG_tr (f:Nat→Nat) (hf:B16 f) (m:Nat) (hm:m<16):mxG f m=tr (miF (tr f)) m:=by
 have H1: ∀m,m<16→4*((4*(m%4)+m/4)%4)+(4*(m%4)+m/4)/4=m:=by decide
 have H2: ∀k,k<4→ ∀m,m<16→4*(((4*(m%4)+m/4)/4*4+(4*(m%4)+m/4+k)%4)%4)+((4*(m%4)+m/4)/4*4+(4*(m%4)+m/4+k)%4)/4=(m/4+k)%4*4+m%4:=by decide
 unfold mxG miF mxF tr
 dsimp only
 rw [H1 m hm,H2 1 (by omega) m hm,H2 2 (by omega) m hm,H2 3 (by omega) m hm,one_mul_ _ (hf _ (by omega)),one_mul_ _ (hf _ (by omega))]
def mxP (f:Nat→Nat) (c r m:Nat):Nat:=if m%4<c∨m%4=c∧m/4<r then mxG f m else 0
theorem mxP_next (f:Nat→Nat) (c m:Nat) (hm:m<16):mxP f c 4 m=mxP f (c+1) 0 m:=by
 unfold mxP
 by_cases h:m%4<c∨m%4=c∧m/4<4
 ·rw [if_pos h,if_pos (by omega)]
 ·rw [if_neg h,if_neg (by omega)]
theorem mxP_step (f:Nat→Nat) (c r m:Nat) (hc:c<4) (hr:r<4) (hm:m<16):(if m=r*4+c then mxG f (r*4+c)else mxP f c r m)=mxP f c (r+1) m:=by
 unfold mxP
 by_cases h:m=r*4+c
 ·rw [if_pos h,if_pos (by omega),h]
 ·rw [if_neg h]
  by_cases h2:m%4<c∨m%4=c∧m/4<r
  ·rw [if_pos h2,if_pos (by omega)]
  ·rw [if_neg h2,if_neg (by omega)]
theorem heldT {a b:Addr} {x y:Value} {W1 W W':World} (k:W.cell? a=some x∧W.cell? b=some y∧Base W1 W) (ha:a.block<W.heap.size) (hb:b.block<W.heap.size) (hl:Below W.heap.size W W'):
  W'.cell? a=some x∧W'.cell? b=some y∧Base W1 W':=⟨(hl.cell ha).trans k.1,(hl.cell hb).trans k.2.1,Base.step k.2.2 hl⟩
theorem cell_lt {W:World} {g o:Nat} {x:Value} (h:W.cell? ⟨g,o,none⟩=some x):g<W.heap.size:=by
 rcases Nat.lt_or_ge g W.heap.size with h1|h1
 ·exact h1
 ·simp [World.cell?,Array.getElem?_eq_none h1]at h
theorem rowf (r kn:Nat) (k:Int) (q:Nat) (hk:k=(kn:Int)) (hr:r<4) (hkn:kn<4) (hq:q=(r+kn)%4):
  (IntKind.i64.wrap ((r:Int)+k)=(r:Int)+k∧wrap64 ((r:Int)+k)=(r:Int)+k)∧(((r:Int)+k).tmod 4=(q:Int)∧((r:Int)+k)%4=(q:Int))∧IntKind.i64.wrap (q:Int)=(q:Int)∧(q:Int)<4:=by
 subst hk
 refine⟨⟨wraps_i64' _ (by omega) (by omega),IntWalk.wrap64_in _ (by omega)⟩,⟨?_,by omega⟩,wraps_i64' _ (by omega) (by omega),by omega⟩
 rw [Int.tmod_eq_emod_of_nonneg (by omega)];omega
end
section
open Go.RowKit
set_option linter.unusedVariables false
set_option maxRecDepth 100000
def pkF (e s:Nat→Nat) (j:Nat):Nat:=if j<176 then e j else s (j-176)
theorem bodyPost_ret_row {P:Program} {fn:Func} {R:Ending→World→Prop} {a:Act} {w:World} {p:Tmp} {ty:TypeId} {g n:Nat} {f:Nat→Nat} {d:TypeDesc} (hr:fn.results= #[.cell p ty]) (hp:a.tmps.getD p undef= .pointer (some ⟨g,0,none⟩))
  (hA:Ar w g n f) (hu:P.underlying ty=some d) (hrow:d.isRow=true) (hi:(P.info? ty).map (·.size)=some (arL n f).length) (hd:a.defers= []) (hR:R (.returned (.agg (arL n f).toArray)) w):bodyPost P fn R .ret a w:=by
 refine bodyPost_ret (v:= .agg (arL n f).toArray) ?_ hd hR
 have hp':a.tmps[p]?.getD undef= .pointer (some ⟨g,0,none⟩):=by simpa using hp
 simp only [results,hr]
 simp [hp',asAddr,run_loadVar_mid (P:=P) w g 0 ty (arL n f) _ hA.range hu hrow hi]
end
section
open Go.RowKit
set_option linter.unusedVariables false
theorem tr_lt {X:Nat→Nat} (h:B16 X):B16 (tr X):=fun j hj=>h _ (by omega)
end
section
open Go.RowKit
set_option linter.unusedVariables false
set_option maxRecDepth 100000
end
section
open Go.RowKit
set_option linter.unusedVariables false
set_option maxRecDepth 100000
end
end Go.Proofs.YtiacbphnclgikaaDoor
