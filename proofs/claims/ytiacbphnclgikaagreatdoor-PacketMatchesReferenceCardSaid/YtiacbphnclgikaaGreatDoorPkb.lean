/-
 Contracts of the reference package of layer 17, each by a walk through its text; what was there stays as it was.
-/
import Derived.Test.YtiacbphnclgikaaGreatDoorSqz
import Derived.Test.YtiacbphnclgikaaGreatDoorGbt
import Derived.Test.YtiacbphnclgikaaGreatDoorFre
import Derived.Test.YtiacbphnclgikaaGreatDoorGbk
import Derived.Deep.RegionHeld3
import Derived.StillTailTactics
import Derived.Deep.Cut
namespace Go.Proofs.YtiacbphnclgikaaGreatDoor
open Go.RowKit
set_option linter.unusedVariables false
set_option maxRecDepth 100000
set_option linter.unusedSimpArgs false
def ckC (d:Int) (x n:Nat):Nat:=if d=0∨d=1 then if x<9223372036854775808 then if n≤1200 then 0 else 2 else 5 else 8
def pcF (a b c d e:Value):Nat→Value
 |0=>a|1=>b|2=>c|3=>d|_=>e
theorem pc_list (a b c d e:Value):cxL 5 (pcF a b c d e)= [a,b,c,d,e]:=rfl
theorem pk_new {w U:World} {a b c d e:Value} {t:TypeId} (h:w=U.alloc (.cells #[a,b,c,d,e] t)):Cx w U.heap.size 5 (pcF a b c d e):=by
 rw [h];exact Cx.new U 5 (pcF a b c d e) t
theorem pk_cell0 {w U:World} {a b c d e:Value} {t:TypeId} (h:w=U.alloc (.cells #[a,b,c,d,e] t)):w.cell? ⟨U.heap.size,0,none⟩=some a:=(pk_new h 0 (by omega)).1
theorem pk_cell1 {w U:World} {a b c d e:Value} {t:TypeId} (h:w=U.alloc (.cells #[a,b,c,d,e] t)):w.cell? ⟨U.heap.size,1,none⟩=some b:=(pk_new h 1 (by omega)).1
theorem pk_cell2 {w U:World} {a b c d e:Value} {t:TypeId} (h:w=U.alloc (.cells #[a,b,c,d,e] t)):w.cell? ⟨U.heap.size,2,none⟩=some c:=(pk_new h 2 (by omega)).1
theorem pk_cell3 {w U:World} {a b c d e:Value} {t:TypeId} (h:w=U.alloc (.cells #[a,b,c,d,e] t)):w.cell? ⟨U.heap.size,3,none⟩=some d:=(pk_new h 3 (by omega)).1
theorem pk_cell4 {w U:World} {a b c d e:Value} {t:TypeId} (h:w=U.alloc (.cells #[a,b,c,d,e] t)):w.cell? ⟨U.heap.size,4,none⟩=some e:=(pk_new h 4 (by omega)).1
def zpF:Nat→Value:=pcF (.int .i64 0) (.int .u64 0) (.int .u16 0) (.int .u16 0) (.slice none 0 0)
theorem Tryz.structP: ∃d,Tryz.prog.underlying 27=some d∧d.isRow=true:=by
 have h:(Tryz.prog.underlying 27).map (·.isRow)=some true:=by kernel_rfl
 cases hu:Tryz.prog.underlying 27 with
 |none=>rw [hu]at h;cases h
 |some d=>rw [hu]at h;exact⟨d,rfl,Option.some.inj h⟩
theorem sizeP (c:Nat→Value):(Tryz.prog.info? 27).map (·.size)=some (cxL 5 c).length:=by rw [cxL_len];kernel_rfl
theorem size5P {a b d e v:Value} :(Tryz.prog.info? 27).map (·.size)=some [a,b,d,e,v].length:=by show _=some 5;kernel_rfl
theorem zeroP (w:World):(zeroValue 27).run Tryz.prog w= .ok (.agg (cxL 5 zpF).toArray) w:=by kernel_rfl
theorem bzP (w:World):(Instr.build 27 #[]).run Tryz.prog w= .ok (.agg (cxL 5 zpF).toArray) w:=run_build w _ _ _ (by kernel_rfl)
theorem b3P (D X:Int) (A:Option Addr) (m c:Nat) (w:World):(Instr.build 27 #[(0,.int .i64 D),(1,.int .u64 X),(4,.slice A m c)]).run Tryz.prog w= .ok (.agg (cxL 5 (pcF (.int .i64 D) (.int .u64 X) (.int .u16 0) (.int .u16 0) (.slice A m c))).toArray) w:=run_build w _ _ _ (by kernel_rfl)
theorem pc_whole (c:Nat→Value) (a b d e v:Value): ∀j,j<5→cxP c 0 (cxL 5 (pcF a b d e v)) j=pcF a b d e v j:=fun j hj=>by
 have h:j=0∨j=1∨j=2∨j=3∨j=4:=by omega
 rcases h with rfl|rfl|rfl|rfl|rfl<;>rfl
theorem pc_one (a b d e v:Value) (h1:a.oneCell'=true) (h2:b.oneCell'=true) (h3:d.oneCell'=true) (h4:e.oneCell'=true) (h5:v.oneCell'=true): ∀u∈cxL 5 (pcF a b d e v),u.oneCell'=true:=cxL_one 5 _ fun j hj=>by
 have h:j=0∨j=1∨j=2∨j=3∨j=4:=by omega
 rcases h with rfl|rfl|rfl|rfl|rfl<;>assumption
theorem results_cxt {P:Program} {fn:Func} {T:Array Value} {w:World} {p q:Tmp} {ty:TypeId} {d:TypeDesc} {v:Value} {g n:Nat} {c:Nat→Value} (hr:fn.results= #[.cell p ty,.tmp q]) (hp:T.getD p undef= .pointer (some ⟨g,0,none⟩)) (hq:T.getD q undef=v)
  (hA:Cx w g n c) (hu:P.underlying ty=some d) (hd:d.isRow=true) (hi:(P.info? ty).map (·.size)=some (cxL n c).length):
  (results fn T).run P w= .ok (.tuple #[.agg (cxL n c).toArray,v]) w:=by
 have hp':T[p]?.getD undef= .pointer (some ⟨g,0,none⟩):=by simpa using hp
 have hq':T[q]?.getD undef=v:=by simpa using hq
 have hc:w.rangeAt g 0 (cxL n c):=hA.range 0 _ (by rw [cxL_len];omega) (fun j v hv=>by rw [Nat.zero_add];exact(cxL_get_some hv).2.symm)
 simp only [results,hr]
 simp [hp',hq',asAddr,run_loadVar_mid (P:=P) w g 0 ty (cxL n c) _ hc hu hd hi]
theorem sl_cell {w:World} {B b o n k:Nat} {l:List UInt8} (h:Sl w B (some ⟨b,o,none⟩) n l) (hk:k<n):w.cell? ⟨b,o+k,none⟩=some (.int .u8 (lF l k:Nat)):=by
 obtain⟨b',o',e,_,hc⟩:=h.at_ hk
 injection e with e
 injection e with e1 e2
 subst e1;subst e2
 exact hc
theorem sl_apart {w:World} {B b o n g:Nat} {l:List UInt8} (h:Sl w B (some ⟨b,o,none⟩) n l) (hg:b≠g) (vs:List Value) (k:Nat):Sl (w.setCells g k vs) B (some ⟨b,o,none⟩) n l:=
 ⟨h.1,fun hn=>by
  obtain⟨b',o',e,hb,hc⟩:=h.2 hn
  refine⟨b',o',e,hb,fun j u hj=> ?_⟩
  injection e with e
  injection e with e1 e2
  subst e1
  rw [World.cell?_setCells_out g vs k w ⟨b,o'+j,none⟩ (fun h9 _=>absurd h9 hg)]
  exact hc j u hj⟩
theorem up_facts {a b T:Nat} (ha:a<256) (hb:b<256) (h:a*256+b=T):IntKind.u16.wrap (a:Int)=(a:Int)∧IntKind.u16.wrap (b:Int)=(b:Int)∧IntKind.u16.wrap ((a:Int)*256)=(a:Int)*256∧IntKind.u16.wrap ((a:Int)*256+(b:Int))=(T:Int)∧(a:Int)*256+(b:Int)=(T:Int)∧IntKind.u16.wrap (T:Int)=(T:Int):=by
 simp only [IntKind.wrap_u16]
 omega
set_option maxHeartbeats 1600000 in
theorem rpcheck (d:Int) (x t e:Nat) (A:Option Addr) (n c:Nat) (w:World) (hd: -9223372036854775808≤d∧d≤9223372036854775807) (hx:x<18446744073709551616) (hn:n≤9223372036854775807):
  Calls Tryz.prog 10 #[.agg #[.int .i64 d,.int .u64 (x:Int),.int .u16 (t:Int),.int .u16 (e:Int),.slice A n c]] w fun e9 w'=>e9= .returned (.int .i64 (ckC d x n:Nat))∧Below w.heap.size w w':=by
 by_cases h0:d=0
 ·subst h0
  by_cases h63:x<9223372036854775808
  ·have i2:decide ((9223372036854775808:Int)≤(x:Int))=false:=decide_eq_false (by omega)
   have i2n: ¬(9223372036854775808:Int)≤(x:Int):=by omega
   by_cases h12:n≤1200
   ·have i3: ¬(n:Int)>1200:=by omega
    obtain⟨w1,hw1⟩:=Lv (w.alloc (.cells #[.int .i64 0,.int .u64 (x:Int),.int .u16 (t:Int),.int .u16 (e:Int),.slice A n c] 27))
    have c0:=pk_cell0 hw1
    have c1:=pk_cell1 hw1
    have c4:=pk_cell4 hw1
    have hb1:=Bl hw1
    rw [show ckC 0 x n=0 by unfold ckC;rw [if_pos (by omega),if_pos h63,if_pos h12]]
    clear hd hx hn
    go_enter Tryz.func10,Tryz.ntmps10
    go_upto_region 1 with fail
    rw [←hw1]
    clear hw1
    go_wp2_with fail
    go_ret
    exact⟨rfl,hb1⟩
   ·have i3:(n:Int)>1200:=by omega
    obtain⟨w1,hw1⟩:=Lv (w.alloc (.cells #[.int .i64 0,.int .u64 (x:Int),.int .u16 (t:Int),.int .u16 (e:Int),.slice A n c] 27))
    have c0:=pk_cell0 hw1
    have c1:=pk_cell1 hw1
    have c4:=pk_cell4 hw1
    have hb1:=Bl hw1
    rw [show ckC 0 x n=2 by unfold ckC;rw [if_pos (by omega),if_pos h63,if_neg h12]]
    clear hd hx hn
    go_enter Tryz.func10,Tryz.ntmps10
    go_upto_region 1 with fail
    rw [←hw1]
    clear hw1
    go_wp2_with fail
    go_ret
    exact⟨rfl,hb1⟩
  ·have i2:(x:Int)≥9223372036854775808:=by omega
   obtain⟨w1,hw1⟩:=Lv (w.alloc (.cells #[.int .i64 0,.int .u64 (x:Int),.int .u16 (t:Int),.int .u16 (e:Int),.slice A n c] 27))
   have c0:=pk_cell0 hw1
   have c1:=pk_cell1 hw1
   have c4:=pk_cell4 hw1
   have hb1:=Bl hw1
   rw [show ckC 0 x n=5 by unfold ckC;rw [if_pos (by omega),if_neg h63]]
   clear hd hx hn
   go_enter Tryz.func10,Tryz.ntmps10
   go_upto_region 1 with fail
   rw [←hw1]
   clear hw1
   go_wp2_with fail
   go_ret
   exact⟨rfl,hb1⟩
 by_cases h1:d=1
 ·subst h1
  clear h0
  by_cases h63:x<9223372036854775808
  ·have i2:decide ((9223372036854775808:Int)≤(x:Int))=false:=decide_eq_false (by omega)
   have i2n: ¬(9223372036854775808:Int)≤(x:Int):=by omega
   by_cases h12:n≤1200
   ·have i3: ¬(n:Int)>1200:=by omega
    obtain⟨w1,hw1⟩:=Lv (w.alloc (.cells #[.int .i64 1,.int .u64 (x:Int),.int .u16 (t:Int),.int .u16 (e:Int),.slice A n c] 27))
    have c0:=pk_cell0 hw1
    have c1:=pk_cell1 hw1
    have c4:=pk_cell4 hw1
    have hb1:=Bl hw1
    rw [show ckC 1 x n=0 by unfold ckC;rw [if_pos (by omega),if_pos h63,if_pos h12]]
    clear hd hx hn
    go_enter Tryz.func10,Tryz.ntmps10
    go_upto_region 1 with fail
    rw [←hw1]
    clear hw1
    go_wp2_with fail
    go_ret
    exact⟨rfl,hb1⟩
   ·have i3:(n:Int)>1200:=by omega
    obtain⟨w1,hw1⟩:=Lv (w.alloc (.cells #[.int .i64 1,.int .u64 (x:Int),.int .u16 (t:Int),.int .u16 (e:Int),.slice A n c] 27))
    have c0:=pk_cell0 hw1
    have c1:=pk_cell1 hw1
    have c4:=pk_cell4 hw1
    have hb1:=Bl hw1
    rw [show ckC 1 x n=2 by unfold ckC;rw [if_pos (by omega),if_pos h63,if_neg h12]]
    clear hd hx hn
    go_enter Tryz.func10,Tryz.ntmps10
    go_upto_region 1 with fail
    rw [←hw1]
    clear hw1
    go_wp2_with fail
    go_ret
    exact⟨rfl,hb1⟩
  ·have i2:(x:Int)≥9223372036854775808:=by omega
   obtain⟨w1,hw1⟩:=Lv (w.alloc (.cells #[.int .i64 1,.int .u64 (x:Int),.int .u16 (t:Int),.int .u16 (e:Int),.slice A n c] 27))
   have c0:=pk_cell0 hw1
   have c1:=pk_cell1 hw1
   have c4:=pk_cell4 hw1
   have hb1:=Bl hw1
   rw [show ckC 1 x n=5 by unfold ckC;rw [if_pos (by omega),if_neg h63]]
   clear hd hx hn
   go_enter Tryz.func10,Tryz.ntmps10
   go_upto_region 1 with fail
   rw [←hw1]
   clear hw1
   go_wp2_with fail
   go_ret
   exact⟨rfl,hb1⟩
 obtain⟨w1,hw1⟩:=Lv (w.alloc (.cells #[.int .i64 d,.int .u64 (x:Int),.int .u16 (t:Int),.int .u16 (e:Int),.slice A n c] 27))
 have c0:=pk_cell0 hw1
 have c1:=pk_cell1 hw1
 have c4:=pk_cell4 hw1
 have hb1:=Bl hw1
 have i0:(d !=0)=true:=by simp [h0]
 have i1:(d !=1)=true:=by simp [h1]
 rw [show ckC d x n=8 by unfold ckC;rw [if_neg (by omega)]]
 clear hd hx hn
 go_enter Tryz.func10,Tryz.ntmps10
 go_upto_region 1 with fail
 rw [←hw1]
 clear hw1
 go_wp2_with fail
 go_ret
 exact⟨rfl,hb1⟩
set_option maxHeartbeats 4000000 in
theorem rpsame (d1:Int) (x1 t1 e1:Nat) (A1:Option Addr) (n1 c1:Nat) (l1:List UInt8) (d2:Int) (x2 t2 e2:Nat) (A2:Option Addr) (n2 c2:Nat) (l2:List UInt8) (w:World) (hS1:Sl w w.heap.size A1 n1 l1) (hS2:Sl w w.heap.size A2 n2 l2) (hm1:n1≤140737488351232) (hm2:n2≤140737488351232):
  Calls Tryz.prog 16 #[.agg #[.int .i64 d1,.int .u64 (x1:Int),.int .u16 (t1:Int),.int .u16 (e1:Int),.slice A1 n1 c1],.agg #[.int .i64 d2,.int .u64 (x2:Int),.int .u16 (t2:Int),.int .u16 (e2:Int),.slice A2 n2 c2]] w fun e9 w'=>e9= .returned (.bool (decide (d1=d2∧x1=x2∧t1=t2∧e1=e2∧l1=l2)))∧Below w.heap.size w w':=by
 by_cases h0:d1=d2
 ·subst h0
  by_cases h1:x1=x2
  ·subst h1
   by_cases h2:t1=t2
   ·subst h2
    by_cases h3:e1=e2
    ·subst h3
     obtain⟨w1,hw1⟩:=Lv (w.alloc (.cells #[.int .i64 d1,.int .u64 (x1:Int),.int .u16 (t1:Int),.int .u16 (e1:Int),.slice A1 n1 c1] 27))
     have c10:=pk_cell0 hw1
     have c11:=pk_cell1 hw1
     have c12:=pk_cell2 hw1
     have c13:=pk_cell3 hw1
     have c14:=pk_cell4 hw1
     have hs1:=Zs1 hw1
     have hb1:=Bl hw1
     clear c10 c11 c12 c13 c14
     obtain⟨w2,hw2⟩:=Lv (w1.alloc (.cells #[.int .i64 d1,.int .u64 (x1:Int),.int .u16 (t1:Int),.int .u16 (e1:Int),.slice A2 n2 c2] 27))
     have c20:=pk_cell0 hw2
     have c21:=pk_cell1 hw2
     have c22:=pk_cell2 hw2
     have c23:=pk_cell3 hw2
     have c24:=pk_cell4 hw2
     have hk1:=(pk_new hw1).alloc (by omega) (.cells #[.int .i64 d1,.int .u64 (x1:Int),.int .u16 (t1:Int),.int .u16 (e1:Int),.slice A2 n2 c2] 27)
     rw [←hw2]at hk1
     have c10:w2.cell? ⟨w.heap.size,0,none⟩=some _:=(hk1 0 (by omega)).1
     have c11:w2.cell? ⟨w.heap.size,1,none⟩=some _:=(hk1 1 (by omega)).1
     have c12:w2.cell? ⟨w.heap.size,2,none⟩=some _:=(hk1 2 (by omega)).1
     have c13:w2.cell? ⟨w.heap.size,3,none⟩=some _:=(hk1 3 (by omega)).1
     have c14:w2.cell? ⟨w.heap.size,4,none⟩=some _:=(hk1 4 (by omega)).1
     simp only [pcF]at c10 c11 c12 c13 c14
     have hb2:=Bm hw2 hb1
     rw [hs1]at c20 c21 c22 c23 c24
     have hS12:=(hS1.below hb2).more hb2.size
     have hS22:=(hS2.below hb2).more hb2.size
     rw [show decide (d1=d1∧x1=x1∧t1=t1∧e1=e1∧l1=l2)=decide (l1=l2)by simp]
     clear hS1 hS2 hk1
     go_enter Tryz.func16,Tryz.ntmps16
     go_upto_region 1 with fail
     rw [←hw1,←hw2]
     clear hw1 hw2
     try simp only [hs1]
     go_wp2_with fail
     refine(same A1 A2 n1 n2 c1 c2 l1 l2 _ hS12 hS22 hm1 hm2).mono ?_
     rintro e9 w3 ⟨rfl,hD⟩
     go_wp2_with fail
     go_ret
     exact⟨rfl,hb2.trans (hD.below _)⟩
    ·obtain⟨w1,hw1⟩:=Lv (w.alloc (.cells #[.int .i64 d1,.int .u64 (x1:Int),.int .u16 (t1:Int),.int .u16 (e1:Int),.slice A1 n1 c1] 27))
     have c10:=pk_cell0 hw1
     have c11:=pk_cell1 hw1
     have c12:=pk_cell2 hw1
     have c13:=pk_cell3 hw1
     have c14:=pk_cell4 hw1
     have hs1:=Zs1 hw1
     have hb1:=Bl hw1
     clear c10 c11 c12 c13 c14
     obtain⟨w2,hw2⟩:=Lv (w1.alloc (.cells #[.int .i64 d1,.int .u64 (x1:Int),.int .u16 (t1:Int),.int .u16 (e2:Int),.slice A2 n2 c2] 27))
     have c20:=pk_cell0 hw2
     have c21:=pk_cell1 hw2
     have c22:=pk_cell2 hw2
     have c23:=pk_cell3 hw2
     have c24:=pk_cell4 hw2
     have hk1:=(pk_new hw1).alloc (by omega) (.cells #[.int .i64 d1,.int .u64 (x1:Int),.int .u16 (t1:Int),.int .u16 (e2:Int),.slice A2 n2 c2] 27)
     rw [←hw2]at hk1
     have c10:w2.cell? ⟨w.heap.size,0,none⟩=some _:=(hk1 0 (by omega)).1
     have c11:w2.cell? ⟨w.heap.size,1,none⟩=some _:=(hk1 1 (by omega)).1
     have c12:w2.cell? ⟨w.heap.size,2,none⟩=some _:=(hk1 2 (by omega)).1
     have c13:w2.cell? ⟨w.heap.size,3,none⟩=some _:=(hk1 3 (by omega)).1
     have c14:w2.cell? ⟨w.heap.size,4,none⟩=some _:=(hk1 4 (by omega)).1
     simp only [pcF]at c10 c11 c12 c13 c14
     have hb2:=Bm hw2 hb1
     rw [hs1]at c20 c21 c22 c23 c24
     have hS12:=(hS1.below hb2).more hb2.size
     have hS22:=(hS2.below hb2).more hb2.size
     have i0:((e1:Int)==(e2:Int))=false:=by simp;omega
     rw [decide_eq_false (fun h9=>h3 h9.2.2.2.1)]
     clear hS1 hS2 hk1
     go_enter Tryz.func16,Tryz.ntmps16
     go_upto_region 1 with fail
     rw [←hw1,←hw2]
     clear hw1 hw2
     try simp only [hs1]
     go_wp2_with fail
     go_ret
     exact⟨rfl,hb2⟩
   ·obtain⟨w1,hw1⟩:=Lv (w.alloc (.cells #[.int .i64 d1,.int .u64 (x1:Int),.int .u16 (t1:Int),.int .u16 (e1:Int),.slice A1 n1 c1] 27))
    have c10:=pk_cell0 hw1
    have c11:=pk_cell1 hw1
    have c12:=pk_cell2 hw1
    have c13:=pk_cell3 hw1
    have c14:=pk_cell4 hw1
    have hs1:=Zs1 hw1
    have hb1:=Bl hw1
    clear c10 c11 c12 c13 c14
    obtain⟨w2,hw2⟩:=Lv (w1.alloc (.cells #[.int .i64 d1,.int .u64 (x1:Int),.int .u16 (t2:Int),.int .u16 (e2:Int),.slice A2 n2 c2] 27))
    have c20:=pk_cell0 hw2
    have c21:=pk_cell1 hw2
    have c22:=pk_cell2 hw2
    have c23:=pk_cell3 hw2
    have c24:=pk_cell4 hw2
    have hk1:=(pk_new hw1).alloc (by omega) (.cells #[.int .i64 d1,.int .u64 (x1:Int),.int .u16 (t2:Int),.int .u16 (e2:Int),.slice A2 n2 c2] 27)
    rw [←hw2]at hk1
    have c10:w2.cell? ⟨w.heap.size,0,none⟩=some _:=(hk1 0 (by omega)).1
    have c11:w2.cell? ⟨w.heap.size,1,none⟩=some _:=(hk1 1 (by omega)).1
    have c12:w2.cell? ⟨w.heap.size,2,none⟩=some _:=(hk1 2 (by omega)).1
    have c13:w2.cell? ⟨w.heap.size,3,none⟩=some _:=(hk1 3 (by omega)).1
    have c14:w2.cell? ⟨w.heap.size,4,none⟩=some _:=(hk1 4 (by omega)).1
    simp only [pcF]at c10 c11 c12 c13 c14
    have hb2:=Bm hw2 hb1
    rw [hs1]at c20 c21 c22 c23 c24
    have hS12:=(hS1.below hb2).more hb2.size
    have hS22:=(hS2.below hb2).more hb2.size
    have i0:((t1:Int)==(t2:Int))=false:=by simp;omega
    rw [decide_eq_false (fun h9=>h2 h9.2.2.1)]
    clear hS1 hS2 hk1
    go_enter Tryz.func16,Tryz.ntmps16
    go_upto_region 1 with fail
    rw [←hw1,←hw2]
    clear hw1 hw2
    try simp only [hs1]
    go_wp2_with fail
    go_ret
    exact⟨rfl,hb2⟩
  ·obtain⟨w1,hw1⟩:=Lv (w.alloc (.cells #[.int .i64 d1,.int .u64 (x1:Int),.int .u16 (t1:Int),.int .u16 (e1:Int),.slice A1 n1 c1] 27))
   have c10:=pk_cell0 hw1
   have c11:=pk_cell1 hw1
   have c12:=pk_cell2 hw1
   have c13:=pk_cell3 hw1
   have c14:=pk_cell4 hw1
   have hs1:=Zs1 hw1
   have hb1:=Bl hw1
   clear c10 c11 c12 c13 c14
   obtain⟨w2,hw2⟩:=Lv (w1.alloc (.cells #[.int .i64 d1,.int .u64 (x2:Int),.int .u16 (t2:Int),.int .u16 (e2:Int),.slice A2 n2 c2] 27))
   have c20:=pk_cell0 hw2
   have c21:=pk_cell1 hw2
   have c22:=pk_cell2 hw2
   have c23:=pk_cell3 hw2
   have c24:=pk_cell4 hw2
   have hk1:=(pk_new hw1).alloc (by omega) (.cells #[.int .i64 d1,.int .u64 (x2:Int),.int .u16 (t2:Int),.int .u16 (e2:Int),.slice A2 n2 c2] 27)
   rw [←hw2]at hk1
   have c10:w2.cell? ⟨w.heap.size,0,none⟩=some _:=(hk1 0 (by omega)).1
   have c11:w2.cell? ⟨w.heap.size,1,none⟩=some _:=(hk1 1 (by omega)).1
   have c12:w2.cell? ⟨w.heap.size,2,none⟩=some _:=(hk1 2 (by omega)).1
   have c13:w2.cell? ⟨w.heap.size,3,none⟩=some _:=(hk1 3 (by omega)).1
   have c14:w2.cell? ⟨w.heap.size,4,none⟩=some _:=(hk1 4 (by omega)).1
   simp only [pcF]at c10 c11 c12 c13 c14
   have hb2:=Bm hw2 hb1
   rw [hs1]at c20 c21 c22 c23 c24
   have hS12:=(hS1.below hb2).more hb2.size
   have hS22:=(hS2.below hb2).more hb2.size
   have i0:((x1:Int)==(x2:Int))=false:=by simp;omega
   rw [decide_eq_false (fun h9=>h1 h9.2.1)]
   clear hS1 hS2 hk1
   go_enter Tryz.func16,Tryz.ntmps16
   go_upto_region 1 with fail
   rw [←hw1,←hw2]
   clear hw1 hw2
   try simp only [hs1]
   go_wp2_with fail
   go_ret
   exact⟨rfl,hb2⟩
 ·obtain⟨w1,hw1⟩:=Lv (w.alloc (.cells #[.int .i64 d1,.int .u64 (x1:Int),.int .u16 (t1:Int),.int .u16 (e1:Int),.slice A1 n1 c1] 27))
  have c10:=pk_cell0 hw1
  have c11:=pk_cell1 hw1
  have c12:=pk_cell2 hw1
  have c13:=pk_cell3 hw1
  have c14:=pk_cell4 hw1
  have hs1:=Zs1 hw1
  have hb1:=Bl hw1
  clear c10 c11 c12 c13 c14
  obtain⟨w2,hw2⟩:=Lv (w1.alloc (.cells #[.int .i64 d2,.int .u64 (x2:Int),.int .u16 (t2:Int),.int .u16 (e2:Int),.slice A2 n2 c2] 27))
  have c20:=pk_cell0 hw2
  have c21:=pk_cell1 hw2
  have c22:=pk_cell2 hw2
  have c23:=pk_cell3 hw2
  have c24:=pk_cell4 hw2
  have hk1:=(pk_new hw1).alloc (by omega) (.cells #[.int .i64 d2,.int .u64 (x2:Int),.int .u16 (t2:Int),.int .u16 (e2:Int),.slice A2 n2 c2] 27)
  rw [←hw2]at hk1
  have c10:w2.cell? ⟨w.heap.size,0,none⟩=some _:=(hk1 0 (by omega)).1
  have c11:w2.cell? ⟨w.heap.size,1,none⟩=some _:=(hk1 1 (by omega)).1
  have c12:w2.cell? ⟨w.heap.size,2,none⟩=some _:=(hk1 2 (by omega)).1
  have c13:w2.cell? ⟨w.heap.size,3,none⟩=some _:=(hk1 3 (by omega)).1
  have c14:w2.cell? ⟨w.heap.size,4,none⟩=some _:=(hk1 4 (by omega)).1
  simp only [pcF]at c10 c11 c12 c13 c14
  have hb2:=Bm hw2 hb1
  rw [hs1]at c20 c21 c22 c23 c24
  have hS12:=(hS1.below hb2).more hb2.size
  have hS22:=(hS2.below hb2).more hb2.size
  have i0:(d1==d2)=false:=by simp;omega
  rw [decide_eq_false (fun h9=>h0 h9.1)]
  clear hS1 hS2 hk1
  go_enter Tryz.func16,Tryz.ntmps16
  go_upto_region 1 with fail
  rw [←hw1,←hw2]
  clear hw1 hw2
  try simp only [hs1]
  go_wp2_with fail
  go_ret
  exact⟨rfl,hb2⟩
end Go.Proofs.YtiacbphnclgikaaGreatDoor
