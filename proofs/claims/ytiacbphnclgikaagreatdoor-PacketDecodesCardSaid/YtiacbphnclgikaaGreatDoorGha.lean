/-
 Contracts of package hash and of the reference package of layer 11, by walks through their texts, one after the other; what was there stays as it was.
-/
import Derived.Test.YtiacbphnclgikaaGreatDoorSqz
import Derived.Test.YtiacbphnclgikaaGreatDoorOfw
import Derived.Test.YtiacbphnclgikaaGreatDoorGbl
import Derived.RangeFuncOwn
import Derived.RangeFuncWrites
import Derived.Test.YtiacbphnclgikaaGreatDoorGbk
import Derived.LoopN
import Derived.Deep.RegionHeld3
import Derived.Test.YtiacbphnclgikaaGreatDoorGtb
import Derived.Test.YtiacbphnclgikaaGreatDoorArg
import Derived.BigFrame
import Derived.Great.BuildSlice
import Derived.Lib.AppendZerosOnto
namespace Go.Proofs.YtiacbphnclgikaaGreatDoor
section
open Go.RowKit
set_option linter.unusedVariables false
set_option maxRecDepth 100000
theorem enF_inj {f b c:Nat→Nat} (hf:B16 f) (hb:B16 b) (hc:B16 c) (h:E16 (enF f b) (enF f c)):E16 b c:=fun j hj=>
 (de_en hf hb 10 j hj).symm.trans ((deR_congr f 10 h j hj).trans (de_en hf hc 10 j hj))
def nxH (s:Nat→Nat) (x:Nat):Nat→Nat:=atI s (zer ((x+1)%18446744073709551616):Nat)
def foH (f s:Nat→Nat) (P:Nat→Nat→Nat) (pre:List Nat):(Nat→Nat)×(Nat→Nat):=
 pre.foldl (fun p x=>(adF p.1 (enF f (adF (P x) (adF p.2 (nxH s x)))),adF p.2 (nxH s x))) (zF,zF)
def hsF (f s:Nat→Nat) (P:Nat→Nat→Nat):Nat→Nat→Nat
 |0=>zF
 |k+1=>adF (hsF f s P k) (enF f (adF (P k) (atF zF s (k+1))))
def hrF (f s o:Nat→Nat) (l:List UInt8):Nat→Nat:=if l.length=0∨16≤l.length then zF else enF f (adF (lF (padL l 16)) (adF o s))
def haF (f s:Nat→Nat) (l:List UInt8):Nat→Nat:=
 adF (hsF f s (pt l) (l.length/16)) (hrF f s (atF zF s (l.length/16)) (l.drop (16*(l.length/16))))
section
variable {f s:Nat→Nat} {P:Nat→Nat→Nat}
theorem nxH_lt (hs:B16 s) (x:Nat):B16 (nxH s x):=fun j hj=>by
 unfold nxH atI
 split
 ·exact dk_lt hs _ j hj
 ·exact Nat.zero_lt_of_lt (show 0<256 by decide)
theorem nxH_eq (s:Nat→Nat) (x:Nat) (hx:x<9223372036854775807):nxH s x=dk s (zer (x+1)+2):=by
 unfold nxH
 rw [Nat.mod_eq_of_lt (by omega)]
 have h1:=zer_lt (x+1) (by omega) (by omega)
 unfold atI
 rw [if_pos (by omega),Int.toNat_natCast]
theorem foH_snoc (f s:Nat→Nat) (P:Nat→Nat→Nat) (pre:List Nat) (x:Nat):
  foH f s P (pre++ [x])=(adF (foH f s P pre).1 (enF f (adF (P x) (adF (foH f s P pre).2 (nxH s x)))),adF (foH f s P pre).2 (nxH s x)):=by
 unfold foH
 rw [List.foldl_append]
 rfl
theorem foH_off (hs:B16 s) (pre:List Nat):B16 (foH f s P pre).2:=by
 suffices h: ∀(l:List Nat) (p:(Nat→Nat)×(Nat→Nat)),B16 p.2→B16 (l.foldl (fun p x=>(adF p.1 (enF f (adF (P x) (adF p.2 (nxH s x)))),adF p.2 (nxH s x))) p).2 from h pre (zF,zF) zF_lt
 intro l
 induction l with
 |nil=>intro p h;exact h
 |cons x l ih=>intro p h;exact ih _ (adF_lt h (nxH_lt hs x))
theorem foH_sum (hf:B16 f) (hs:B16 s) (hP: ∀k,B16 (P k)) (pre:List Nat):B16 (foH f s P pre).1:=by
 suffices h: ∀(l:List Nat) (p:(Nat→Nat)×(Nat→Nat)),B16 p.1→B16 p.2→B16 (l.foldl (fun p x=>(adF p.1 (enF f (adF (P x) (adF p.2 (nxH s x)))),adF p.2 (nxH s x))) p).1 from h pre (zF,zF) zF_lt zF_lt
 intro l
 induction l with
 |nil=>intro p h _;exact h
 |cons x l ih=>intro p h h2;exact ih _ (adF_lt h (enR_lt hf (adF_lt (hP x) (adF_lt h2 (nxH_lt hs x))) 10)) (adF_lt h2 (nxH_lt hs x))
theorem foH_range (f s:Nat→Nat) (P:Nat→Nat→Nat): ∀n,n<9223372036854775807→foH f s P (List.range n)=(hsF f s P n,atF zF s n)
 |0,_=>by rw [atF_zero];rfl
 |n+1,h=>by
  rw [List.range_succ,foH_snoc,foH_range f s P n (by omega),nxH_eq s n (by omega),atF_step]
  rfl
theorem hsF_lt (hf:B16 f) (hs:B16 s) (hP: ∀k,B16 (P k)): ∀n,B16 (hsF f s P n)
 |0=>zF_lt
 |n+1=>adF_lt (hsF_lt hf hs hP n) (enR_lt hf (adF_lt (hP n) (atF_lt zF_lt hs _)) 10)
theorem hsF_congr (f s:Nat→Nat) {P Q:Nat→Nat→Nat} : ∀n,(∀k,k<n→E16 (P k) (Q k))→E16 (hsF f s P n) (hsF f s Q n)
 |0,_=>fun _ _=>rfl
 |n+1,h=>adF_congr (hsF_congr f s n (fun k hk=>h k (by omega))) (enR_congr f (adF_congr (h n (by omega)) (fun _ _=>rfl)) 10)
theorem lF_lt16 (l:List UInt8):B16 (lF l):=fun _ _=>lF_lt _ _
theorem hrF_lt (hf:B16 f) (hs:B16 s) {o:Nat→Nat} (ho:B16 o) (l:List UInt8):B16 (hrF f s o l):=by
 unfold hrF
 split
 ·exact zF_lt
 ·exact enR_lt hf (adF_lt (lF_lt16 _) (adF_lt ho hs)) 10
theorem ad_zero (f:Nat→Nat):adF f zF=f:=funext fun j=>Nat.xor_zero _
theorem zero_ad (f:Nat→Nat):adF zF f=f:=funext fun j=>Nat.zero_xor _
end
theorem keepsOthers_setCells (g:Nat): ∀(vs:List Value) (o:Nat) (W:World),KeepsOthers W (W.setCells g o vs)
 | [],_,W=>KeepsOthers.refl W
 |v::r,o,W=>(KeepsOthers.setCell W ⟨g,o,none⟩ v).trans (keepsOthers_setCells g r (o+1) _)
theorem boxed_under2 {W W':World} {B b:Nat} {t:TypeId} {v:Value} (h:Boxed W B t v) (hb:Below b W W') (hB:B<b):Boxed W' B t v:=(hb.block B hB).trans h
theorem below_setCells (W:World) (g:Nat) (vs:List Value) (o:Nat):Below g W (W.setCells g o vs):=Below.setCells (Below.refl _ _) (Nat.le_refl _) _ _
theorem wpList_store_arE {P:Program} {ops:Array Oper} {rest:List Oper} {op:Oper} {a:Act} {w:World} {Q:Exit→Act→World→Prop} (hgd:op.guard=none) (ty:TypeId) (x y:Operand) (ho:op.op= .store ty x y)
  (g n:Nat) (f f':Nat→Nat) (hx:a.eval x= .pointer (some ⟨g,0,none⟩)) (hy:a.eval y= .agg (arL n f').toArray)
  (hA:Ar w g n f) (hi:(P.info? ty).map (·.size)=some (arL n f').length)
  (h: ∀w',w'=w.setCells g 0 (arL n f')→Ar w' g n f'→wpList P ops Q rest (a.put op.dst undef) w'):
  wpList P ops Q (op::rest) a w:=by
 refine wpList_store_mid hgd ty x y ho g 0 _ hx hy ?_ ?_ (all_oneCell_toArray (arL_one n f')) ?_
 ·rw [List.size_toArray,arL_len];exact hA.there
 ·rw [List.size_toArray];exact hi
 ·exact h _ rfl (hA.whole f')
theorem results_ar2 {P:Program} {fn:Func} {T:Array Value} {w:World} {p q:Tmp} {ty e:TypeId} {g g' n m:Nat} {f f':Nat→Nat} (hr:fn.results= #[.cell p ty,.cell q ty]) (hp:T.getD p undef= .pointer (some ⟨g,0,none⟩)) (hq:T.getD q undef= .pointer (some ⟨g',0,none⟩))
  (hA:Ar w g n f) (hA':Ar w g' n f') (hu:P.underlying ty=some (.array m e)) (hi:(P.info? ty).map (·.size)=some (arL n f).length) (hi':(P.info? ty).map (·.size)=some (arL n f').length):
  (results fn T).run P w= .ok (.tuple #[.agg (arL n f).toArray,.agg (arL n f').toArray]) w:=by
 have hp':T[p]?.getD undef= .pointer (some ⟨g,0,none⟩):=by simpa using hp
 have hq':T[q]?.getD undef= .pointer (some ⟨g',0,none⟩):=by simpa using hq
 simp only [results,hr]
 simp [hp',hq',asAddr,run_loadVar_mid (P:=P) w g 0 ty (arL n f) _ hA.range hu rfl hi,run_loadVar_mid (P:=P) w g' 0 ty (arL n f') _ hA'.range hu rfl hi']
section
variable {P:Program} {n l:Nat} {Q:Exit→Act→World→Prop}
theorem wpListIn_of_wpList {ops:Array Oper} (hno: ¬LetsOut Q): ∀(L:List Oper) (_: ∀o∈L,∀c,o.op≠ .defer c) (a:Act) (w:World),wpList P ops Q L a w→wpListIn (Fence.wide.inRound l) n P ops Q L a w
 | [],_,_,_,h=>h
 |o::L,hd,a,w,h=>by
  unfold wpList at h
  unfold wpListIn
  by_cases hw:Region.wanted o (yielded ops a.tmps)=true
  ·rw [if_pos hw]at h⊢
   exact Oper.wpIn_mono (fun a' w' h'=>wpListIn_of_wpList hno L (fun o ho=>hd o (List.mem_cons_of_mem _ ho)) a' w' h') (wpIn_of_wp (hd o List.mem_cons_self) (h.resolve_right (fun h2=>hno h2.2)))
  ·rw [if_neg hw]at h⊢
   exact⟨fun _ _=>trivial,wpListIn_of_wpList hno L (fun o ho=>hd o (List.mem_cons_of_mem _ ho)) _ _ h⟩
theorem wpIn_region_plain {id:Nat} {L:List Oper} {a:Act} {w:World} (hd:calmOps L.toArray=true) (h:wpList P L.toArray (OnlyN Q) L a w):(Code.region id L.toArray false).wpIn (Fence.wide.inRound l) n P Q a w:=
 wpIn_mono (wpIn_region_lit (wpListIn_of_wpList (fun h0=>by obtain⟨_,_,h1⟩:=h0;exact h1) L (fun o ho c hc=>by
  have h1:=(Array.all_eq_true_iff_forall_mem.1 hd) o (by simpa using ho)
  rw [hc]at h1
  exact absurd h1 (by simp)) a w h)) OnlyN.imp
theorem onlyN_normal {a:Act} {w:World} (h:Q .normal a w):OnlyN Q .normal a w:=h
end
theorem wrap_u_any (y:Nat):IntKind.u64.wrap (y:Int)=((y%18446744073709551616:Nat):Int):=by rw [IntKind.wrap_u64];omega
end
section
open Go.RowKit
set_option linter.unusedVariables false
set_option maxRecDepth 100000
open Go.Shelf
attribute [local go_sem] Oper.semAt_some
def fE (P:Nat→Nat→Nat) (k:Nat):Array Value:= #[.int .i64 ((k+1:Nat):Int),.agg (arL 16 (P k)).toArray]
end
section
open Go.RowKit
set_option linter.unusedVariables false
set_option maxRecDepth 100000
open Go.Shelf
attribute [local go_sem] Oper.semAt_some
set_option maxHeartbeats 4000000 in
theorem htotal (q:Option Addr) (f s:Nat→Nat) (P:Nat→Nat→Nat) (N gf:Nat) (lb:Array Value) (Kp:World→World→Prop) (Sp:List Nat→Prop) (w:World) (hf:B16 f) (hs:enF f zF=s) (hP: ∀k,B16 (P k)) (hN:N≤1000000) (ht:TabC w (.pointer q) f) (hx:Boxes w)
  (eg: ∀args V,(callFunc gf args).run Tryz.prog V= .ok (.enter gf args) V)
  (hseq:SeqStopsK Fence.wide 4 Tryz.prog gf lb (fE P) Kp (fun ys=>ys=List.range N) Sp N w)
  (hKt: ∀ {A B C:World},Kp A B→Kp B C→Kp A C) (hKb: ∀(W:World) (l:Nat) (o o':Obj),w.heap.size≤l→W.heap[l]?=some o→o.isCells=false→o.isWalk=false→Kp W (W.putObj l o')) (hKn: ∀A B,Below w.heap.size A B→Kp A B):
  Calls Tryz.prog 115 #[.pointer q,.func (.func gf) #[] lb] w fun e w'=>e= .returned (.tuple #[.agg (arL 16 (hsF f s P N)).toArray,.agg (arL 16 (atF zF s N)).toArray])∧Below w.heap.size w w':=by
 have hz:=zero16x
 have HFB:=Lib.hid hf
 have HS0:=Lib.hid hs
 have HSL:=Lib.hid (show B16 s by rw [←hs];exact enR_lt hf zF_lt 10)
 have HPB:=Lib.hid hP
 have HT:=Lib.hid ht
 have HX:=Lib.hid hx
 have HKN:=Lib.hid hKn
 obtain⟨w1,hw1⟩:=Lv (w.alloc (.cells #[.pointer q] 30))
 have hs1:=Zs1 hw1
 have hT1:Boxed w1 w.heap.size 30 (.pointer q):=by rw [hw1];exact Boxed.new w _ _
 have hB1:=Bl hw1
 obtain⟨w2,hw2⟩:=Lv (w1.alloc (.cells (arL 16 fun _=>0).toArray 22))
 have hs2:=Zs2 hw2 hs1
 have hT2:Boxed w2 w.heap.size 30 (.pointer q):=by rw [hw2];exact hT1.alloc _
 have hS2:Ar w2 (w.heap.size+1) 16 (fun _=>0):=by rw [hw2,←hs1];exact Ar.new w1 16 _ _
 have hB2:=Bm hw2 hB1
 obtain⟨w3,hw3⟩:=Lv (w2.alloc (.cells (arL 16 fun _=>0).toArray 22))
 have hs3:=Zs3 hw3 hs2
 have hT3:Boxed w3 w.heap.size 30 (.pointer q):=by rw [hw3];exact hT2.alloc _
 have hS3:=ara hw3 hS2
 have hL3:Ar w3 (w.heap.size+2) 16 (fun _=>0):=by rw [hw3,←hs2];exact Ar.new w2 16 _ _
 have hB3:=Bm hw3 hB2
 clear hT1 hB1 hT2 hS2 hB2 hf hP hx hKn
 refine(callsIn_wide (n:=5)).1 ?_
 refine callsIn_of_wp_marks Tryz.func115 rfl trivial ?_ rfl
 simp only [Tryz.ntmps115,List.size_toArray,List.length_cons,List.length_nil,Nat.reduceAdd,Nat.reduceSub,Array.replicate_succ,Array.replicate_zero,List.push_toArray,List.append_toArray,List.nil_append,List.cons_append]
 refine wpIn_wide.2 ?_
 go_upto_region 1 with fail
 rw [←hw1,←hw2,←hw3]
 clear hw1 hw2 hw3
 try simp only [Nat.add_assoc,Nat.reduceAdd]
 obtain⟨gS,hgS⟩:=Le (w.heap.size+1)
 obtain⟨gL,hgL⟩:=Le (w.heap.size+2)
 rw [hgS]at hS3
 rw [hgL]at hL3
 try rw [hgL]
 try rw [hgS]
 have lS:w.heap.size<gS:=by omega
 have lL:gS<gL:=by omega
 have l3:gL<w3.heap.size:=by omega
 have l3':w.heap.size≤w3.heap.size:=by omega
 clear hs1 hs2 hs3 hgS hgL
 go_wp2_with fail
 refine(wpIn_wide (n:=5)).1 ?_
 refine wpIn_rangeFunc_ownH (F:=Fence.wide) (n:=5) rfl (by omega) (gf:=gf) (lb:=lb) rfl trivial eg hseq hKt (fun W l o o' h h1 h2 h3=>hKb W l o o' (Nat.le_trans l3' h) h1 h2 h3) hB3 (fun _=>rfl)
  (fun pre W=>Ar W gS 16 (foH f s P pre).1∧Ar W gL 16 (foH f s P pre).2∧Boxed W w.heap.size 30 (.pointer q)∧Below w.heap.size w W)
  (fun _ _ _=>False)
  (fun pre X Y row h hgr hr=>⟨ar_own (β:=Unit) gS 16 _ () X Y row h.1 hgr (fun r e=>(hr r e).2),ar_own (β:=Unit) gL 16 _ () X Y row h.2.1 hgr (fun r e=>(hr r e).2),boxed_own (β:=Unit) w.heap.size 30 (fun _=> .pointer q) () X Y row h.2.2.1 hgr (fun r e=>(hr r e).2),ownFrom_below (β:=Unit) (Nat.le_refl _) l3' () X Y row h.2.2.2 hgr hr⟩)
  (fun _ _ _ _ _ hs _ _=>hs)
  ⟨hS3,hL3,hT3,hB3⟩
  (fun x a' W=> ∃Bx,gL<Bx∧Ar W Bx 16 (P x)∧a'= { tmps:= #[.pointer q,.func (.func gf) #[] lb,.pointer (some ⟨w.heap.size,0,none⟩),undef,.pointer (some ⟨gS,0,none⟩),.pointer (some ⟨gL,0,none⟩),.int .i64 ((x+1:Nat):Int),.pointer (some ⟨Bx,0,none⟩),.func (.func gf) #[] lb,.int .i64 ((x+1:Nat):Int),.agg (arL 16 (P x)).toArray,undef,undef,undef,undef,undef,undef,undef,undef,undef,undef,undef,undef,undef,undef,undef],defers:= [] })
  (fun x a' _ X Y row h hg hr => by
   obtain⟨Bx,e1,e2,e3⟩:=h
   exact⟨Bx,e1,ar_own (β:=Unit) Bx 16 _ () X Y row e2 hg (fun r e=>(hr r e).2),e3⟩) ?assign ?body ?done ?stop
 case assign=>
  rintro l pre x W K ⟨hS,hL,hT,hB⟩ hK
  dsimp only [fE]
  have hlL:=hL.lt (by omega)
  obtain⟨W1,hW1⟩:=Lv (W.alloc (.cells (arL 16 fun _=>0).toArray 22))
  have hT1:Ar W1 W.heap.size 16 (fun _=>0):=by rw [hW1];exact Ar.new W 16 _ _
  have hb1:=Bl hW1
  gi_wp2_with (refine wpListIn_store_ar rfl _ _ _ rfl W.heap.size 16 _ (P x) rfl rfl (by rw [←hW1];exact hT1) (size16x _) ?_;intro W2 hT2 hb2 hs2 he2)
  rw [←hW1]at hb2
  have hb3:=hb1.trans hb2
  refine hK _ _ (keepsFrom_new _ hb3) (HKN.out _ _ (hb3.mono hB.size)) ⟨hS.to (by omega) hb3,hL.to (by omega) hb3,boxed_below hT hb3,hB.trans (hb3.mono hB.size)⟩ ⟨W.heap.size,hlL,hT2,rfl⟩
 case body=>
  rintro l pre x a' W hl ⟨r,hr⟩ ⟨hS,hL,hT,hB⟩ ⟨Bx,hBx,hE,rfl⟩ hlt
  have HFO:=Lib.hid (foH_snoc f s P pre x)
  have hub:=Lib.hid (foH_sum (P:=P) HFB.out HSL.out HPB.out pre)
  have hob:=Lib.hid (foH_off (f:=f) (P:=P) HSL.out pre)
  obtain⟨u,hu⟩: ∃u,(foH f s P pre).1=u:=⟨_,rfl⟩
  obtain⟨o,ho⟩: ∃o,(foH f s P pre).2=o:=⟨_,rfl⟩
  rw [hu]at HFO hub hS
  rw [ho]at HFO hob hL
  have hdb:=Lib.hid (nxH_lt HSL.out x)
  have hpb:=Lib.hid (HPB.out x)
  have hnx:=Lib.hid (fun V hb=>onext (.pointer q) f o ((x+1)%18446744073709551616) V HFB.out hob.out (Nat.mod_lt _ (by decide)) (HT.out.to hb))
  rw [HS0.out]at hnx
  have hnx2:Hid (∀V,Below w.heap.size w V→Calls Tryz.prog 80 #[.pointer q,.agg (arL 16 o).toArray,.int .u64 ((x+1)%18446744073709551616:Nat)] V fun e V'=>e= .returned (.agg (arL 16 (adF o (nxH s x))).toArray)∧Below V.heap.size V V'):=hnx
  clear hnx
  have hm:=wrap_u_any (x+1)
  obtain⟨y,hy⟩:=Le (x+1)
  rw [hy]at hnx2 hm⊢
  obtain⟨m,hmm⟩:=Le (y%18446744073709551616)
  rw [hmm]at hnx2 hm
  obtain⟨d,hd⟩: ∃d,nxH s x=d:=⟨_,rfl⟩
  rw [hd]at hnx2 hdb HFO
  have ho2b:=Lib.hid (adF_lt hob.out hdb.out)
  obtain⟨o2,ho2⟩: ∃o2,adF o d=o2:=⟨_,rfl⟩
  rw [ho2]at hnx2 ho2b HFO
  have hxb:=Lib.hid (adF_lt hpb.out ho2b.out)
  have heb:=Lib.hid (show B16 (enF f (adF (P x) o2))from enR_lt HFB.out hxb.out 10)
  obtain⟨p,_,hC,hcip⟩:=HT.out
  have HC:=Lib.hid hC
  have HCIP:=Lib.hid hcip
  have c0:=hT.cell
  clear hu ho hy hmm hd ho2 hC hcip hlt
  repeat (first|apply wpIn_block|(apply wpIn_seq_k;intro _ _))
  refine wpIn_region_plain (by kernel_rfl) ?_
  go_wp2_with (refine wpList_load_ar rfl _ _ rfl _ _ _ rfl hL Tryz.arr16x (size16x _) ?_)
  clear c0 hm
  refine(hnx2.out _ hB).mono ?_
  rintro e W2 ⟨rfl,hq⟩
  have hSa:=hS.t hq
  have hLa:=hL.t hq
  have hEa:=hE.t hq
  have hTa:=boxed_below hT hq
  go_wp2_with (refine wpList_store_arE rfl _ _ _ rfl _ _ _ o2 rfl rfl hLa (size16x _) ?_;intro Wv he3 hLv;have HE3:=Lib.hid he3;clear he3)
  have he3:=HE3.out
  have hbv:Below gL W2 Wv:=by rw [he3];exact below_setCells _ _ _ _
  have hSv:Ar Wv gS 16 u:=by rw [he3];exact hSa.apart (b:=gL) (by omega) _ 0
  have hEv:Ar Wv Bx 16 (P x):=by rw [he3];exact hEa.apart (b:=gL) (by omega) _ 0
  have hTv:=boxed_under2 hTa hbv (by omega)
  have hKv:KeepsFrom w3.heap.size W Wv:=by rw [he3];exact(keepsFrom_new _ hq).trans ((keepsOthers_setCells _ _ _ _).from _)
  have hQv:Below w.heap.size W Wv:=(hq.mono hB.size).trans (hbv.mono (by omega))
  have hBv:=hB.trans hQv
  clear hS hL hT hE hSa hLa hEa hTa hbv he3 HE3 hq hnx2 hob hdb
  try dsimp only [Act.put]
  refine onlyN_normal ?_
  gi_wp2_with fail
  have hSd:=hSv.drew
  refine wpIn_region_calm (S:=fun W'=>Ar W' gL 16 (o2)∧Ar W' Bx 16 (P x)∧Boxed W' w.heap.size 30 (.pointer q)∧KeepsFrom w3.heap.size W W'∧Below w.heap.size W W'∧Below w.heap.size w W') (by kernel_rfl) (by kernel_rfl) ⟨hLv.drew,hEv.drew,hTv,hKv.trans ((KeepsOthers.drew _).from _),hQv.drew,hBv.drew⟩ (fun hH'=> ?_)
  clear hSv hLv hEv hTv hKv hQv hBv
  generalize World.drew Wv=bd at*
  have hSbd:=hSd
  clear hSd
  refine tw 1 ?vb1 rfl ?hyb1 ?restb1
  case hyb1=>
   intro W hSw
   have c0:=(hSw.2.2.1).cell
   go_simp
   try with_reducible rfl
  simp only [Act.put,nrm]
  refine tk 3 (.agg (arL 16 (P x)).toArray) rfl (yieldsIf_load_mid (by rfl) _ _ rfl Bx (0) rfl (arL 16 (P x)) _ (fun W hSw=>hSw.2.1.range) Tryz.arr16x rfl (size16x _)) ?_
  simp only [Act.put,nrm]
  refine tk 4 (.agg (arL 16 (o2)).toArray) rfl (yieldsIf_load_mid (by rfl) _ _ rfl gL (0) rfl (arL 16 (o2)) _ (fun W hSw=>hSw.1.range) Tryz.arr16x rfl (size16x _)) ?_
  simp only [Act.put,nrm]
  refine rd2 0 2 rfl rfl (fun K hK=> ?_) (fun K hK=> ?_)
  ·rw [if_pos (by rfl)]
   refine wp_load_mid _ _ rfl gS 0 rfl (arL 16 (u)) _ hSbd.range Tryz.arr16x rfl (size16x _) ?_
   refine hK.out _ _ hH' ?_
   clear hK K hH'
   intro hH'
   try simp only [Act.put,nrm]
   refine rd 2 rfl (fun K hK=> ?_)
   go_simp
   refine(HCIP.out _ (hH'.2.2.2.2.2)).mono ?_
   rintro e b2 ⟨rfl,hq⟩
   go_wp2_with fail
   have hSb2:=hSbd.t hq
   refine hK.out _ _ ⟨hH'.1.t hq,hH'.2.1.t hq,boxed_below (hH'.2.2.1) hq,(hH'.2.2.2.1).trans (keepsFrom_new _ hq),(hH'.2.2.2.2.1).trans (hq.mono (hH'.2.2.2.2.2).size),Tq hH'.2.2.2.2.2 hq⟩ ?_
   clear hK K hH' hq hSbd
   intro hH'
   try simp only [Act.put,nrm]
   refine rd 5 rfl (fun K hK=> ?_)
   go_simp
   refine(bxor (P x) o2 _ hpb.out ho2b.out).mono ?_
   rintro e b3 ⟨rfl,hq⟩
   go_wp2_with fail
   have hSb3:=hSb2.t hq
   refine hK.out _ _ ⟨hH'.1.t hq,hH'.2.1.t hq,boxed_below (hH'.2.2.1) hq,(hH'.2.2.2.1).trans (keepsFrom_new _ hq),(hH'.2.2.2.2.1).trans (hq.mono (hH'.2.2.2.2.2).size),Tq hH'.2.2.2.2.2 hq⟩ ?_
   clear hK K hH' hq hSb2
   intro hH'
   try simp only [Act.put,nrm]
   refine rd 6 rfl (fun K hK=> ?_)
   go_simp
   refine(fencrypt (.pointer p) f (adF (P x) o2) _ HFB.out hxb.out (HC.out.to (hH'.2.2.2.2.2)) (HX.out.keep (hH'.2.2.2.2.2))).mono ?_
   rintro e b4 ⟨rfl,hq⟩
   go_wp2_with fail
   have hSb4:=hSb3.t hq
   refine hK.out _ _ ⟨hH'.1.t hq,hH'.2.1.t hq,boxed_below (hH'.2.2.1) hq,(hH'.2.2.2.1).trans (keepsFrom_new _ hq),(hH'.2.2.2.2.1).trans (hq.mono (hH'.2.2.2.2.2).size),Tq hH'.2.2.2.2.2 hq⟩ ?_
   clear hK K hH' hq hSb3
   intro hH'
   try simp only [Act.put,nrm]
   refine rd 7 rfl (fun K hK=> ?_)
   go_simp
   refine(bxor u (enF f (adF (P x) o2)) _ hub.out heb.out).mono ?_
   rintro e b5 ⟨rfl,hq⟩
   go_wp2_with fail
   have hSb5:=hSb4.t hq
   refine hK.out _ _ ⟨hH'.1.t hq,hH'.2.1.t hq,boxed_below (hH'.2.2.1) hq,(hH'.2.2.2.1).trans (keepsFrom_new _ hq),(hH'.2.2.2.2.1).trans (hq.mono (hH'.2.2.2.2.2).size),Tq hH'.2.2.2.2.2 hq⟩ ?_
   clear hK K hH' hq hSb4
   intro hH'
   try simp only [Act.put,nrm]
   refine rd 8 rfl (fun K hK=> ?_)
   rw [if_pos (by rfl)]
   refine wp_store_mid _ _ _ rfl gS 0 (arL 16 (adF u (enF f (adF (P x) o2)))).toArray rfl rfl hSb5.there (size16x _) (all_oneCell_toArray (arL_one 16 (adF u (enF f (adF (P x) o2))))) ?_
   have hSb6:=hSb5.whole (adF u (enF f (adF (P x) o2)))
   dsimp only [List.toList_toArray]
   refine hK.out _ _ ⟨(hH'.1).apart (b:=gS) (by omega) (arL 16 (adF u (enF f (adF (P x) o2)))) 0,(hH'.2.1).apart (b:=gS) (by omega) (arL 16 (adF u (enF f (adF (P x) o2)))) 0,boxed_under2 (hH'.2.2.1) (below_setCells _ gS (arL 16 (adF u (enF f (adF (P x) o2)))) 0) (by omega),(hH'.2.2.2.1).trans ((keepsOthers_setCells _ _ _ _).from _),(hH'.2.2.2.2.1).trans ((below_setCells _ gS (arL 16 (adF u (enF f (adF (P x) o2)))) 0).mono (by omega)),(hH'.2.2.2.2.2).trans (Below.setCells (Below.refl w.heap.size _) (b:=gS) (by omega) (arL 16 (adF u (enF f (adF (P x) o2)))) 0)⟩ ?_
   clear hK K hH' hSb5
   intro hH'
   generalize World.setCells b5 gS 0 (arL 16 (adF u (enF f (adF (P x) o2))))=b6 at*
   try simp only [Act.put]
   refine wpAnyH_done (by kernel_rfl) ?_ _
   have hS9:=hSb6
   obtain⟨hL9,_,hT9,hK9,hQ9,hB9⟩:=hH'
   clear hSb6
   refine onlyN_normal ?_
   gi_wp2_with fail
   exact⟨hK9,HKN.out _ _ hQ9,by rw [HFO.out];exact hS9,by rw [HFO.out];exact hL9,hT9,hB9⟩
  ·go_simp
   refine(HCIP.out _ (hH'.2.2.2.2.2)).mono ?_
   rintro e b7 ⟨rfl,hq⟩
   go_wp2_with fail
   have hSb7:=hSbd.t hq
   refine hK.out _ _ ⟨hH'.1.t hq,hH'.2.1.t hq,boxed_below (hH'.2.2.1) hq,(hH'.2.2.2.1).trans (keepsFrom_new _ hq),(hH'.2.2.2.2.1).trans (hq.mono (hH'.2.2.2.2.2).size),Tq hH'.2.2.2.2.2 hq⟩ ?_
   clear hK K hH' hq hSbd
   intro hH'
   try simp only [Act.put,nrm]
   refine rd2 0 5 rfl rfl (fun K hK=> ?_) (fun K hK=> ?_)
   ·rw [if_pos (by rfl)]
    refine wp_load_mid _ _ rfl gS 0 rfl (arL 16 (u)) _ hSb7.range Tryz.arr16x rfl (size16x _) ?_
    refine hK.out _ _ hH' ?_
    clear hK K hH'
    intro hH'
    try simp only [Act.put,nrm]
    refine rd 5 rfl (fun K hK=> ?_)
    go_simp
    refine(bxor (P x) o2 _ hpb.out ho2b.out).mono ?_
    rintro e b8 ⟨rfl,hq⟩
    go_wp2_with fail
    have hSb8:=hSb7.t hq
    refine hK.out _ _ ⟨hH'.1.t hq,hH'.2.1.t hq,boxed_below (hH'.2.2.1) hq,(hH'.2.2.2.1).trans (keepsFrom_new _ hq),(hH'.2.2.2.2.1).trans (hq.mono (hH'.2.2.2.2.2).size),Tq hH'.2.2.2.2.2 hq⟩ ?_
    clear hK K hH' hq hSb7
    intro hH'
    try simp only [Act.put,nrm]
    refine rd 6 rfl (fun K hK=> ?_)
    go_simp
    refine(fencrypt (.pointer p) f (adF (P x) o2) _ HFB.out hxb.out (HC.out.to (hH'.2.2.2.2.2)) (HX.out.keep (hH'.2.2.2.2.2))).mono ?_
    rintro e b9 ⟨rfl,hq⟩
    go_wp2_with fail
    have hSb9:=hSb8.t hq
    refine hK.out _ _ ⟨hH'.1.t hq,hH'.2.1.t hq,boxed_below (hH'.2.2.1) hq,(hH'.2.2.2.1).trans (keepsFrom_new _ hq),(hH'.2.2.2.2.1).trans (hq.mono (hH'.2.2.2.2.2).size),Tq hH'.2.2.2.2.2 hq⟩ ?_
    clear hK K hH' hq hSb8
    intro hH'
    try simp only [Act.put,nrm]
    refine rd 7 rfl (fun K hK=> ?_)
    go_simp
    refine(bxor u (enF f (adF (P x) o2)) _ hub.out heb.out).mono ?_
    rintro e b10 ⟨rfl,hq⟩
    go_wp2_with fail
    have hSb10:=hSb9.t hq
    refine hK.out _ _ ⟨hH'.1.t hq,hH'.2.1.t hq,boxed_below (hH'.2.2.1) hq,(hH'.2.2.2.1).trans (keepsFrom_new _ hq),(hH'.2.2.2.2.1).trans (hq.mono (hH'.2.2.2.2.2).size),Tq hH'.2.2.2.2.2 hq⟩ ?_
    clear hK K hH' hq hSb9
    intro hH'
    try simp only [Act.put,nrm]
    refine rd 8 rfl (fun K hK=> ?_)
    rw [if_pos (by rfl)]
    refine wp_store_mid _ _ _ rfl gS 0 (arL 16 (adF u (enF f (adF (P x) o2)))).toArray rfl rfl hSb10.there (size16x _) (all_oneCell_toArray (arL_one 16 (adF u (enF f (adF (P x) o2))))) ?_
    have hSb11:=hSb10.whole (adF u (enF f (adF (P x) o2)))
    dsimp only [List.toList_toArray]
    refine hK.out _ _ ⟨(hH'.1).apart (b:=gS) (by omega) (arL 16 (adF u (enF f (adF (P x) o2)))) 0,(hH'.2.1).apart (b:=gS) (by omega) (arL 16 (adF u (enF f (adF (P x) o2)))) 0,boxed_under2 (hH'.2.2.1) (below_setCells _ gS (arL 16 (adF u (enF f (adF (P x) o2)))) 0) (by omega),(hH'.2.2.2.1).trans ((keepsOthers_setCells _ _ _ _).from _),(hH'.2.2.2.2.1).trans ((below_setCells _ gS (arL 16 (adF u (enF f (adF (P x) o2)))) 0).mono (by omega)),(hH'.2.2.2.2.2).trans (Below.setCells (Below.refl w.heap.size _) (b:=gS) (by omega) (arL 16 (adF u (enF f (adF (P x) o2)))) 0)⟩ ?_
    clear hK K hH' hSb10
    intro hH'
    generalize World.setCells b10 gS 0 (arL 16 (adF u (enF f (adF (P x) o2))))=b11 at*
    try simp only [Act.put]
    refine wpAnyH_done (by kernel_rfl) ?_ _
    have hS9:=hSb11
    obtain⟨hL9,_,hT9,hK9,hQ9,hB9⟩:=hH'
    clear hSb11
    refine onlyN_normal ?_
    gi_wp2_with fail
    exact⟨hK9,HKN.out _ _ hQ9,by rw [HFO.out];exact hS9,by rw [HFO.out];exact hL9,hT9,hB9⟩
   ·go_simp
    refine(bxor (P x) o2 _ hpb.out ho2b.out).mono ?_
    rintro e b12 ⟨rfl,hq⟩
    go_wp2_with fail
    have hSb12:=hSb7.t hq
    refine hK.out _ _ ⟨hH'.1.t hq,hH'.2.1.t hq,boxed_below (hH'.2.2.1) hq,(hH'.2.2.2.1).trans (keepsFrom_new _ hq),(hH'.2.2.2.2.1).trans (hq.mono (hH'.2.2.2.2.2).size),Tq hH'.2.2.2.2.2 hq⟩ ?_
    clear hK K hH' hq hSb7
    intro hH'
    try simp only [Act.put,nrm]
    refine rd2 0 6 rfl rfl (fun K hK=> ?_) (fun K hK=> ?_)
    ·rw [if_pos (by rfl)]
     refine wp_load_mid _ _ rfl gS 0 rfl (arL 16 (u)) _ hSb12.range Tryz.arr16x rfl (size16x _) ?_
     refine hK.out _ _ hH' ?_
     clear hK K hH'
     intro hH'
     try simp only [Act.put,nrm]
     refine rd 6 rfl (fun K hK=> ?_)
     go_simp
     refine(fencrypt (.pointer p) f (adF (P x) o2) _ HFB.out hxb.out (HC.out.to (hH'.2.2.2.2.2)) (HX.out.keep (hH'.2.2.2.2.2))).mono ?_
     rintro e b13 ⟨rfl,hq⟩
     go_wp2_with fail
     have hSb13:=hSb12.t hq
     refine hK.out _ _ ⟨hH'.1.t hq,hH'.2.1.t hq,boxed_below (hH'.2.2.1) hq,(hH'.2.2.2.1).trans (keepsFrom_new _ hq),(hH'.2.2.2.2.1).trans (hq.mono (hH'.2.2.2.2.2).size),Tq hH'.2.2.2.2.2 hq⟩ ?_
     clear hK K hH' hq hSb12
     intro hH'
     try simp only [Act.put,nrm]
     refine rd 7 rfl (fun K hK=> ?_)
     go_simp
     refine(bxor u (enF f (adF (P x) o2)) _ hub.out heb.out).mono ?_
     rintro e b14 ⟨rfl,hq⟩
     go_wp2_with fail
     have hSb14:=hSb13.t hq
     refine hK.out _ _ ⟨hH'.1.t hq,hH'.2.1.t hq,boxed_below (hH'.2.2.1) hq,(hH'.2.2.2.1).trans (keepsFrom_new _ hq),(hH'.2.2.2.2.1).trans (hq.mono (hH'.2.2.2.2.2).size),Tq hH'.2.2.2.2.2 hq⟩ ?_
     clear hK K hH' hq hSb13
     intro hH'
     try simp only [Act.put,nrm]
     refine rd 8 rfl (fun K hK=> ?_)
     rw [if_pos (by rfl)]
     refine wp_store_mid _ _ _ rfl gS 0 (arL 16 (adF u (enF f (adF (P x) o2)))).toArray rfl rfl hSb14.there (size16x _) (all_oneCell_toArray (arL_one 16 (adF u (enF f (adF (P x) o2))))) ?_
     have hSb15:=hSb14.whole (adF u (enF f (adF (P x) o2)))
     dsimp only [List.toList_toArray]
     refine hK.out _ _ ⟨(hH'.1).apart (b:=gS) (by omega) (arL 16 (adF u (enF f (adF (P x) o2)))) 0,(hH'.2.1).apart (b:=gS) (by omega) (arL 16 (adF u (enF f (adF (P x) o2)))) 0,boxed_under2 (hH'.2.2.1) (below_setCells _ gS (arL 16 (adF u (enF f (adF (P x) o2)))) 0) (by omega),(hH'.2.2.2.1).trans ((keepsOthers_setCells _ _ _ _).from _),(hH'.2.2.2.2.1).trans ((below_setCells _ gS (arL 16 (adF u (enF f (adF (P x) o2)))) 0).mono (by omega)),(hH'.2.2.2.2.2).trans (Below.setCells (Below.refl w.heap.size _) (b:=gS) (by omega) (arL 16 (adF u (enF f (adF (P x) o2)))) 0)⟩ ?_
     clear hK K hH' hSb14
     intro hH'
     generalize World.setCells b14 gS 0 (arL 16 (adF u (enF f (adF (P x) o2))))=b15 at*
     try simp only [Act.put]
     refine wpAnyH_done (by kernel_rfl) ?_ _
     have hS9:=hSb15
     obtain⟨hL9,_,hT9,hK9,hQ9,hB9⟩:=hH'
     clear hSb15
     refine onlyN_normal ?_
     gi_wp2_with fail
     exact⟨hK9,HKN.out _ _ hQ9,by rw [HFO.out];exact hS9,by rw [HFO.out];exact hL9,hT9,hB9⟩
    ·go_simp
     refine(fencrypt (.pointer p) f (adF (P x) o2) _ HFB.out hxb.out (HC.out.to (hH'.2.2.2.2.2)) (HX.out.keep (hH'.2.2.2.2.2))).mono ?_
     rintro e b16 ⟨rfl,hq⟩
     go_wp2_with fail
     have hSb16:=hSb12.t hq
     refine hK.out _ _ ⟨hH'.1.t hq,hH'.2.1.t hq,boxed_below (hH'.2.2.1) hq,(hH'.2.2.2.1).trans (keepsFrom_new _ hq),(hH'.2.2.2.2.1).trans (hq.mono (hH'.2.2.2.2.2).size),Tq hH'.2.2.2.2.2 hq⟩ ?_
     clear hK K hH' hq hSb12
     intro hH'
     try simp only [Act.put,nrm]
     refine rd 0 rfl (fun K hK=> ?_)
     rw [if_pos (by rfl)]
     refine wp_load_mid _ _ rfl gS 0 rfl (arL 16 (u)) _ hSb16.range Tryz.arr16x rfl (size16x _) ?_
     refine hK.out _ _ hH' ?_
     clear hK K hH'
     intro hH'
     try simp only [Act.put,nrm]
     refine rd 7 rfl (fun K hK=> ?_)
     go_simp
     refine(bxor u (enF f (adF (P x) o2)) _ hub.out heb.out).mono ?_
     rintro e b17 ⟨rfl,hq⟩
     go_wp2_with fail
     have hSb17:=hSb16.t hq
     refine hK.out _ _ ⟨hH'.1.t hq,hH'.2.1.t hq,boxed_below (hH'.2.2.1) hq,(hH'.2.2.2.1).trans (keepsFrom_new _ hq),(hH'.2.2.2.2.1).trans (hq.mono (hH'.2.2.2.2.2).size),Tq hH'.2.2.2.2.2 hq⟩ ?_
     clear hK K hH' hq hSb16
     intro hH'
     try simp only [Act.put,nrm]
     refine rd 8 rfl (fun K hK=> ?_)
     rw [if_pos (by rfl)]
     refine wp_store_mid _ _ _ rfl gS 0 (arL 16 (adF u (enF f (adF (P x) o2)))).toArray rfl rfl hSb17.there (size16x _) (all_oneCell_toArray (arL_one 16 (adF u (enF f (adF (P x) o2))))) ?_
     have hSb18:=hSb17.whole (adF u (enF f (adF (P x) o2)))
     dsimp only [List.toList_toArray]
     refine hK.out _ _ ⟨(hH'.1).apart (b:=gS) (by omega) (arL 16 (adF u (enF f (adF (P x) o2)))) 0,(hH'.2.1).apart (b:=gS) (by omega) (arL 16 (adF u (enF f (adF (P x) o2)))) 0,boxed_under2 (hH'.2.2.1) (below_setCells _ gS (arL 16 (adF u (enF f (adF (P x) o2)))) 0) (by omega),(hH'.2.2.2.1).trans ((keepsOthers_setCells _ _ _ _).from _),(hH'.2.2.2.2.1).trans ((below_setCells _ gS (arL 16 (adF u (enF f (adF (P x) o2)))) 0).mono (by omega)),(hH'.2.2.2.2.2).trans (Below.setCells (Below.refl w.heap.size _) (b:=gS) (by omega) (arL 16 (adF u (enF f (adF (P x) o2)))) 0)⟩ ?_
     clear hK K hH' hSb17
     intro hH'
     generalize World.setCells b17 gS 0 (arL 16 (adF u (enF f (adF (P x) o2))))=b18 at*
     try simp only [Act.put]
     refine wpAnyH_done (by kernel_rfl) ?_ _
     have hS9:=hSb18
     obtain⟨hL9,_,hT9,hK9,hQ9,hB9⟩:=hH'
     clear hSb18
     refine onlyN_normal ?_
     gi_wp2_with fail
     exact⟨hK9,HKN.out _ _ hQ9,by rw [HFO.out];exact hS9,by rw [HFO.out];exact hL9,hT9,hB9⟩
 case done=>
  rintro D ys W hD rfl ⟨hS,hL,hT,hB⟩ hK
  rw [foH_range f s P N (by omega)]at hS hL
  dsimp only at hS hL
  go_upto_region 6 with fail
  refine wp_region_noPanic ?_
  refine wp_region_held_drew (S:=fun W=>Ar W gS 16 (hsF f s P N)∧Ar W gL 16 (atF zF s N)∧(World.heap W)[D]?=some (.deferred (some []))∧Below w.heap.size w W) (by kernel_rfl) ⟨hS.drew,hL.drew,hK,hB.drew⟩ (fun hH'=> ?_)
  clear hS hL hK hB hT
  generalize World.drew W=ed at*
  refine tk 0 (.agg (arL 16 (hsF f s P N)).toArray) rfl (yieldsIf_load_mid (by rfl) _ _ rfl gS (0) rfl (arL 16 (hsF f s P N)) _ (fun W hSw=>hSw.1.range) Tryz.arr16x rfl (size16x _)) ?_
  simp only [Act.put,nrm]
  refine tk 1 (.agg (arL 16 (atF zF s N)).toArray) rfl (yieldsIf_load_mid (by rfl) _ _ rfl gL (0) rfl (arL 16 (atF zF s N)) _ (fun W hSw=>hSw.2.1.range) Tryz.arr16x rfl (size16x _)) ?_
  simp only [Act.put,nrm]
  refine rd 2 rfl (fun K hK=> ?_)
  rw [if_pos (by rfl)]
  refine wp_store_mid _ _ _ rfl gS 0 (arL 16 (hsF f s P N)).toArray rfl rfl (hH'.1).there (size16x _) (all_oneCell_toArray (arL_one 16 (hsF f s P N))) ?_
  dsimp only [List.toList_toArray]
  refine hK.out _ _ ⟨(hH'.1).whole (hsF f s P N),(hH'.2.1).apart (b:=gS) (by omega) (arL 16 (hsF f s P N)) 0,(keepsOthers_setCells _ _ _ _).same D _ (hH'.2.2.1) rfl,(hH'.2.2.2).trans (Below.setCells (Below.refl w.heap.size _) (b:=gS) (by omega) (arL 16 (hsF f s P N)) 0)⟩ ?_
  clear hK K hH'
  intro hH'
  generalize World.setCells ed gS 0 (arL 16 (hsF f s P N))=e1 at*
  try simp only [Act.put]
  refine rd 3 rfl (fun K hK=> ?_)
  rw [if_pos (by rfl)]
  refine wp_store_mid _ _ _ rfl gL 0 (arL 16 (atF zF s N)).toArray rfl rfl (hH'.2.1).there (size16x _) (all_oneCell_toArray (arL_one 16 (atF zF s N))) ?_
  dsimp only [List.toList_toArray]
  refine hK.out _ _ ⟨(hH'.1).apart (b:=gL) (by omega) (arL 16 (atF zF s N)) 0,(hH'.2.1).whole (atF zF s N),(keepsOthers_setCells _ _ _ _).same D _ (hH'.2.2.1) rfl,(hH'.2.2.2).trans (Below.setCells (Below.refl w.heap.size _) (b:=gL) (by omega) (arL 16 (atF zF s N)) 0)⟩ ?_
  clear hK K hH'
  intro hH'
  generalize World.setCells e1 gL 0 (arL 16 (atF zF s N))=e2 at*
  try simp only [Act.put]
  refine wpAnyH_done (by kernel_rfl) ?_ _
  refine NoPanic.normal ?_
  obtain⟨hS9,hL9,hD9,hB9⟩:=hH'
  go_wp2_with fail
  refine⟨by simp,.inl ⟨_,_,rfl,run_takeDeferred hD9,?_⟩⟩
  have hg9:=grownBy_putObj' e2 D (.deferred none)
  have hr9: ∀r,some D=some r→ ∃o:Obj,e2.heap[r]?=some o∧o.isCells=false:=fun r e=>by cases e;exact⟨_,hD9,rfl⟩
  have hA5:=ar_own (β:=Unit) gS 16 _ () _ _ _ hS9 hg9 hr9
  have hA6:=ar_own (β:=Unit) gL 16 _ () _ _ _ hL9 hg9 hr9
  exact⟨_,results_ar2 rfl rfl rfl hA5 hA6 Tryz.arr16x (size16x _) (size16x _),rfl,hB9.trans (belowK_b (w:=w) (Nat.le_refl _) e2 D _ _ (Nat.le_trans l3' hD) hD9 rfl rfl)⟩
 case stop=>
  rintro D c pre W _ _ h _
  exact h.elim
end
section
open Go.RowKit
set_option linter.unusedVariables false
set_option maxRecDepth 100000
open Go.Shelf
def TabB (W:World) (g:Nat) (v:Value) (f:Nat→Nat):Prop:=g<W.heap.size∧ ∃W0:World,W0.heap.size≤g+1∧TabC W0 v f∧Below W0.heap.size W0 W
section
variable {W W':World} {g b:Nat} {v:Value} {f:Nat→Nat}
theorem TabB.lt (h:TabB W g v f):g<W.heap.size:=h.1
theorem TabB.to (h:TabB W g v f) (hb:Below W.heap.size W W'):TabB W' g v f:=by
 obtain⟨h1,W0,h2,h3,h4⟩:=h
 exact⟨Nat.lt_of_lt_of_le h1 hb.size,W0,h2,h3,h4.trans (hb.mono h4.size)⟩
theorem TabB.keep (h:TabB W g v f) (hl:g<b) (hb:Below b W W'):TabB W' g v f:=by
 obtain⟨h1,W0,h2,h3,h4⟩:=h
 exact⟨Nat.lt_of_lt_of_le h1 hb.size,W0,h2,h3,h4.trans (hb.mono (by omega))⟩
theorem TabB.drew (h:TabB W g v f):TabB W.drew g v f:=h.to (Below.refl _ _).drew
theorem TabB.apart (h:TabB W g v f) (hl:g<b) (vs:List Value) (o:Nat):TabB (W.setCells b o vs) g v f:=h.keep hl (below_setCells _ _ _ _)
theorem TabB.tab (h:TabB W g v f):TabC W v f:=by
 obtain⟨_,W0,_,h3,h4⟩:=h
 exact h3.to h4
theorem TabB.new (h:TabC W v f) (hp:0<W.heap.size):TabB W (W.heap.size-1) v f:=⟨by omega,W,by omega,h,Below.refl _ _⟩
end
def TabM (w:World) (q:Option Addr) (f:Nat→Nat):Prop:=
 ∀V,Below w.heap.size w V→Calls Tryz.prog 114 #[.pointer q] V fun e V'=> ∃q',e= .returned (.pointer q')∧TabC V' (.pointer q') f∧Below V.heap.size V V'
theorem TabM.to {w w':World} {q:Option Addr} {f:Nat→Nat} (h:TabM w q f) (hb:Below w.heap.size w w'):TabM w' q f:=fun V hV=>h V (hb.trans (hV.mono hb.size))
theorem tabm_made (a:Addr) (f:Nat→Nat) (w:World) (h:TabC w (.pointer (some a)) f):TabM w (some a) f:=fun V hV=>by
 have h2:=Lib.hid (h.to hV)
 clear h hV
 go_enter Tryz.func114,Tryz.ntmps114
 go_wp2_with fail
 go_ret
 exact⟨_,rfl,h2.out,Below.refl _ _⟩
set_option maxHeartbeats 1600000 in
theorem tabm_nil (w:World) (hx:Boxes w):TabM w none zF:=fun V hV=>by
 have z0:=zero16b
 have HX:=Lib.hid (hx.keep hV)
 clear hx hV
 go_enter Tryz.func114,Tryz.ntmps114
 go_wp2_with fail
 refine(tcip_nil V).mono ?_
 rintro e V1 ⟨rfl,h1⟩
 go_wp2_with fail
 refine(fkey_nil V1).mono ?_
 rintro e V2 ⟨rfl,h2⟩
 have h12:=h1.trans (h2.mono h1.size)
 go_wp2_with fail
 refine(fnew zF V2 zF_lt (HX.out.keep (h12))).mono ?_
 rintro e V3 ⟨gC,rfl,hgC,hC,h3⟩
 have h13:=h12.trans (h3.mono h12.size)
 go_wp2_with fail
 refine(tnew (some ⟨gC,0,none⟩) zF V3 zF_lt (exp_made gC zF V3 hC) (HX.out.keep h13)).mono ?_
 rintro e V4 ⟨gT,rfl,hgT,hT,h4⟩
 go_wp2_with fail
 go_ret
 exact⟨_,rfl,tabc_made gT _ zF V4 hT ((exp_made gC zF V3 hC).to h4),h13.trans (h4.mono h13.size)⟩
theorem haF_eq {f s:Nat→Nat} {l:List UInt8} {n N o:Nat} (hl:l.length=n) (hN:n/16=N) (ho:16*N=o):adF (hsF f s (pt l) N) (hrF f s (atF zF s N) (l.drop o))=haF f s l:=by
 subst hl;subst hN;subst ho;rfl
theorem hfacts {n N o:Nat} (hn:n≤1000000) (hN:n/16=N) (ho:16*N=o):((n:Int)).tdiv 16=(N:Int)∧(n:Int)/16=(N:Int)∧wrap64 ((N:Int)*16)=(o:Int)∧IntKind.i64.wrap ((N:Int)*16)=(o:Int)∧(N:Int)*16=(o:Int)∧IntKind.i64.wrap (o:Int)=(o:Int)∧IntKind.i64.wrap (N:Int)=(N:Int):=by
 refine⟨by rw [Int.tdiv_eq_ediv_of_nonneg (by omega)];omega,by omega,?_,?_,by omega,wraps_i64' _ (by omega) (by omega),wraps_i64' _ (by omega) (by omega)⟩
 ·rw [IntWalk.wrap64_in _ (by omega)];omega
 ·rw [wraps_i64' _ (by omega) (by omega)];omega
theorem hrF_no {f s o:Nat→Nat} {l:List UInt8} {n:Nat} (hl:l.length=n) (h:n=0∨16≤n):hrF f s o l=zF:=by
 unfold hrF;rw [if_pos (by omega)]
theorem hrF_yes {f s o:Nat→Nat} {l:List UInt8} {n:Nat} (hl:l.length=n) (h0:n≠0) (h:n<16):hrF f s o l=enF f (adF (lF (padL l 16)) (adF o s)):=by
 unfold hrF;rw [if_neg (by omega)]
set_option maxHeartbeats 4000000 in
theorem hrest (v:Value) (f o:Nat→Nat) (A:Option Addr) (n c:Nat) (l:List UInt8) (w:World) (hf:B16 f) (ho:B16 o) (hS:Sl w w.heap.size A n l) (ht:TabC w v f) (hx:Boxes w):
  Calls Tryz.prog 116 #[v,.agg (arL 16 o).toArray,.slice A n c] w fun e w'=>e= .returned (.agg (arL 16 (hrF f (enF f zF) o l)).toArray)∧Below w.heap.size w w':=by
 obtain⟨kK,hkK⟩:=Le ((arL 16 (o)).toArray)
 obtain⟨w1,hw1⟩:=Lv (w.alloc (.cells (arL 16 (o)).toArray 22))
 have hs1:=Zs1 hw1
 have hBw1:=Bl hw1
 have hKw1:Ar w1 w.heap.size 16 (o):=by rw [hw1];exact Ar.new w 16 _ _
 obtain⟨w2,hw2⟩:=Lv (w1.alloc (.cells (arL 16 (fun _=>0)).toArray 22))
 have hs2:=Zs2 hw2 hs1
 have hBw2:=Bm hw2 hBw1
 have hKw2:=hKw1.alloc (by omega) (.cells (arL 16 (fun _=>0)).toArray 22)
 rw [←hw2]at hKw2
 have hRw2:Ar w2 (w.heap.size+1) 16 (fun _=>0):=by rw [hw2,←hs1];exact Ar.new w1 16 _ _
 clear hKw1 hBw1
 have HKK:=Lib.hid hkK
 rw [hkK]at hw1
 rw [hkK]
 clear hkK
 have hz:=zero16b
 have z0:=Lib.hid run_zero16
 have hlen:=hS.len
 have HFB:=Lib.hid hf
 have HOB:=Lib.hid ho
 have HSL:=Lib.hid (show B16 (enF f zF)from enR_lt hf zF_lt 10)
 have HSS:=Lib.hid hS
 have HX:=Lib.hid hx
 obtain⟨p,hV,hC,hcip⟩:=ht
 have HV:=Lib.hid hV
 have HC:=Lib.hid hC
 have HCIP:=Lib.hid hcip
 obtain⟨s,hs0⟩:=Le (enF f zF)
 rw [hs0]at HSL HV
 rw [hs0]
 clear hf ho hS hx hV hC hcip hs0
 go_enter Tryz.func116,Tryz.ntmps116
 go_upto_region 1 with fail
 rw [←hw1,←hw2]
 clear hw1 hw2
 try simp only [Nat.add_assoc,Nat.reduceAdd]
 obtain⟨gR,hgR⟩:=Le (w.heap.size+1)
 rw [hgR]at hRw2
 try rw [hgR]
 have hlR:w.heap.size<gR:=by omega
 clear hs1 hs2 hgR
 by_cases h16:16≤n
 ·go_wp2_with fail
  refine(bpad_no A n c _ h16).mono ?_
  rintro e x1 ⟨rfl,hq⟩
  have hKx1:=hKw2.t hq
  have hRx1:=hRw2.t hq
  have hBx1:=Tq hBw2 hq
  clear hq hKw2 hRw2 hBw2
  obtain⟨gb,hgb⟩:=Le (x1.heap.size)
  have hlw_heap_sizegb:w.heap.size<gb:=by rw [←hgb];exact hKx1.lt (by omega)
  have hlgRgb:gR<gb:=by rw [←hgb];exact hRx1.lt (by omega)
  have hlwgb:w.heap.size≤gb:=by rw [←hgb];exact hBx1.size
  have hq:=Ba x1 (.cells (arL 16 fun _=>0).toArray 22)
  have hKx2a:=hKx1.t hq
  have hRx2a:=hRx1.t hq
  have hbx2a:=Ar.new x1 16 (fun _=>0) 22
  have hBx2a:=hBx1.alloc hBx1.size (.cells (arL 16 fun _=>0).toArray 22)
  rw [hgb]at hbx2a
  clear hq hKx1 hRx1 hBx1
  go_upto_region 2 with (first|(refine wpList_store_ar rfl _ _ _ rfl _ _ _ (fun _=>0) rfl rfl hbx2a (size16b _) ?_;intro x2 hbx2 belx2 sizx2 keex2)|fail)
  have hKx2:=(hKx2a).keep hlw_heap_sizegb belx2
  have hRx2:=(hRx2a).keep hlgRgb belx2
  have hBx2:=hBx2a.trans (belx2.mono hlwgb)
  clear hKx2a hRx2a hbx2a hBx2a belx2 sizx2 keex2 hgb
  try dsimp only [Act.put]
  go_wp2_with (first|(refine wpList_build_by rfl _ _ rfl [] rfl _ (z0.out _) ?_)|(refine wpList_store_ar rfl _ _ _ rfl _ _ _ (fun _=>0) rfl rfl hRx2 (size16b _) ?_;intro y8 hRy8 bel8 siz8 kee8))
  refine bodyPost_ret_ar rfl rfl hRy8 Tryz.arr16b (size16b _) rfl ⟨by rw [hrF_no hlen (.inr h16)];rfl,hBx2.trans (bel8.mono (by omega))⟩
 ·have hn16:n<16:=by omega
  obtain⟨P,hPd⟩:=Le (lF (padL l 16))
  have HPB:=Lib.hid (show B16 P by rw [←hPd];exact fun _ _=>lF_lt _ _)
  have hpd:=bpad A n c l w2 ((HSS.out.below hBw2).more hBw2.size) hn16
  rw [hPd]at hpd
  have HPD:=Lib.hid hPd
  have HPAD:=Lib.hid hpd
  clear hpd hPd
  go_wp2_with fail
  refine(HPAD.out).mono ?_
  rintro e x3 ⟨rfl,hq⟩
  have hKx3:=hKw2.t hq
  have hRx3:=hRw2.t hq
  have hBx3:=Tq hBw2 hq
  clear hq hKw2 hRw2 hBw2
  clear HPAD
  obtain⟨gb,hgb⟩:=Le (x3.heap.size)
  have hlw_heap_sizegb:w.heap.size<gb:=by rw [←hgb];exact hKx3.lt (by omega)
  have hlgRgb:gR<gb:=by rw [←hgb];exact hRx3.lt (by omega)
  have hlwgb:w.heap.size≤gb:=by rw [←hgb];exact hBx3.size
  have hq:=Ba x3 (.cells (arL 16 fun _=>0).toArray 22)
  have hKx4a:=hKx3.t hq
  have hRx4a:=hRx3.t hq
  have hbx4a:=Ar.new x3 16 (fun _=>0) 22
  have hBx4a:=hBx3.alloc hBx3.size (.cells (arL 16 fun _=>0).toArray 22)
  rw [hgb]at hbx4a
  clear hq hKx3 hRx3 hBx3
  go_upto_region 2 with (first|(refine wpList_store_ar rfl _ _ _ rfl _ _ _ (P) rfl rfl hbx4a (size16b _) ?_;intro x4 hbx4 belx4 sizx4 keex4)|fail)
  have hKx4:=(hKx4a).keep hlw_heap_sizegb belx4
  have hRx4:=(hRx4a).keep hlgRgb belx4
  have hBx4:=hBx4a.trans (belx4.mono hlwgb)
  clear hKx4a hRx4a hbx4a hBx4a belx4 sizx4 keex4 hgb
  try dsimp only [Act.put]
  by_cases hn0:n=0
  ·have hni:(n:Int)=0:=by omega
   go_wp2_with (first|(refine wpList_build_by rfl _ _ rfl [] rfl _ (z0.out _) ?_)|(refine wpList_store_ar rfl _ _ _ rfl _ _ _ (fun _=>0) rfl rfl hRx4 (size16b _) ?_;intro y8 hRy8 bel8 siz8 kee8))
   refine bodyPost_ret_ar rfl rfl hRy8 Tryz.arr16b (size16b _) rfl ⟨by rw [hrF_no hlen (.inl hn0)];rfl,hBx4.trans (bel8.mono (by omega))⟩
  ·have hni: ¬(n:Int)=0:=by omega
   go_upto_region 4 with fail
   refine wp_region_noPanic ?_
   have hRad:=hRx4.drew
   refine wp_region_held_drew (S:=fun W=>Ar W gb 16 (P)∧Ar W w.heap.size 16 (o)∧Below w.heap.size w W) (by kernel_rfl) ⟨hbx4.drew,hKx4.drew,hBx4.drew⟩ (fun hH'=> ?_)
   clear hbx4 hKx4 hBx4 hRx4
   generalize World.drew x4=ad at*
   refine tw 0 ?va1 rfl ?hya1 ?resta1
   case hya1=>
    intro W hSw
    go_simp
    try with_reducible rfl
   simp only [Act.put,nrm]
   refine tk 2 (.agg (arL 16 (P)).toArray) rfl (yieldsIf_load_mid (by rfl) _ _ rfl gb (0) rfl (arL 16 (P)) _ (fun W hSw=>hSw.1.range) Tryz.arr16b rfl (size16b _)) ?_
   simp only [Act.put,nrm]
   refine tk 3 (.agg (arL 16 (o)).toArray) rfl (yieldsIf_load_mid (by rfl) _ _ rfl w.heap.size (0) rfl (arL 16 (o)) _ (fun W hSw=>hSw.2.1.range) Tryz.arr16b rfl (size16b _)) ?_
   simp only [Act.put,nrm]
   refine tw 4 ?va2 rfl ?hya2 ?resta2
   case hya2=>
    intro W hSw
    go_simp
    try with_reducible rfl
   simp only [Act.put,nrm]
   refine rd 1 rfl (fun K hK=> ?_)
   go_simp
   refine(HCIP.out _ (hH'.2.2)).mono ?_
   rintro e a3 ⟨rfl,hq⟩
   go_wp2_with fail
   have hRa3:=hRad.t hq
   refine hK.out _ _ ⟨hH'.1.t hq,hH'.2.1.t hq,Tq hH'.2.2 hq⟩ ?_
   clear hK K hH' hq hRad
   intro hH'
   try simp only [Act.put,nrm]
   refine rd 5 rfl (fun K hK=> ?_)
   go_simp
   refine(tstar v p s _ (HV.out.to (hH'.2.2))).mono ?_
   rintro e a4 ⟨rfl,hq⟩
   go_wp2_with fail
   have hRa4:=hRa3.t hq
   refine hK.out _ _ ⟨hH'.1.t hq,hH'.2.1.t hq,Tq hH'.2.2 hq⟩ ?_
   clear hK K hH' hq hRa3
   intro hH'
   try simp only [Act.put,nrm]
   refine rd 6 rfl (fun K hK=> ?_)
   go_simp
   refine(bxor o s _ HOB.out HSL.out).mono ?_
   rintro e a5 ⟨rfl,hq⟩
   go_wp2_with fail
   have hRa5:=hRa4.t hq
   refine hK.out _ _ ⟨hH'.1.t hq,hH'.2.1.t hq,Tq hH'.2.2 hq⟩ ?_
   clear hK K hH' hq hRa4
   intro hH'
   try simp only [Act.put,nrm]
   refine rd 7 rfl (fun K hK=> ?_)
   go_simp
   refine(bxor P (adF o s) _ HPB.out (adF_lt HOB.out HSL.out)).mono ?_
   rintro e a6 ⟨rfl,hq⟩
   go_wp2_with fail
   have hRa6:=hRa5.t hq
   refine hK.out _ _ ⟨hH'.1.t hq,hH'.2.1.t hq,Tq hH'.2.2 hq⟩ ?_
   clear hK K hH' hq hRa5
   intro hH'
   try simp only [Act.put,nrm]
   refine rd 8 rfl (fun K hK=> ?_)
   go_simp
   refine(fencrypt (.pointer p) f (adF P (adF o s)) _ HFB.out (adF_lt HPB.out (adF_lt HOB.out HSL.out)) (HC.out.to (hH'.2.2)) (HX.out.keep (hH'.2.2))).mono ?_
   rintro e a7 ⟨rfl,hq⟩
   go_wp2_with fail
   have hRa7:=hRa6.t hq
   refine hK.out _ _ ⟨hH'.1.t hq,hH'.2.1.t hq,Tq hH'.2.2 hq⟩ ?_
   clear hK K hH' hq hRa6
   intro hH'
   try simp only [Act.put,nrm]
   refine rd 9 rfl (fun K hK=> ?_)
   rw [if_pos (by rfl)]
   refine wp_store_mid _ _ _ rfl gR 0 (arL 16 (enF f (adF P (adF o s)))).toArray rfl rfl hRa7.there (size16b _) (all_oneCell_toArray (arL_one 16 (enF f (adF P (adF o s))))) ?_
   have hRa8:=hRa7.whole (enF f (adF P (adF o s)))
   dsimp only [List.toList_toArray]
   refine hK.out _ _ ⟨(hH'.1).apart (b:=gR) (by omega) (arL 16 (enF f (adF P (adF o s)))) 0,(hH'.2.1).apart (b:=gR) (by omega) (arL 16 (enF f (adF P (adF o s)))) 0,(hH'.2.2).trans (Below.setCells (Below.refl w.heap.size _) (b:=gR) (by omega) (arL 16 (enF f (adF P (adF o s)))) 0)⟩ ?_
   clear hK K hH' hRa7
   intro hH'
   generalize World.setCells a7 gR 0 (arL 16 (enF f (adF P (adF o s))))=a8 at*
   try simp only [Act.put]
   refine wpAnyH_done (by kernel_rfl) ?_ _
   have hR9:=hRa8
   have hB9:=hH'.2.2
   clear hH' hRa8
   refine NoPanic.normal ?_
   go_wp2_with fail
   refine bodyPost_ret_ar rfl rfl hR9 Tryz.arr16b (size16b _) rfl ⟨by rw [hrF_yes hlen hn0 hn16,HPD.out],hB9⟩
set_option maxHeartbeats 4000000 in
theorem hsum (q:Option Addr) (f s:Nat→Nat) (A:Option Addr) (n c:Nat) (l:List UInt8) (w:World) (hf:B16 f) (hs:enF f zF=s) (hS:Sl w w.heap.size A n l) (hnc:n≤c) (hn:n≤1000000) (hm:TabM w q f) (hx:Boxes w):
  Calls Tryz.prog 85 #[.pointer q,.slice A n c] w fun e w'=>e= .returned (.agg (arL 16 (haF f s l)).toArray)∧Below w.heap.size w w':=by
 obtain⟨w1,hw1⟩:=Lv (w.alloc (.cells (arL 16 (fun _=>0)).toArray 22))
 have hs1:=Zs1 hw1
 have hBw1:=Bl hw1
 have hRw1:Ar w1 w.heap.size 16 (fun _=>0):=by rw [hw1];exact Ar.new w 16 _ _
 have hz:=zero16b
 have hlen:=hS.len
 have HLEN:=Lib.hid hlen
 have HFB:=Lib.hid hf
 have HS:=Lib.hid hS
 have HM:=Lib.hid hm
 have HX:=Lib.hid hx
 have HN:=Lib.hid hn
 have HS0:=Lib.hid hs
 have HSL:=Lib.hid (show B16 s by rw [←hs];exact enR_lt hf zF_lt 10)
 obtain⟨N,hN⟩:=Le (n/16)
 obtain⟨o,ho⟩:=Le (16*N)
 have HFA:=Lib.hid (hfacts hn hN ho)
 have HNN:=Lib.hid hN
 have HO:=Lib.hid ho
 obtain⟨A9,hsl,hsl3⟩:=slice_from A n c o (by omega) hnc
 have HSLI:=Lib.hid hsl
 have HSL2:=Lib.hid hsl3
 have HN6:=Lib.hid (show N≤1000000 by omega)
 clear hf hS hm hx hn hs hN ho hsl hsl3 hlen hnc
 go_enter Tryz.func85,Tryz.ntmps85
 go_upto_region 1 with fail
 rw [←hw1]
 clear hw1
 try simp only [Nat.add_assoc,Nat.reduceAdd]
 clear hs1
 go_wp2_with fail
 refine(HM.out _ hBw1).mono ?_
 rintro e x1 ⟨q1,rfl,hT0,hq⟩
 obtain⟨gM,hgM⟩: ∃g,x1.heap.size-1=g:=⟨_,rfl⟩
 have hMx1:TabB x1 gM (.pointer q1) f:=by rw [←hgM];exact TabB.new hT0 (Nat.lt_of_lt_of_le (Nat.zero_lt_of_lt (hRw1.lt (by omega))) hq.size)
 clear hT0 hgM
 have hRx1:=hRw1.t hq
 have hBx1:=Tq hBw1 hq
 clear hq hRw1 hBw1
 have HB1:=Lib.hid (ball A n c l x1 ((HS.out.below hBx1).more hBx1.size) HN.out)
 go_wp2_with fail
 refine(HB1.out).mono ?_
 rintro e x2 ⟨gA,Bs,rfl,la,lb,lc,hcB,hAl,hq⟩
 have HCB:=Lib.hid hcB
 have HAL:=Lib.hid hAl
 have HLC:=Lib.hid lc
 clear hcB hAl la lb lc HB1
 have hRx2:=hRx1.t hq
 have hMx2:=hMx1.to hq
 have hBx2:=Tq hBx1 hq
 clear hq hRx1 hMx1 hBx1
 go_wp2_with fail
 refine(htotal q1 f s (pt l) N 138 #[.pointer (some ⟨Bs,0,none⟩)] (KpP x2.heap.size Bs) (fun pre=> ∃k,k≤n/16∧pre=List.range k) x2 HFB.out HS0.out (fun k j _=>pt_lt _ _ _) HN6.out hMx2.tab (HX.out.keep hBx2) (enters_of Tryz.func138 (by kernel_rfl) rfl) (HNN.out▸parts_stops 4 (by omega) Bs x2.heap.size _ n n l HN.out (Nat.le_refl _) x2 (Nat.le_refl _) HLC.out HCB.out HAL.out) (fun h k=>h.trans k) (KpP.putObj (Nat.le_refl _) HLC.out) (fun _ _ h=>⟨h,h.block Bs HLC.out⟩)).mono ?_
 rintro e x3 ⟨rfl,hq⟩
 have hRx3:=hRx2.t hq
 have hMx3:=hMx2.to hq
 have hBx3:=Tq hBx2 hq
 clear hq hRx2 hMx2 hBx2
 clear HCB HAL HLC
 obtain⟨v1,hv1⟩:=Lv (x3.alloc (.cells (arL 16 fun _=>0).toArray 22))
 have hsv1:=Zs1 hv1
 have hq:=Bl hv1
 have hRv1:=hRx3.t hq
 have hMv1:=hMx3.to hq
 have hBv1:=Tq hBx3 hq
 have hUv1:Ar v1 x3.heap.size 16 (fun _=>0):=by rw [hv1];exact Ar.new x3 16 _ _
 have hlMU:gM<x3.heap.size:=hMx3.lt
 have hlRU:w.heap.size<x3.heap.size:=hRx3.lt (by omega)
 clear hq hRx3 hMx3 hBx3
 obtain⟨v2,hv2⟩:=Lv (v1.alloc (.cells (arL 16 fun _=>0).toArray 22))
 have hq:=Bl hv2
 have hRv2:=hRv1.t hq
 have hMv2:=hMv1.to hq
 have hUv2:=hUv1.t hq
 have hBv2:=Tq hBv1 hq
 have hOv2:Ar v2 (x3.heap.size+1) 16 (fun _=>0):=by rw [hv2,←hsv1];exact Ar.new v1 16 _ _
 clear hq hsv1 hRv1 hMv1 hUv1 hBv1
 go_upto_region 3 with (first|(refine wpList_store_ar rfl _ _ _ rfl _ _ _ (hsF f s (pt l) N) rfl rfl (by rw [←hv1,←hv2];exact hUv2) (size16b _) ?_;intro y8 hUy8 bel8 siz8 kee8)|(refine wpList_store_ar rfl _ _ _ rfl _ _ _ (atF zF s N) rfl rfl (kee8 _ _ _ (by omega) (by rw [←hv1,←hv2];exact hOv2)) (size16b _) ?_;intro y9 hOy9 bel9 siz9 kee9)|fail)
 rw [←hv1,←hv2]at bel8
 obtain⟨gU,hgU⟩:=Le (x3.heap.size)
 obtain⟨gO,hgO⟩:=Le (x3.heap.size+1)
 have hlUO:gU<gO:=by omega
 try rw [hgO]
 try rw [hgU]
 rw [hgU]at hUy8 bel8 hlMU hlRU
 rw [hgO]at hOy9 bel9
 have hUy9:=hUy8.keep hlUO bel9
 have hRy9:=(hRv2.keep hlRU bel8).keep (by omega) bel9
 have hMy9:=(hMv2.keep hlMU bel8).keep (by omega) bel9
 have hBy9:=(hBv2.trans (bel8.mono (by omega))).trans (bel9.mono (by omega))
 clear hUy8 bel8 bel9 hRv2 hMv2 hBv2 hUv2 hOv2 siz8 siz9 kee8 kee9 hv1 hv2 hgU hgO
 try dsimp only [Act.put]
 refine wp_region_noPanic ?_
 have hMd:=hMy9.drew
 have hRad:=hRy9.drew
 refine wp_region_held_drew (S:=fun W=>Ar W gU 16 (hsF f s (pt l) N)∧Ar W gO 16 (atF zF s N)∧Below w.heap.size w W) (by kernel_rfl) ⟨hUy9.drew,hOy9.drew,hBy9.drew⟩ (fun hH'=> ?_)
 clear hUy9 hOy9 hMy9 hBy9 hRy9
 generalize World.drew y9=ad at*
 refine tk 0 (.agg (arL 16 (hsF f s (pt l) N)).toArray) rfl (yieldsIf_load_mid (by rfl) _ _ rfl gU (0) rfl (arL 16 (hsF f s (pt l) N)) _ (fun W hSw=>hSw.1.range) Tryz.arr16b rfl (size16b _)) ?_
 simp only [Act.put,nrm]
 refine tw 1 ?va1 rfl ?hya1 ?resta1
 case hya1=>
  intro W hSw
  go_simp
  try with_reducible rfl
 simp only [Act.put,nrm]
 refine tk 2 (.agg (arL 16 (atF zF s N)).toArray) rfl (yieldsIf_load_mid (by rfl) _ _ rfl gO (0) rfl (arL 16 (atF zF s N)) _ (fun W hSw=>hSw.2.1.range) Tryz.arr16b rfl (size16b _)) ?_
 simp only [Act.put,nrm]
 refine tw 3 ?va2 rfl ?hya2 ?resta2
 case hya2=>
  intro W hSw
  go_simp
  try with_reducible rfl
 simp only [Act.put,nrm]
 refine tw 4 ?va3 rfl ?hya3 ?resta3
 case hya3=>
  intro W hSw
  go_simp
  try with_reducible rfl
 simp only [Act.put,nrm]
 refine tw 5 ?va4 rfl ?hya4 ?resta4
 case hya4=>
  intro W hSw
  go_simp
  try with_reducible rfl
 simp only [Act.put,nrm]
 refine tw 6 ?va5 rfl ?hya5 ?resta5
 case hya5=>
  intro W hSw
  obtain⟨j1,j2,j3,j4,j5,j6,j7⟩:=HFA.out
  go_simp
  try with_reducible rfl
 simp only [Act.put,nrm]
 refine tw 7 ?va6 rfl ?hya6 ?resta6
 case hya6=>
  intro W hSw
  obtain⟨j1,j2,j3,j4,j5,j6,j7⟩:=HFA.out
  go_simp
  try with_reducible rfl
 simp only [Act.put,nrm]
 refine tw 8 ?va7 rfl ?hya7 ?resta7
 case hya7=>
  intro W hSw
  have hslc:=HSLI.out
  go_simp
  try with_reducible rfl
 simp only [Act.put,nrm]
 refine rd 9 rfl (fun K hK=> ?_)
 go_simp
 refine(hrest (.pointer q1) f (atF zF s N) A9 (n-o) (c-o) (l.drop o) _ HFB.out (atF_lt zF_lt HSL.out N) (HSL2.out _ _ _ ((HS.out.below (hH'.2.2)).more (hH'.2.2).size)) hMd.tab (HX.out.keep (hH'.2.2))).mono ?_
 rintro e a8 ⟨rfl,hq⟩
 rw [HS0.out]
 go_wp2_with fail
 have hRa8:=hRad.t hq
 refine hK.out _ _ ⟨hH'.1.t hq,hH'.2.1.t hq,Tq hH'.2.2 hq⟩ ?_
 clear hK K hH' hq hRad
 intro hH'
 try simp only [Act.put,nrm]
 refine rd 10 rfl (fun K hK=> ?_)
 go_simp
 refine(bxor (hsF f s (pt l) N) (hrF f s (atF zF s N) (l.drop o)) _ (hsF_lt HFB.out HSL.out (fun k j _=>pt_lt _ _ _) N) (hrF_lt HFB.out HSL.out (atF_lt zF_lt HSL.out N) _)).mono ?_
 rintro e a9 ⟨rfl,hq⟩
 go_wp2_with fail
 have hRa9:=hRa8.t hq
 refine hK.out _ _ ⟨hH'.1.t hq,hH'.2.1.t hq,Tq hH'.2.2 hq⟩ ?_
 clear hK K hH' hq hRa8
 intro hH'
 try simp only [Act.put,nrm]
 refine rd 11 rfl (fun K hK=> ?_)
 rw [if_pos (by rfl)]
 refine wp_store_mid _ _ _ rfl w.heap.size 0 (arL 16 (adF (hsF f s (pt l) N) (hrF f s (atF zF s N) (l.drop o)))).toArray rfl rfl hRa9.there (size16b _) (all_oneCell_toArray (arL_one 16 (adF (hsF f s (pt l) N) (hrF f s (atF zF s N) (l.drop o))))) ?_
 have hRa10:=hRa9.whole (adF (hsF f s (pt l) N) (hrF f s (atF zF s N) (l.drop o)))
 dsimp only [List.toList_toArray]
 refine hK.out _ _ ⟨(hH'.1).apart (b:=w.heap.size) (by omega) (arL 16 (adF (hsF f s (pt l) N) (hrF f s (atF zF s N) (l.drop o)))) 0,(hH'.2.1).apart (b:=w.heap.size) (by omega) (arL 16 (adF (hsF f s (pt l) N) (hrF f s (atF zF s N) (l.drop o)))) 0,(hH'.2.2).trans (Below.setCells (Below.refl w.heap.size _) (b:=w.heap.size) (by omega) (arL 16 (adF (hsF f s (pt l) N) (hrF f s (atF zF s N) (l.drop o)))) 0)⟩ ?_
 clear hK K hH' hRa9
 intro hH'
 generalize World.setCells a9 w.heap.size 0 (arL 16 (adF (hsF f s (pt l) N) (hrF f s (atF zF s N) (l.drop o))))=a10 at*
 try simp only [Act.put]
 refine wpAnyH_done (by kernel_rfl) ?_ _
 have hR9:=hRa10
 have hB9:=hH'.2.2
 clear hH' hRa10
 refine NoPanic.normal ?_
 go_wp2_with fail
 refine bodyPost_ret_ar rfl rfl hR9 Tryz.arr16b (size16b _) rfl ⟨by rw [haF_eq HLEN.out HNN.out HO.out],hB9⟩
end
section
open Go.RowKit
set_option linter.unusedVariables false
set_option maxRecDepth 100000
set_option linter.unusedSimpArgs false
set_option maxHeartbeats 1600000 in
theorem refpart3 (g o n c i:Nat) (f:Nat→Nat) (w:World) (hi:16*i+16≤n) (hnc:n≤c) (hn6:n≤1000000) (hcell: ∀j,j<16→w.cell? ⟨g,o+16*i+j,none⟩=some (.int .u8 (f j:Nat))) (hg:g<w.heap.size):
  Calls Tryz.prog 91 #[.slice (some ⟨g,o,none⟩) n c,.int .i64 (i:Int)] w fun e w'=>e= .returned (.agg (arL 16 f).toArray)∧Below w.heap.size w w':=by
 have hz:=zero16x
 obtain⟨w2,hw2⟩:=Lv (w.alloc (.cells (arL 16 fun _=>0).toArray 22))
 have hb2:=Bl hw2
 have hR2:Ar w2 w.heap.size 16 (fun _=>0):=by rw [hw2];exact Ar.new w 16 _ _
 obtain⟨s,hs⟩:=Le (16*i)
 have hr:w2.rangeAt g (o+s) (arL 16 f):=fun j v hv=>by
  obtain⟨hj,rfl⟩:=arL_get_some hv
  rw [hw2,World.cell?_alloc_lt w _ ⟨g,o+s+j,none⟩ hg,←hs]
  exact hcell j hj
 have e1:wrap64 (16*(i:Int))=(s:Int):=by rw [IntWalk.wrap64_in _ (by omega)];omega
 have e2:IntKind.i64.wrap (16*(i:Int))=(s:Int):=by rw [wraps_i64' _ (by omega) (by omega)];omega
 have e3:16*(i:Int)=(s:Int):=by omega
 have e4:(s:Int)+16≤(c:Int):=by omega
 clear hs hcell
 go_enter Tryz.func91,Tryz.ntmps91
 go_upto_region 1 with fail
 rw [←hw2]
 clear hw2
 have hat:=arrayAt16
 have e5:s+16-s=16:=by omega
 go_wp2_with (first
  |(refine wpList_load_mid rfl _ _ rfl g (o+s) rfl (arL 16 f) _ hr Tryz.arr16x rfl (size16x _) ?_)
  |(refine wpList_store_ar rfl _ _ _ rfl _ _ _ f rfl rfl hR2 (size16x _) ?_;intro w8 hA8 hb8 _ _))
 refine bodyPost_ret_ar rfl rfl hA8 Tryz.arr16x (size16x _) rfl ⟨rfl,?_⟩
 exact hb2.trans (hb8.mono (by omega))
theorem pt_cell3 {w:World} {B n b o:Nat} {xs:List UInt8} (h:Sl w B (some ⟨b,o,none⟩) n xs) (k:Nat) (hk:16*k+16≤n) (j:Nat) (hj:j<16):w.cell? ⟨b,o+16*k+j,none⟩=some (.int .u8 (pt xs k j:Nat)):=by
 have:=pt_cells h k hk j _ (arL_get 16 _ j hj)
 rwa [Addr.add_mid]at this
theorem wp_region_via {P:Program} {c:Code} {Q:Exit→Act→World→Prop} {a:Act} {w:World} {T:Act} (F:World→Prop) (h1:Code.wp P c (fun e a w=>e= .normal∧a=T∧F w) a w) (h2: ∀w,F w→Q .normal T w):Code.wp P c Q a w:=
 Code.wp_mono (fun e a w h=>by obtain⟨rfl,rfl,h⟩:=h;exact h2 w h) h1
theorem wp_region_viaG {P:Program} {c:Code} {Q:Exit→Act→World→Prop} {a:Act} {w:World} {T:Nat→Act} (F:Nat→World→Prop) (h1:Code.wp P c (fun e a w=>e= .normal∧ ∃g,a=T g∧F g w) a w) (h2: ∀g w,F g w→Q .normal (T g) w):Code.wp P c Q a w:=
 Code.wp_mono (fun e a w h=>by obtain⟨rfl,g,rfl,h⟩:=h;exact h2 g w h) h1
theorem rfacts {k q:Nat} (h:k+1=q) (hk:k<1000000):(k:Int)+1=(q:Int)∧wrap64 ((k:Int)+1)=(q:Int)∧IntKind.i64.wrap ((k:Int)+1)=(q:Int)∧wrap64 (q:Int)=(q:Int)∧IntKind.u64.wrap (q:Int)=(q:Int)∧IntKind.i64.wrap (q:Int)=(q:Int):=by
 subst h
 refine⟨by omega,?_,?_,IntWalk.wrap64_in _ (by omega),wraps_u64' _ (by omega) (by omega),wraps_i64' _ (by omega) (by omega)⟩
 ·rw [IntWalk.wrap64_in _ (by omega)];omega
 ·rw [wraps_i64' _ (by omega) (by omega)];omega
theorem rfacts2 {n N o:Nat} (hn:n≤1000000) (hN:n/16=N) (ho:16*N=o):wrap64 (16*(N:Int))=(o:Int)∧IntKind.i64.wrap (16*(N:Int))=(o:Int)∧16*(N:Int)=(o:Int)∧IntKind.i64.wrap (o:Int)=(o:Int):=by
 refine⟨?_,?_,by omega,wraps_i64' _ (by omega) (by omega)⟩
 ·rw [IntWalk.wrap64_in _ (by omega)];omega
 ·rw [wraps_i64' _ (by omega) (by omega)];omega
theorem haF_none {f s:Nat→Nat} {l:List UInt8} {n N r:Nat} (hl:l.length=n) (hN:n/16=N) (hr:n%16=r) (h:r=0):hsF f s (pt l) N=haF f s l:=by
 subst hl;subst hN
 unfold haF
 rw [hrF_no rfl (.inl (by rw [List.length_drop];omega)),ad_zero]
theorem haF_some {f s P u a:Nat→Nat} {l:List UInt8} {n N r o:Nat} (hl:l.length=n) (hN:n/16=N) (hr:n%16=r) (h:r≠0) (ho:16*N=o) (hP:lF (padL (l.drop o) 16)=P) (hu:hsF f s (pt l) N=u) (ha:atF zF s N=a):adF u (enF f (adF P (adF a s)))=haF f s l:=by
 subst hl;subst hN;subst ho;subst hP;subst hu;subst ha
 unfold haF
 rw [hrF_yes rfl (by rw [List.length_drop];omega) (by rw [List.length_drop];omega)]
theorem rfacts3 {n r:Nat} (hr:n%16=r):((n:Int)).tmod 16=(r:Int)∧(n:Int)%16=(r:Int):=by
 refine⟨?_,by omega⟩
 rw [Int.tmod_eq_emod_of_nonneg (by omega)];omega
set_option maxHeartbeats 4000000 in
theorem rsum (f s:Nat→Nat) (A:Option Addr) (n c:Nat) (l:List UInt8) (w:World) (hf:B16 f) (hs:enF f zF=s) (hS:Sl w w.heap.size A n l) (hnc:n≤c) (hn:n≤1000000):
  Calls Tryz.prog 97 #[.agg (arL 432 (pkF (ek f) sb)).toArray,.slice A n c] w fun e w'=>e= .returned (.agg (arL 16 (haF f s l)).toArray)∧Below w.heap.size w w':=by
 obtain⟨dK,hfs,hrow⟩:=Tryz.structK
 have HS:=Lib.hid hfs
 have HW:=Lib.hid hrow
 clear hfs hrow
 obtain⟨kE,hkE⟩:=Le ((arL 432 (pkF (ek f) sb)).toArray)
 obtain⟨w1,hw1⟩:=Lv (w.alloc (.cells (arL 432 (pkF (ek f) sb)).toArray 48))
 have hs1:=Zs1 hw1
 have hBw1:=Bl hw1
 have hEw1:Ar w1 w.heap.size 432 (pkF (ek f) sb):=by rw [hw1];exact Ar.new w 432 _ _
 obtain⟨w2,hw2⟩:=Lv (w1.alloc (.cells (arL 16 (fun _=>0)).toArray 22))
 have hs2:=Zs2 hw2 hs1
 have hBw2:=Bm hw2 hBw1
 have hEw2:=hEw1.alloc (by omega) (.cells (arL 16 (fun _=>0)).toArray 22)
 rw [←hw2]at hEw2
 have hRw2:Ar w2 (w.heap.size+1) 16 (fun _=>0):=by rw [hw2,←hs1];exact Ar.new w1 16 _ _
 clear hEw1 hBw1
 have HKE:=Lib.hid hkE
 rw [hkE]at hw1
 rw [hkE]
 clear hkE
 have hz:=zero16b
 have hlen:=hS.len
 have HLEN:=Lib.hid hlen
 have HFB:=Lib.hid hf
 have HSS:=Lib.hid hS
 have HSL:=Lib.hid (show B16 s by rw [←hs];exact enR_lt hf zF_lt 10)
 have hst:=Lib.hid (fun V=>refstar f V hf zF_lt)
 rw [hs]at hst
 obtain⟨N,hN⟩:=Le (n/16)
 obtain⟨o,ho⟩:=Le (16*N)
 obtain⟨r,hr⟩:=Le (n%16)
 have HFA:=Lib.hid (hfacts hn hN ho)
 have HFB2:=Lib.hid (rfacts2 hn hN ho)
 have HFR:=Lib.hid (rfacts3 hr)
 have HRR:=Lib.hid hr
 have HNN:=Lib.hid hN
 have HO:=Lib.hid ho
 obtain⟨A9,hsl,hsl3⟩:=slice_from A n c o (by omega) hnc
 have HSLI:=Lib.hid hsl
 have HSL2:=Lib.hid hsl3
 have HN6:=Lib.hid (show N≤1000000 by omega)
 have HN:=Lib.hid hn
 have HNC:=Lib.hid hnc
 have HPB:=Lib.hid (fun k (j:Nat) (_:j<16)=>pt_lt l k j)
 clear hf hS hn hs hN ho hr hsl hsl3 hlen hnc
 go_enter Tryz.func97,Tryz.ntmps97
 go_upto_region 1 with fail
 rw [←hw1,←hw2]
 clear hw1 hw2
 try simp only [Nat.add_assoc,Nat.reduceAdd]
 obtain⟨gR,hgR⟩:=Le (w.heap.size+1)
 rw [hgR]at hRw2
 try rw [hgR]
 have hlR:w.heap.size<gR:=by omega
 clear hs1 hs2 hgR
 go_wp2_with (refine wpList_load_mid rfl _ _ rfl w.heap.size 0 rfl (arL 432 (pkF (ek f) sb)) _ hEw2.range HS.out HW.out (sizeK _) ?_)
 refine(hst.out _).mono ?_
 rintro e x1 ⟨rfl,hq⟩
 have hEx1:=hEw2.t hq
 have hRx1:=hRw2.t hq
 have hBx1:=Tq hBw2 hq
 clear hq hEw2 hRw2 hBw2
 obtain⟨gs,hgs⟩:=Le (x1.heap.size)
 have hlw_heap_sizegs:w.heap.size<gs:=by rw [←hgs];exact hEx1.lt (by omega)
 have hlgRgs:gR<gs:=by rw [←hgs];exact hRx1.lt (by omega)
 have hlwgs:w.heap.size≤gs:=by rw [←hgs];exact hBx1.size
 have hq:=Ba x1 (.cells (arL 16 fun _=>0).toArray 22)
 have hEx2a:=hEx1.t hq
 have hRx2a:=hRx1.t hq
 have hsx2a:=Ar.new x1 16 (fun _=>0) 22
 have hBx2a:=hBx1.alloc hBx1.size (.cells (arL 16 fun _=>0).toArray 22)
 rw [hgs]at hsx2a
 clear hq hEx1 hRx1 hBx1
 go_upto_region 2 with (first|(refine wpList_store_ar rfl _ _ _ rfl _ _ _ (s) rfl rfl hsx2a (size16b _) ?_;intro x2 hsx2 belx2 sizx2 keex2)|fail)
 have hEx2:=(hEx2a).keep hlw_heap_sizegs belx2
 have hRx2:=(hRx2a).keep hlgRgs belx2
 have hBx2:=hBx2a.trans (belx2.mono hlwgs)
 clear hEx2a hRx2a hsx2a hBx2a belx2 sizx2 keex2 hgs
 try dsimp only [Act.put]
 obtain⟨x3,hx3⟩:=Lv (x2.alloc (.cells (arL 16 fun _=>0).toArray 22))
 have hq:=Bl hx3
 have hEx3:=hEx2.t hq
 have hRx3:=hRx2.t hq
 have hsx3:=hsx2.t hq
 have hBx3:=Tq hBx2 hq
 have hUx3:Ar x3 x2.heap.size 16 (fun _=>0):=by rw [hx3];exact Ar.new x2 16 _ _
 have hlgsgU:gs<x2.heap.size:=hsx2.lt (by omega)
 clear hq hEx2 hRx2 hsx2 hBx2
 go_upto_region 3 with fail
 rw [←hx3]
 clear hx3
 obtain⟨gU,hgU⟩:=Le (x2.heap.size)
 try rw [hgU]
 rw [hgU]at hUx3 hlgsgU
 clear hgU
 obtain⟨x4,hx4⟩:=Lv (x3.alloc (.cells (arL 16 fun _=>0).toArray 22))
 have hq:=Bl hx4
 have hEx4:=hEx3.t hq
 have hRx4:=hRx3.t hq
 have hsx4:=hsx3.t hq
 have hUx4:=hUx3.t hq
 have hBx4:=Tq hBx3 hq
 have hOx4:Ar x4 x3.heap.size 16 (fun _=>0):=by rw [hx4];exact Ar.new x3 16 _ _
 have hlgUgO:gU<x3.heap.size:=hUx3.lt (by omega)
 clear hq hEx3 hRx3 hsx3 hUx3 hBx3
 go_upto_region 4 with fail
 rw [←hx4]
 clear hx4
 obtain⟨gO,hgO⟩:=Le (x3.heap.size)
 try rw [hgO]
 rw [hgO]at hOx4 hlgUgO
 clear hgO
 obtain⟨j1,j2,_⟩:=HFA.out
 have hN6:=HN6.out
 go_wp2_with fail
 clear j1 j2
 have hO0:=(hOx4.ext (f':=atF zF s 0) (fun j _=>by rw [atF_zero];rfl))
 clear hOx4
 have hOx4:=hO0
 clear hO0
 go_loopw [9] (fun i wr=> ∃(k:Nat),k≤N∧i= .int .i64 k∧Ar wr w.heap.size 432 (pkF (ek f) sb)∧Ar wr gR 16 (fun _=>0)∧Ar wr gs 16 (s)∧Ar wr gU 16 (hsF f s (pt l) k)∧Ar wr gO 16 (atF zF s k)∧Below w.heap.size w wr) (fun i _=>N-(intOf i).toNat)
 case atStart=>exact⟨0,Nat.zero_le _,rfl,hEx4,hRx4,hsx4,hUx4,hOx4,hBx4⟩
 case round=>
  clear hEx4 hRx4 hsx4 hUx4 hOx4 hBx4
  obtain⟨k,hk,rfl,hE0,hR0,hs0,hU0,hO0,hB0⟩:=hrel
  have hEwr:=hE0
  have hRwr:=hR0
  have hswr:=hs0
  have hUwr:=hU0
  have hOwr:=hO0
  have hBwr:=hB0
  clear hE0 hR0 hs0 hU0 hO0 hB0
  by_cases hlt:k<N
  ·have i1:(k:Int)<(N:Int):=by omega
   have HK6:=Lib.hid (show 16*k+16≤n by have:=HNN.out;omega)
   obtain⟨b,ob,hA1,hbl⟩:=sl_some HSS.out (Nat.lt_of_lt_of_le (Nat.succ_pos _) HK6.out)
   subst hA1
   obtain⟨q,hq0⟩:=Le (k+1)
   have HQF:=Lib.hid (rfacts hq0 (by omega))
   have hub:=Lib.hid (hsF_lt HFB.out HSL.out HPB.out k)
   have hob:=Lib.hid (atF_lt zF_lt HSL.out k)
   have HST:=Lib.hid (atF_step zF s k)
   have hfor:=Lib.hid (fun V=>reffor s (k+1) V HSL.out (by omega))
   have HUE:=Lib.hid (show adF (hsF f s (pt l) k) (enF f (adF (pt l k) (atF zF s (k+1))))=hsF f s (pt l) (k+1)from rfl)
   obtain⟨uk,huk⟩: ∃u,hsF f s (pt l) k=u:=⟨_,rfl⟩
   obtain⟨ok,hok⟩: ∃u,atF zF s k=u:=⟨_,rfl⟩
   rw [huk]at hub HUE
   rw [hok]at hob HST
   rw [hq0]at HST hfor HUE
   have hdb:=Lib.hid (dk_lt HSL.out (zer q+2))
   obtain⟨d,hd⟩: ∃d,dk s (zer q+2)=d:=⟨_,rfl⟩
   rw [hd]at HST hfor hdb
   have ho1b:=Lib.hid (adF_lt hob.out hdb.out)
   obtain⟨o1,ho1⟩: ∃o1,atF zF s q=o1:=⟨_,rfl⟩
   rw [HST.out,ho1]at ho1b
   rw [ho1]at HST HUE
   have hpb:=Lib.hid (HPB.out k)
   obtain⟨P,hP⟩: ∃P,pt l k=P:=⟨_,rfl⟩
   have HPC:=Lib.hid (fun V hb=>pt_cell3 ((HSS.out.below (w':=V) hb)) k HK6.out)
   rw [hP]at hpb HUE HPC
   have hxb:=Lib.hid (adF_lt hpb.out ho1b.out)
   have heb:=Lib.hid (show B16 (enF f (adF P o1))from enR_lt HFB.out hxb.out 10)
   have HQ0:=Lib.hid hq0
   have HO1:=Lib.hid ho1
   rw [huk]at hUwr
   rw [hok]at hOwr
   clear huk hok hd hP hq0 ho1 hN6
   go_upto_region 8 with fail
   apply wp_region_via (F:=fun W=>Ar W w.heap.size 432 (pkF (ek f) sb)∧Ar W gR 16 (fun _=>0)∧Ar W gs 16 (s)∧Ar W gU 16 (uk)∧Ar W gO 16 (o1)∧Below w.heap.size w W)
   case h1=>
    refine wp_region_noPanic ?_
    have hOad:=hOwr.drew
    refine wp_region_held_drew (S:=fun W=>Ar W w.heap.size 432 (pkF (ek f) sb)∧Ar W gR 16 (fun _=>0)∧Ar W gs 16 (s)∧Ar W gU 16 (uk)∧Below w.heap.size w W) (by kernel_rfl) ⟨hEwr.drew,hRwr.drew,hswr.drew,hUwr.drew,hBwr.drew⟩ (fun hH'=> ?_)
    generalize World.drew wr=ad at*
    refine tk 1 (.agg (arL 16 (s)).toArray) rfl (yieldsIf_load_mid (by rfl) _ _ rfl gs (0) rfl (arL 16 (s)) _ (fun W hSw=>hSw.2.2.1.range) Tryz.arr16b rfl (size16b _)) ?_
    simp only [Act.put,nrm]
    refine tw 2 ?va1 rfl ?hya1 ?resta1
    case hya1=>
     intro W hSw
     go_simp
     try with_reducible rfl
    simp only [Act.put,nrm]
    refine tw 3 ?va2 rfl ?hya2 ?resta2
    case hya2=>
     intro W hSw
     obtain⟨j1,j2,j3,j4,j5,j6⟩:=HQF.out
     go_simp
     try with_reducible rfl
    simp only [Act.put,nrm]
    refine tw 4 ?va3 rfl ?hya3 ?resta3
    case hya3=>
     intro W hSw
     obtain⟨j1,j2,j3,j4,j5,j6⟩:=HQF.out
     go_simp
     try with_reducible rfl
    simp only [Act.put,nrm]
    refine rd2 0 5 rfl rfl (fun K hK=> ?_) (fun K hK=> ?_)
    ·rw [if_pos (by rfl)]
     refine wp_load_mid _ _ rfl gO 0 rfl (arL 16 (ok)) _ hOad.range Tryz.arr16b rfl (size16b _) ?_
     refine hK.out _ _ hH' ?_
     clear hK K hH'
     intro hH'
     try simp only [Act.put,nrm]
     refine rd 5 rfl (fun K hK=> ?_)
     go_simp
     refine(hfor.out _).mono ?_
     rintro e a4 ⟨rfl,hq⟩
     go_wp2_with fail
     have hOa4:=hOad.t hq
     refine hK.out _ _ ⟨hH'.1.t hq,hH'.2.1.t hq,hH'.2.2.1.t hq,hH'.2.2.2.1.t hq,Tq hH'.2.2.2.2 hq⟩ ?_
     clear hK K hH' hq hOad
     intro hH'
     try simp only [Act.put,nrm]
     refine rd 6 rfl (fun K hK=> ?_)
     go_simp
     refine(refxor8 ok d _ hob.out hdb.out).mono ?_
     rintro e a5 ⟨rfl,hq⟩
     rw [HST.out]
     go_wp2_with fail
     have hOa5:=hOa4.t hq
     refine hK.out _ _ ⟨hH'.1.t hq,hH'.2.1.t hq,hH'.2.2.1.t hq,hH'.2.2.2.1.t hq,Tq hH'.2.2.2.2 hq⟩ ?_
     clear hK K hH' hq hOa4
     intro hH'
     try simp only [Act.put,nrm]
     refine rd 7 rfl (fun K hK=> ?_)
     rw [if_pos (by rfl)]
     refine wp_store_mid _ _ _ rfl gO 0 (arL 16 (o1)).toArray rfl rfl hOa5.there (size16b _) (all_oneCell_toArray (arL_one 16 (o1))) ?_
     have hOa6:=hOa5.whole (o1)
     dsimp only [List.toList_toArray]
     refine hK.out _ _ ⟨(hH'.1).apart (b:=gO) (by omega) (arL 16 (o1)) 0,(hH'.2.1).apart (b:=gO) (by omega) (arL 16 (o1)) 0,(hH'.2.2.1).apart (b:=gO) (by omega) (arL 16 (o1)) 0,(hH'.2.2.2.1).apart (b:=gO) (by omega) (arL 16 (o1)) 0,(hH'.2.2.2.2).trans (Below.setCells (Below.refl w.heap.size _) (b:=gO) (by omega) (arL 16 (o1)) 0)⟩ ?_
     clear hK K hH' hOa5
     intro hH'
     generalize World.setCells a5 gO 0 (arL 16 (o1))=a6 at*
     try simp only [Act.put]
     refine wpAnyH_done (by kernel_rfl) ?_ _
     refine NoPanic.normal ?_
     exact⟨rfl,rfl,hH'.1,hH'.2.1,hH'.2.2.1,hH'.2.2.2.1,hOa6,hH'.2.2.2.2⟩
    ·go_simp
     refine(hfor.out _).mono ?_
     rintro e a7 ⟨rfl,hq⟩
     go_wp2_with fail
     have hOa7:=hOad.t hq
     refine hK.out _ _ ⟨hH'.1.t hq,hH'.2.1.t hq,hH'.2.2.1.t hq,hH'.2.2.2.1.t hq,Tq hH'.2.2.2.2 hq⟩ ?_
     clear hK K hH' hq hOad
     intro hH'
     try simp only [Act.put,nrm]
     refine rd 0 rfl (fun K hK=> ?_)
     rw [if_pos (by rfl)]
     refine wp_load_mid _ _ rfl gO 0 rfl (arL 16 (ok)) _ hOa7.range Tryz.arr16b rfl (size16b _) ?_
     refine hK.out _ _ hH' ?_
     clear hK K hH'
     intro hH'
     try simp only [Act.put,nrm]
     refine rd 6 rfl (fun K hK=> ?_)
     go_simp
     refine(refxor8 ok d _ hob.out hdb.out).mono ?_
     rintro e a8 ⟨rfl,hq⟩
     rw [HST.out]
     go_wp2_with fail
     have hOa8:=hOa7.t hq
     refine hK.out _ _ ⟨hH'.1.t hq,hH'.2.1.t hq,hH'.2.2.1.t hq,hH'.2.2.2.1.t hq,Tq hH'.2.2.2.2 hq⟩ ?_
     clear hK K hH' hq hOa7
     intro hH'
     try simp only [Act.put,nrm]
     refine rd 7 rfl (fun K hK=> ?_)
     rw [if_pos (by rfl)]
     refine wp_store_mid _ _ _ rfl gO 0 (arL 16 (o1)).toArray rfl rfl hOa8.there (size16b _) (all_oneCell_toArray (arL_one 16 (o1))) ?_
     have hOa9:=hOa8.whole (o1)
     dsimp only [List.toList_toArray]
     refine hK.out _ _ ⟨(hH'.1).apart (b:=gO) (by omega) (arL 16 (o1)) 0,(hH'.2.1).apart (b:=gO) (by omega) (arL 16 (o1)) 0,(hH'.2.2.1).apart (b:=gO) (by omega) (arL 16 (o1)) 0,(hH'.2.2.2.1).apart (b:=gO) (by omega) (arL 16 (o1)) 0,(hH'.2.2.2.2).trans (Below.setCells (Below.refl w.heap.size _) (b:=gO) (by omega) (arL 16 (o1)) 0)⟩ ?_
     clear hK K hH' hOa8
     intro hH'
     generalize World.setCells a8 gO 0 (arL 16 (o1))=a9 at*
     try simp only [Act.put]
     refine wpAnyH_done (by kernel_rfl) ?_ _
     refine NoPanic.normal ?_
     exact⟨rfl,rfl,hH'.1,hH'.2.1,hH'.2.2.1,hH'.2.2.2.1,hOa9,hH'.2.2.2.2⟩
   rintro x5 ⟨hEx5,hRx5,hsx5,hUx5,hOx5,hBx5⟩
   clear hEwr hRwr hswr hUwr hOwr hBwr
   go_upto_region 9 with fail
   apply wp_region_via (F:=fun W=>Ar W w.heap.size 432 (pkF (ek f) sb)∧Ar W gR 16 (fun _=>0)∧Ar W gs 16 (s)∧Ar W gO 16 (o1)∧Ar W gU 16 (adF uk (enF f (adF P o1)))∧Below w.heap.size w W)
   case h1=>
    refine wp_region_noPanic ?_
    have hUbd:=hUx5.drew
    refine wp_region_held_drew (S:=fun W=>Ar W w.heap.size 432 (pkF (ek f) sb)∧Ar W gR 16 (fun _=>0)∧Ar W gs 16 (s)∧Ar W gO 16 (o1)∧Below w.heap.size w W) (by kernel_rfl) ⟨hEx5.drew,hRx5.drew,hsx5.drew,hOx5.drew,hBx5.drew⟩ (fun hH'=> ?_)
    generalize World.drew x5=bd at*
    refine tk 1 (.agg (arL 432 (pkF (ek f) sb)).toArray) rfl (yieldsIf_load_mid (by rfl) _ _ rfl w.heap.size (0) rfl (arL 432 (pkF (ek f) sb)) _ (fun W hSw=>hSw.1.range) HS.out HW.out (sizeK _)) ?_
    simp only [Act.put,nrm]
    refine tw 2 ?vb1 rfl ?hyb1 ?restb1
    case hyb1=>
     intro W hSw
     go_simp
     try with_reducible rfl
    simp only [Act.put,nrm]
    refine tw 3 ?vb2 rfl ?hyb2 ?restb2
    case hyb2=>
     intro W hSw
     go_simp
     try with_reducible rfl
    simp only [Act.put,nrm]
    refine tk 5 (.agg (arL 16 (o1)).toArray) rfl (yieldsIf_load_mid (by rfl) _ _ rfl gO (0) rfl (arL 16 (o1)) _ (fun W hSw=>hSw.2.2.2.1.range) Tryz.arr16b rfl (size16b _)) ?_
    simp only [Act.put,nrm]
    refine rd2 0 4 rfl rfl (fun K hK=> ?_) (fun K hK=> ?_)
    ·rw [if_pos (by rfl)]
     refine wp_load_mid _ _ rfl gU 0 rfl (arL 16 (uk)) _ hUbd.range Tryz.arr16b rfl (size16b _) ?_
     refine hK.out _ _ hH' ?_
     clear hK K hH'
     intro hH'
     try simp only [Act.put,nrm]
     refine rd 4 rfl (fun K hK=> ?_)
     go_simp
     refine(refpart3 b ob n c k P _ HK6.out HNC.out HN.out (HPC.out _ (hH'.2.2.2.2)) (Nat.lt_of_lt_of_le hbl (hH'.2.2.2.2).size)).mono ?_
     rintro e b3 ⟨rfl,hq⟩
     go_wp2_with fail
     have hUb3:=hUbd.t hq
     refine hK.out _ _ ⟨hH'.1.t hq,hH'.2.1.t hq,hH'.2.2.1.t hq,hH'.2.2.2.1.t hq,Tq hH'.2.2.2.2 hq⟩ ?_
     clear hK K hH' hq hUbd
     intro hH'
     try simp only [Act.put,nrm]
     refine rd 6 rfl (fun K hK=> ?_)
     go_simp
     refine(refxor8 P o1 _ hpb.out ho1b.out).mono ?_
     rintro e b4 ⟨rfl,hq⟩
     go_wp2_with fail
     have hUb4:=hUb3.t hq
     refine hK.out _ _ ⟨hH'.1.t hq,hH'.2.1.t hq,hH'.2.2.1.t hq,hH'.2.2.2.1.t hq,Tq hH'.2.2.2.2 hq⟩ ?_
     clear hK K hH' hq hUb3
     intro hH'
     try simp only [Act.put,nrm]
     refine rd 7 rfl (fun K hK=> ?_)
     go_simp
     refine(refencrypt f (adF P o1) _ HFB.out hxb.out).mono ?_
     rintro e b5 ⟨rfl,hq⟩
     go_wp2_with fail
     have hUb5:=hUb4.t hq
     refine hK.out _ _ ⟨hH'.1.t hq,hH'.2.1.t hq,hH'.2.2.1.t hq,hH'.2.2.2.1.t hq,Tq hH'.2.2.2.2 hq⟩ ?_
     clear hK K hH' hq hUb4
     intro hH'
     try simp only [Act.put,nrm]
     refine rd 8 rfl (fun K hK=> ?_)
     go_simp
     refine(refxor8 uk (enF f (adF P o1)) _ hub.out heb.out).mono ?_
     rintro e b6 ⟨rfl,hq⟩
     go_wp2_with fail
     have hUb6:=hUb5.t hq
     refine hK.out _ _ ⟨hH'.1.t hq,hH'.2.1.t hq,hH'.2.2.1.t hq,hH'.2.2.2.1.t hq,Tq hH'.2.2.2.2 hq⟩ ?_
     clear hK K hH' hq hUb5
     intro hH'
     try simp only [Act.put,nrm]
     refine rd 9 rfl (fun K hK=> ?_)
     rw [if_pos (by rfl)]
     refine wp_store_mid _ _ _ rfl gU 0 (arL 16 (adF uk (enF f (adF P o1)))).toArray rfl rfl hUb6.there (size16b _) (all_oneCell_toArray (arL_one 16 (adF uk (enF f (adF P o1))))) ?_
     have hUb7:=hUb6.whole (adF uk (enF f (adF P o1)))
     dsimp only [List.toList_toArray]
     refine hK.out _ _ ⟨(hH'.1).apart (b:=gU) (by omega) (arL 16 (adF uk (enF f (adF P o1)))) 0,(hH'.2.1).apart (b:=gU) (by omega) (arL 16 (adF uk (enF f (adF P o1)))) 0,(hH'.2.2.1).apart (b:=gU) (by omega) (arL 16 (adF uk (enF f (adF P o1)))) 0,(hH'.2.2.2.1).apart (b:=gU) (by omega) (arL 16 (adF uk (enF f (adF P o1)))) 0,(hH'.2.2.2.2).trans (Below.setCells (Below.refl w.heap.size _) (b:=gU) (by omega) (arL 16 (adF uk (enF f (adF P o1)))) 0)⟩ ?_
     clear hK K hH' hUb6
     intro hH'
     generalize World.setCells b6 gU 0 (arL 16 (adF uk (enF f (adF P o1))))=b7 at*
     try simp only [Act.put]
     refine wpAnyH_done (by kernel_rfl) ?_ _
     refine NoPanic.normal ?_
     exact⟨rfl,rfl,hH'.1,hH'.2.1,hH'.2.2.1,hH'.2.2.2.1,hUb7,hH'.2.2.2.2⟩
    ·go_simp
     refine(refpart3 b ob n c k P _ HK6.out HNC.out HN.out (HPC.out _ (hH'.2.2.2.2)) (Nat.lt_of_lt_of_le hbl (hH'.2.2.2.2).size)).mono ?_
     rintro e b8 ⟨rfl,hq⟩
     go_wp2_with fail
     have hUb8:=hUbd.t hq
     refine hK.out _ _ ⟨hH'.1.t hq,hH'.2.1.t hq,hH'.2.2.1.t hq,hH'.2.2.2.1.t hq,Tq hH'.2.2.2.2 hq⟩ ?_
     clear hK K hH' hq hUbd
     intro hH'
     try simp only [Act.put,nrm]
     refine rd2 0 6 rfl rfl (fun K hK=> ?_) (fun K hK=> ?_)
     ·rw [if_pos (by rfl)]
      refine wp_load_mid _ _ rfl gU 0 rfl (arL 16 (uk)) _ hUb8.range Tryz.arr16b rfl (size16b _) ?_
      refine hK.out _ _ hH' ?_
      clear hK K hH'
      intro hH'
      try simp only [Act.put,nrm]
      refine rd 6 rfl (fun K hK=> ?_)
      go_simp
      refine(refxor8 P o1 _ hpb.out ho1b.out).mono ?_
      rintro e b9 ⟨rfl,hq⟩
      go_wp2_with fail
      have hUb9:=hUb8.t hq
      refine hK.out _ _ ⟨hH'.1.t hq,hH'.2.1.t hq,hH'.2.2.1.t hq,hH'.2.2.2.1.t hq,Tq hH'.2.2.2.2 hq⟩ ?_
      clear hK K hH' hq hUb8
      intro hH'
      try simp only [Act.put,nrm]
      refine rd 7 rfl (fun K hK=> ?_)
      go_simp
      refine(refencrypt f (adF P o1) _ HFB.out hxb.out).mono ?_
      rintro e b10 ⟨rfl,hq⟩
      go_wp2_with fail
      have hUb10:=hUb9.t hq
      refine hK.out _ _ ⟨hH'.1.t hq,hH'.2.1.t hq,hH'.2.2.1.t hq,hH'.2.2.2.1.t hq,Tq hH'.2.2.2.2 hq⟩ ?_
      clear hK K hH' hq hUb9
      intro hH'
      try simp only [Act.put,nrm]
      refine rd 8 rfl (fun K hK=> ?_)
      go_simp
      refine(refxor8 uk (enF f (adF P o1)) _ hub.out heb.out).mono ?_
      rintro e b11 ⟨rfl,hq⟩
      go_wp2_with fail
      have hUb11:=hUb10.t hq
      refine hK.out _ _ ⟨hH'.1.t hq,hH'.2.1.t hq,hH'.2.2.1.t hq,hH'.2.2.2.1.t hq,Tq hH'.2.2.2.2 hq⟩ ?_
      clear hK K hH' hq hUb10
      intro hH'
      try simp only [Act.put,nrm]
      refine rd 9 rfl (fun K hK=> ?_)
      rw [if_pos (by rfl)]
      refine wp_store_mid _ _ _ rfl gU 0 (arL 16 (adF uk (enF f (adF P o1)))).toArray rfl rfl hUb11.there (size16b _) (all_oneCell_toArray (arL_one 16 (adF uk (enF f (adF P o1))))) ?_
      have hUb12:=hUb11.whole (adF uk (enF f (adF P o1)))
      dsimp only [List.toList_toArray]
      refine hK.out _ _ ⟨(hH'.1).apart (b:=gU) (by omega) (arL 16 (adF uk (enF f (adF P o1)))) 0,(hH'.2.1).apart (b:=gU) (by omega) (arL 16 (adF uk (enF f (adF P o1)))) 0,(hH'.2.2.1).apart (b:=gU) (by omega) (arL 16 (adF uk (enF f (adF P o1)))) 0,(hH'.2.2.2.1).apart (b:=gU) (by omega) (arL 16 (adF uk (enF f (adF P o1)))) 0,(hH'.2.2.2.2).trans (Below.setCells (Below.refl w.heap.size _) (b:=gU) (by omega) (arL 16 (adF uk (enF f (adF P o1)))) 0)⟩ ?_
      clear hK K hH' hUb11
      intro hH'
      generalize World.setCells b11 gU 0 (arL 16 (adF uk (enF f (adF P o1))))=b12 at*
      try simp only [Act.put]
      refine wpAnyH_done (by kernel_rfl) ?_ _
      refine NoPanic.normal ?_
      exact⟨rfl,rfl,hH'.1,hH'.2.1,hH'.2.2.1,hH'.2.2.2.1,hUb12,hH'.2.2.2.2⟩
     ·go_simp
      refine(refxor8 P o1 _ hpb.out ho1b.out).mono ?_
      rintro e b13 ⟨rfl,hq⟩
      go_wp2_with fail
      have hUb13:=hUb8.t hq
      refine hK.out _ _ ⟨hH'.1.t hq,hH'.2.1.t hq,hH'.2.2.1.t hq,hH'.2.2.2.1.t hq,Tq hH'.2.2.2.2 hq⟩ ?_
      clear hK K hH' hq hUb8
      intro hH'
      try simp only [Act.put,nrm]
      refine rd2 0 7 rfl rfl (fun K hK=> ?_) (fun K hK=> ?_)
      ·rw [if_pos (by rfl)]
       refine wp_load_mid _ _ rfl gU 0 rfl (arL 16 (uk)) _ hUb13.range Tryz.arr16b rfl (size16b _) ?_
       refine hK.out _ _ hH' ?_
       clear hK K hH'
       intro hH'
       try simp only [Act.put,nrm]
       refine rd 7 rfl (fun K hK=> ?_)
       go_simp
       refine(refencrypt f (adF P o1) _ HFB.out hxb.out).mono ?_
       rintro e b14 ⟨rfl,hq⟩
       go_wp2_with fail
       have hUb14:=hUb13.t hq
       refine hK.out _ _ ⟨hH'.1.t hq,hH'.2.1.t hq,hH'.2.2.1.t hq,hH'.2.2.2.1.t hq,Tq hH'.2.2.2.2 hq⟩ ?_
       clear hK K hH' hq hUb13
       intro hH'
       try simp only [Act.put,nrm]
       refine rd 8 rfl (fun K hK=> ?_)
       go_simp
       refine(refxor8 uk (enF f (adF P o1)) _ hub.out heb.out).mono ?_
       rintro e b15 ⟨rfl,hq⟩
       go_wp2_with fail
       have hUb15:=hUb14.t hq
       refine hK.out _ _ ⟨hH'.1.t hq,hH'.2.1.t hq,hH'.2.2.1.t hq,hH'.2.2.2.1.t hq,Tq hH'.2.2.2.2 hq⟩ ?_
       clear hK K hH' hq hUb14
       intro hH'
       try simp only [Act.put,nrm]
       refine rd 9 rfl (fun K hK=> ?_)
       rw [if_pos (by rfl)]
       refine wp_store_mid _ _ _ rfl gU 0 (arL 16 (adF uk (enF f (adF P o1)))).toArray rfl rfl hUb15.there (size16b _) (all_oneCell_toArray (arL_one 16 (adF uk (enF f (adF P o1))))) ?_
       have hUb16:=hUb15.whole (adF uk (enF f (adF P o1)))
       dsimp only [List.toList_toArray]
       refine hK.out _ _ ⟨(hH'.1).apart (b:=gU) (by omega) (arL 16 (adF uk (enF f (adF P o1)))) 0,(hH'.2.1).apart (b:=gU) (by omega) (arL 16 (adF uk (enF f (adF P o1)))) 0,(hH'.2.2.1).apart (b:=gU) (by omega) (arL 16 (adF uk (enF f (adF P o1)))) 0,(hH'.2.2.2.1).apart (b:=gU) (by omega) (arL 16 (adF uk (enF f (adF P o1)))) 0,(hH'.2.2.2.2).trans (Below.setCells (Below.refl w.heap.size _) (b:=gU) (by omega) (arL 16 (adF uk (enF f (adF P o1)))) 0)⟩ ?_
       clear hK K hH' hUb15
       intro hH'
       generalize World.setCells b15 gU 0 (arL 16 (adF uk (enF f (adF P o1))))=b16 at*
       try simp only [Act.put]
       refine wpAnyH_done (by kernel_rfl) ?_ _
       refine NoPanic.normal ?_
       exact⟨rfl,rfl,hH'.1,hH'.2.1,hH'.2.2.1,hH'.2.2.2.1,hUb16,hH'.2.2.2.2⟩
      ·go_simp
       refine(refencrypt f (adF P o1) _ HFB.out hxb.out).mono ?_
       rintro e b17 ⟨rfl,hq⟩
       go_wp2_with fail
       have hUb17:=hUb13.t hq
       refine hK.out _ _ ⟨hH'.1.t hq,hH'.2.1.t hq,hH'.2.2.1.t hq,hH'.2.2.2.1.t hq,Tq hH'.2.2.2.2 hq⟩ ?_
       clear hK K hH' hq hUb13
       intro hH'
       try simp only [Act.put,nrm]
       refine rd 0 rfl (fun K hK=> ?_)
       rw [if_pos (by rfl)]
       refine wp_load_mid _ _ rfl gU 0 rfl (arL 16 (uk)) _ hUb17.range Tryz.arr16b rfl (size16b _) ?_
       refine hK.out _ _ hH' ?_
       clear hK K hH'
       intro hH'
       try simp only [Act.put,nrm]
       refine rd 8 rfl (fun K hK=> ?_)
       go_simp
       refine(refxor8 uk (enF f (adF P o1)) _ hub.out heb.out).mono ?_
       rintro e b18 ⟨rfl,hq⟩
       go_wp2_with fail
       have hUb18:=hUb17.t hq
       refine hK.out _ _ ⟨hH'.1.t hq,hH'.2.1.t hq,hH'.2.2.1.t hq,hH'.2.2.2.1.t hq,Tq hH'.2.2.2.2 hq⟩ ?_
       clear hK K hH' hq hUb17
       intro hH'
       try simp only [Act.put,nrm]
       refine rd 9 rfl (fun K hK=> ?_)
       rw [if_pos (by rfl)]
       refine wp_store_mid _ _ _ rfl gU 0 (arL 16 (adF uk (enF f (adF P o1)))).toArray rfl rfl hUb18.there (size16b _) (all_oneCell_toArray (arL_one 16 (adF uk (enF f (adF P o1))))) ?_
       have hUb19:=hUb18.whole (adF uk (enF f (adF P o1)))
       dsimp only [List.toList_toArray]
       refine hK.out _ _ ⟨(hH'.1).apart (b:=gU) (by omega) (arL 16 (adF uk (enF f (adF P o1)))) 0,(hH'.2.1).apart (b:=gU) (by omega) (arL 16 (adF uk (enF f (adF P o1)))) 0,(hH'.2.2.1).apart (b:=gU) (by omega) (arL 16 (adF uk (enF f (adF P o1)))) 0,(hH'.2.2.2.1).apart (b:=gU) (by omega) (arL 16 (adF uk (enF f (adF P o1)))) 0,(hH'.2.2.2.2).trans (Below.setCells (Below.refl w.heap.size _) (b:=gU) (by omega) (arL 16 (adF uk (enF f (adF P o1)))) 0)⟩ ?_
       clear hK K hH' hUb18
       intro hH'
       generalize World.setCells b18 gU 0 (arL 16 (adF uk (enF f (adF P o1))))=b19 at*
       try simp only [Act.put]
       refine wpAnyH_done (by kernel_rfl) ?_ _
       refine NoPanic.normal ?_
       exact⟨rfl,rfl,hH'.1,hH'.2.1,hH'.2.2.1,hH'.2.2.2.1,hUb19,hH'.2.2.2.2⟩
   rintro x6 ⟨hEx6,hRx6,hsx6,hOx6,hUx6,hBx6⟩
   clear hEx5 hRx5 hsx5 hOx5 hUx5 hBx5
   have hN6:=HN6.out
   go_wp2_with fail
   go_roundw
   case rel=>exact⟨k+1,by omega,by go_num,hEx6,hRx6,hsx6,by rw [HQ0.out,←HUE.out];exact hUx6,by rw [HQ0.out,HO1.out];exact hOx6,hBx6⟩
   case measure=>simp [intOf];omega
  ·have e:k=N:=by omega
   rw [e]at hUwr hOwr
   have i1: ¬(k:Int)<(N:Int):=by omega
   clear e
   have hr16:r<16:=by have:=HRR.out;omega
   by_cases hr0:r=0
   ·have j1:(n:Int).tmod 16=0:=by rw [HFR.out.1,hr0];rfl
    have j2:(n:Int)%16=0:=by rw [HFR.out.2,hr0];rfl
    go_wp2_with (first|(refine wpList_load_ar rfl _ _ rfl _ _ _ rfl hUwr Tryz.arr16b (size16b _) ?_)|(refine wpList_store_ar rfl _ _ _ rfl _ _ _ (hsF f s (pt l) N) rfl rfl hRwr (size16b _) ?_;intro y8 hRy8 bel8 siz8 kee8))
    refine bodyPost_ret_ar rfl rfl hRy8 Tryz.arr16b (size16b _) rfl ⟨by rw [haF_none HLEN.out HNN.out HRR.out hr0],hBwr.trans (bel8.mono (by omega))⟩
   ·obtain⟨j1,j2⟩:=HFR.out
    have j3:(0:Int)<(r:Int):=by omega
    have hno:n-o<16:=by have:=HNN.out;have:=HO.out;omega
    have HPAD:=Lib.hid (fun V (hb:Below w.heap.size w V)=>refpad A9 (n-o) (c-o) (l.drop o) V (HSL2.out V V.heap.size l ((HSS.out.below hb).more hb.size)) hno)
    have hub:=Lib.hid (hsF_lt HFB.out HSL.out HPB.out N)
    have hob:=Lib.hid (atF_lt zF_lt HSL.out N)
    obtain⟨P,hP⟩:=Le (lF (padL (l.drop o) 16))
    have hpb:=Lib.hid (show B16 P by rw [←hP];exact fun _ _=>lF_lt _ _)
    rw [hP]at HPAD
    have HPD:=Lib.hid hP
    obtain⟨u,hu⟩: ∃u,hsF f s (pt l) N=u:=⟨_,rfl⟩
    obtain⟨a,ha⟩: ∃a,atF zF s N=a:=⟨_,rfl⟩
    rw [hu]at hUwr hub
    rw [ha]at hOwr hob
    have HUD:=Lib.hid hu
    have HAD:=Lib.hid ha
    clear hP hu ha hno
    have hab:=Lib.hid (adF_lt hob.out HSL.out)
    have hxb:=Lib.hid (adF_lt hpb.out hab.out)
    have heb:=Lib.hid (show B16 (enF f (adF P (adF a s)))from enR_lt HFB.out hxb.out 10)
    go_upto_region 11 with fail
    clear j1 j2 j3 i1
    apply wp_region_viaG (F:=fun gp W=>Ar W w.heap.size 432 (pkF (ek f) sb)∧Ar W gR 16 (fun _=>0)∧Ar W gs 16 (s)∧Ar W gO 16 (a)∧Ar W gU 16 (u)∧Ar W gp 16 (adF P (adF a s))∧gO<gp∧Below w.heap.size w W)
    case h1=>
     refine wp_region_noPanic ?_
     have hUcd:=hUwr.drew
     refine wp_region_held_drew (S:=fun W=>Ar W w.heap.size 432 (pkF (ek f) sb)∧Ar W gR 16 (fun _=>0)∧Ar W gs 16 (s)∧Ar W gO 16 (a)∧Below w.heap.size w W) (by kernel_rfl) ⟨hEwr.drew,hRwr.drew,hswr.drew,hOwr.drew,hBwr.drew⟩ (fun hH'=> ?_)
     generalize World.drew wr=cd at*
     refine tw 0 ?vc1 rfl ?hyc1 ?restc1
     case hyc1=>
      intro W hSw
      go_simp
      try with_reducible rfl
     simp only [Act.put,nrm]
     refine tw 1 ?vc2 rfl ?hyc2 ?restc2
     case hyc2=>
      intro W hSw
      go_simp
      try with_reducible rfl
     simp only [Act.put,nrm]
     refine tw 2 ?vc3 rfl ?hyc3 ?restc3
     case hyc3=>
      intro W hSw
      obtain⟨j1,j2,j3,j4⟩:=HFB2.out
      go_simp
      try with_reducible rfl
     simp only [Act.put,nrm]
     refine tw 3 ?vc4 rfl ?hyc4 ?restc4
     case hyc4=>
      intro W hSw
      have hslc:=HSLI.out
      go_simp
      try with_reducible rfl
     simp only [Act.put,nrm]
     refine tk 5 (.agg (arL 16 (a)).toArray) rfl (yieldsIf_load_mid (by rfl) _ _ rfl gO (0) rfl (arL 16 (a)) _ (fun W hSw=>hSw.2.2.2.1.range) Tryz.arr16b rfl (size16b _)) ?_
     simp only [Act.put,nrm]
     refine tk 6 (.agg (arL 16 (s)).toArray) rfl (yieldsIf_load_mid (by rfl) _ _ rfl gs (0) rfl (arL 16 (s)) _ (fun W hSw=>hSw.2.2.1.range) Tryz.arr16b rfl (size16b _)) ?_
     simp only [Act.put,nrm]
     refine rd2 4 9 rfl rfl (fun K hK=> ?_) (fun K hK=> ?_)
     ·go_simp
      refine(HPAD.out _ (hH'.2.2.2.2)).mono ?_
      rintro e c5 ⟨rfl,hq⟩
      go_wp2_with fail
      have hUc5:=hUcd.t hq
      refine hK.out _ _ ⟨hH'.1.t hq,hH'.2.1.t hq,hH'.2.2.1.t hq,hH'.2.2.2.1.t hq,Tq hH'.2.2.2.2 hq⟩ ?_
      clear hK K hH' hq hUcd
      intro hH'
      try simp only [Act.put,nrm]
      refine rd2 7 9 rfl rfl (fun K hK=> ?_) (fun K hK=> ?_)
      ·go_simp
       refine(refxor8 a s _ hob.out HSL.out).mono ?_
       rintro e c6 ⟨rfl,hq⟩
       go_wp2_with fail
       have hUc6:=hUc5.t hq
       refine hK.out _ _ ⟨hH'.1.t hq,hH'.2.1.t hq,hH'.2.2.1.t hq,hH'.2.2.2.1.t hq,Tq hH'.2.2.2.2 hq⟩ ?_
       clear hK K hH' hq hUc5
       intro hH'
       try simp only [Act.put,nrm]
       refine rd2 8 9 rfl rfl (fun K hK=> ?_) (fun K hK=> ?_)
       ·go_simp
        refine(refxor8 P (adF a s) _ hpb.out hab.out).mono ?_
        rintro e c7 ⟨rfl,hq⟩
        go_wp2_with fail
        have hUc7:=hUc6.t hq
        refine hK.out _ _ ⟨hH'.1.t hq,hH'.2.1.t hq,hH'.2.2.1.t hq,hH'.2.2.2.1.t hq,Tq hH'.2.2.2.2 hq⟩ ?_
        clear hK K hH' hq hUc6
        intro hH'
        try simp only [Act.put,nrm]
        refine rd 9 rfl (fun K hK=> ?_)
        obtain⟨gp,hggp⟩:=Le (c7.heap.size)
        have hlgOgp:gO<gp:=by rw [←hggp];exact(hH'.2.2.2.1).lt (by omega)
        have hq:=Ba c7 (.cells (arL 16 fun _=>0).toArray 22)
        have hpc8:=Ar.new c7 16 (fun _=>0) 22
        rw [hggp]at hpc8
        have hUc8:=hUc7.t hq
        go_simp
        obtain⟨c8,hwc8⟩:=Lv (c7.alloc (.cells (arL 16 fun _=>0).toArray 22))
        have hpc8:Ar c8 gp 16 (fun _=>0):=by rw [hwc8];exact hpc8
        have hUc8:Ar c8 gU 16 (u):=by rw [hwc8];exact hUc8
        try rw [hggp]
        rw [←hwc8]
        refine hK.out _ _ (by rw [hwc8];exact⟨hH'.1.t hq,hH'.2.1.t hq,hH'.2.2.1.t hq,hH'.2.2.2.1.t hq,Tq hH'.2.2.2.2 hq⟩) ?_
        clear hK K hH' hq hwc8 hggp hUc7
        intro hH'
        try simp only [Act.put,nrm]
        refine rd 10 rfl (fun K hK=> ?_)
        rw [if_pos (by rfl)]
        refine wp_store_mid _ _ _ rfl gp 0 (arL 16 (adF P (adF a s))).toArray rfl rfl hpc8.there (size16b _) (all_oneCell_toArray (arL_one 16 (adF P (adF a s)))) ?_
        have hpc9:=hpc8.whole (adF P (adF a s))
        have hUc9:=hUc8.apart (b:=gp) (by omega) (arL 16 (adF P (adF a s))) 0
        dsimp only [List.toList_toArray]
        refine hK.out _ _ ⟨(hH'.1).apart (b:=gp) (by omega) (arL 16 (adF P (adF a s))) 0,(hH'.2.1).apart (b:=gp) (by omega) (arL 16 (adF P (adF a s))) 0,(hH'.2.2.1).apart (b:=gp) (by omega) (arL 16 (adF P (adF a s))) 0,(hH'.2.2.2.1).apart (b:=gp) (by omega) (arL 16 (adF P (adF a s))) 0,(hH'.2.2.2.2).trans (Below.setCells (Below.refl w.heap.size _) (b:=gp) (by omega) (arL 16 (adF P (adF a s))) 0)⟩ ?_
        clear hK K hH' hUc8 hpc8
        intro hH'
        generalize World.setCells c8 gp 0 (arL 16 (adF P (adF a s)))=c9 at*
        try simp only [Act.put]
        refine wpAnyH_done (by kernel_rfl) ?_ _
        refine NoPanic.normal ?_
        exact⟨rfl,gp,rfl,hH'.1,hH'.2.1,hH'.2.2.1,hH'.2.2.2.1,hUc9,hpc9,by omega,hH'.2.2.2.2⟩
       ·obtain⟨gp,hggp⟩:=Le (c6.heap.size)
        have hlgOgp:gO<gp:=by rw [←hggp];exact(hH'.2.2.2.1).lt (by omega)
        have hq:=Ba c6 (.cells (arL 16 fun _=>0).toArray 22)
        have hpc10:=Ar.new c6 16 (fun _=>0) 22
        rw [hggp]at hpc10
        have hUc10:=hUc6.t hq
        go_simp
        obtain⟨c10,hwc10⟩:=Lv (c6.alloc (.cells (arL 16 fun _=>0).toArray 22))
        have hpc10:Ar c10 gp 16 (fun _=>0):=by rw [hwc10];exact hpc10
        have hUc10:Ar c10 gU 16 (u):=by rw [hwc10];exact hUc10
        try rw [hggp]
        rw [←hwc10]
        refine hK.out _ _ (by rw [hwc10];exact⟨hH'.1.t hq,hH'.2.1.t hq,hH'.2.2.1.t hq,hH'.2.2.2.1.t hq,Tq hH'.2.2.2.2 hq⟩) ?_
        clear hK K hH' hq hwc10 hggp hUc6
        intro hH'
        try simp only [Act.put,nrm]
        refine rd 8 rfl (fun K hK=> ?_)
        go_simp
        refine(refxor8 P (adF a s) _ hpb.out hab.out).mono ?_
        rintro e c11 ⟨rfl,hq⟩
        go_wp2_with fail
        have hUc11:=hUc10.t hq
        have hpc11:=hpc10.t hq
        refine hK.out _ _ ⟨hH'.1.t hq,hH'.2.1.t hq,hH'.2.2.1.t hq,hH'.2.2.2.1.t hq,Tq hH'.2.2.2.2 hq⟩ ?_
        clear hK K hH' hq hUc10 hpc10
        intro hH'
        try simp only [Act.put,nrm]
        refine rd 10 rfl (fun K hK=> ?_)
        rw [if_pos (by rfl)]
        refine wp_store_mid _ _ _ rfl gp 0 (arL 16 (adF P (adF a s))).toArray rfl rfl hpc11.there (size16b _) (all_oneCell_toArray (arL_one 16 (adF P (adF a s)))) ?_
        have hpc12:=hpc11.whole (adF P (adF a s))
        have hUc12:=hUc11.apart (b:=gp) (by omega) (arL 16 (adF P (adF a s))) 0
        dsimp only [List.toList_toArray]
        refine hK.out _ _ ⟨(hH'.1).apart (b:=gp) (by omega) (arL 16 (adF P (adF a s))) 0,(hH'.2.1).apart (b:=gp) (by omega) (arL 16 (adF P (adF a s))) 0,(hH'.2.2.1).apart (b:=gp) (by omega) (arL 16 (adF P (adF a s))) 0,(hH'.2.2.2.1).apart (b:=gp) (by omega) (arL 16 (adF P (adF a s))) 0,(hH'.2.2.2.2).trans (Below.setCells (Below.refl w.heap.size _) (b:=gp) (by omega) (arL 16 (adF P (adF a s))) 0)⟩ ?_
        clear hK K hH' hUc11 hpc11
        intro hH'
        generalize World.setCells c11 gp 0 (arL 16 (adF P (adF a s)))=c12 at*
        try simp only [Act.put]
        refine wpAnyH_done (by kernel_rfl) ?_ _
        refine NoPanic.normal ?_
        exact⟨rfl,gp,rfl,hH'.1,hH'.2.1,hH'.2.2.1,hH'.2.2.2.1,hUc12,hpc12,by omega,hH'.2.2.2.2⟩
      ·obtain⟨gp,hggp⟩:=Le (c5.heap.size)
       have hlgOgp:gO<gp:=by rw [←hggp];exact(hH'.2.2.2.1).lt (by omega)
       have hq:=Ba c5 (.cells (arL 16 fun _=>0).toArray 22)
       have hpc13:=Ar.new c5 16 (fun _=>0) 22
       rw [hggp]at hpc13
       have hUc13:=hUc5.t hq
       go_simp
       obtain⟨c13,hwc13⟩:=Lv (c5.alloc (.cells (arL 16 fun _=>0).toArray 22))
       have hpc13:Ar c13 gp 16 (fun _=>0):=by rw [hwc13];exact hpc13
       have hUc13:Ar c13 gU 16 (u):=by rw [hwc13];exact hUc13
       try rw [hggp]
       rw [←hwc13]
       refine hK.out _ _ (by rw [hwc13];exact⟨hH'.1.t hq,hH'.2.1.t hq,hH'.2.2.1.t hq,hH'.2.2.2.1.t hq,Tq hH'.2.2.2.2 hq⟩) ?_
       clear hK K hH' hq hwc13 hggp hUc5
       intro hH'
       try simp only [Act.put,nrm]
       refine rd 7 rfl (fun K hK=> ?_)
       go_simp
       refine(refxor8 a s _ hob.out HSL.out).mono ?_
       rintro e c14 ⟨rfl,hq⟩
       go_wp2_with fail
       have hUc14:=hUc13.t hq
       have hpc14:=hpc13.t hq
       refine hK.out _ _ ⟨hH'.1.t hq,hH'.2.1.t hq,hH'.2.2.1.t hq,hH'.2.2.2.1.t hq,Tq hH'.2.2.2.2 hq⟩ ?_
       clear hK K hH' hq hUc13 hpc13
       intro hH'
       try simp only [Act.put,nrm]
       refine rd 8 rfl (fun K hK=> ?_)
       go_simp
       refine(refxor8 P (adF a s) _ hpb.out hab.out).mono ?_
       rintro e c15 ⟨rfl,hq⟩
       go_wp2_with fail
       have hUc15:=hUc14.t hq
       have hpc15:=hpc14.t hq
       refine hK.out _ _ ⟨hH'.1.t hq,hH'.2.1.t hq,hH'.2.2.1.t hq,hH'.2.2.2.1.t hq,Tq hH'.2.2.2.2 hq⟩ ?_
       clear hK K hH' hq hUc14 hpc14
       intro hH'
       try simp only [Act.put,nrm]
       refine rd 10 rfl (fun K hK=> ?_)
       rw [if_pos (by rfl)]
       refine wp_store_mid _ _ _ rfl gp 0 (arL 16 (adF P (adF a s))).toArray rfl rfl hpc15.there (size16b _) (all_oneCell_toArray (arL_one 16 (adF P (adF a s)))) ?_
       have hpc16:=hpc15.whole (adF P (adF a s))
       have hUc16:=hUc15.apart (b:=gp) (by omega) (arL 16 (adF P (adF a s))) 0
       dsimp only [List.toList_toArray]
       refine hK.out _ _ ⟨(hH'.1).apart (b:=gp) (by omega) (arL 16 (adF P (adF a s))) 0,(hH'.2.1).apart (b:=gp) (by omega) (arL 16 (adF P (adF a s))) 0,(hH'.2.2.1).apart (b:=gp) (by omega) (arL 16 (adF P (adF a s))) 0,(hH'.2.2.2.1).apart (b:=gp) (by omega) (arL 16 (adF P (adF a s))) 0,(hH'.2.2.2.2).trans (Below.setCells (Below.refl w.heap.size _) (b:=gp) (by omega) (arL 16 (adF P (adF a s))) 0)⟩ ?_
       clear hK K hH' hUc15 hpc15
       intro hH'
       generalize World.setCells c15 gp 0 (arL 16 (adF P (adF a s)))=c16 at*
       try simp only [Act.put]
       refine wpAnyH_done (by kernel_rfl) ?_ _
       refine NoPanic.normal ?_
       exact⟨rfl,gp,rfl,hH'.1,hH'.2.1,hH'.2.2.1,hH'.2.2.2.1,hUc16,hpc16,by omega,hH'.2.2.2.2⟩
     ·obtain⟨gp,hggp⟩:=Le (cd.heap.size)
      have hlgOgp:gO<gp:=by rw [←hggp];exact(hH'.2.2.2.1).lt (by omega)
      have hq:=Ba cd (.cells (arL 16 fun _=>0).toArray 22)
      have hpc17:=Ar.new cd 16 (fun _=>0) 22
      rw [hggp]at hpc17
      have hUc17:=hUcd.t hq
      go_simp
      obtain⟨c17,hwc17⟩:=Lv (cd.alloc (.cells (arL 16 fun _=>0).toArray 22))
      have hpc17:Ar c17 gp 16 (fun _=>0):=by rw [hwc17];exact hpc17
      have hUc17:Ar c17 gU 16 (u):=by rw [hwc17];exact hUc17
      try rw [hggp]
      rw [←hwc17]
      refine hK.out _ _ (by rw [hwc17];exact⟨hH'.1.t hq,hH'.2.1.t hq,hH'.2.2.1.t hq,hH'.2.2.2.1.t hq,Tq hH'.2.2.2.2 hq⟩) ?_
      clear hK K hH' hq hwc17 hggp hUcd
      intro hH'
      try simp only [Act.put,nrm]
      refine rd 4 rfl (fun K hK=> ?_)
      go_simp
      refine(HPAD.out _ (hH'.2.2.2.2)).mono ?_
      rintro e c18 ⟨rfl,hq⟩
      go_wp2_with fail
      have hUc18:=hUc17.t hq
      have hpc18:=hpc17.t hq
      refine hK.out _ _ ⟨hH'.1.t hq,hH'.2.1.t hq,hH'.2.2.1.t hq,hH'.2.2.2.1.t hq,Tq hH'.2.2.2.2 hq⟩ ?_
      clear hK K hH' hq hUc17 hpc17
      intro hH'
      try simp only [Act.put,nrm]
      refine rd 7 rfl (fun K hK=> ?_)
      go_simp
      refine(refxor8 a s _ hob.out HSL.out).mono ?_
      rintro e c19 ⟨rfl,hq⟩
      go_wp2_with fail
      have hUc19:=hUc18.t hq
      have hpc19:=hpc18.t hq
      refine hK.out _ _ ⟨hH'.1.t hq,hH'.2.1.t hq,hH'.2.2.1.t hq,hH'.2.2.2.1.t hq,Tq hH'.2.2.2.2 hq⟩ ?_
      clear hK K hH' hq hUc18 hpc18
      intro hH'
      try simp only [Act.put,nrm]
      refine rd 8 rfl (fun K hK=> ?_)
      go_simp
      refine(refxor8 P (adF a s) _ hpb.out hab.out).mono ?_
      rintro e c20 ⟨rfl,hq⟩
      go_wp2_with fail
      have hUc20:=hUc19.t hq
      have hpc20:=hpc19.t hq
      refine hK.out _ _ ⟨hH'.1.t hq,hH'.2.1.t hq,hH'.2.2.1.t hq,hH'.2.2.2.1.t hq,Tq hH'.2.2.2.2 hq⟩ ?_
      clear hK K hH' hq hUc19 hpc19
      intro hH'
      try simp only [Act.put,nrm]
      refine rd 10 rfl (fun K hK=> ?_)
      rw [if_pos (by rfl)]
      refine wp_store_mid _ _ _ rfl gp 0 (arL 16 (adF P (adF a s))).toArray rfl rfl hpc20.there (size16b _) (all_oneCell_toArray (arL_one 16 (adF P (adF a s)))) ?_
      have hpc21:=hpc20.whole (adF P (adF a s))
      have hUc21:=hUc20.apart (b:=gp) (by omega) (arL 16 (adF P (adF a s))) 0
      dsimp only [List.toList_toArray]
      refine hK.out _ _ ⟨(hH'.1).apart (b:=gp) (by omega) (arL 16 (adF P (adF a s))) 0,(hH'.2.1).apart (b:=gp) (by omega) (arL 16 (adF P (adF a s))) 0,(hH'.2.2.1).apart (b:=gp) (by omega) (arL 16 (adF P (adF a s))) 0,(hH'.2.2.2.1).apart (b:=gp) (by omega) (arL 16 (adF P (adF a s))) 0,(hH'.2.2.2.2).trans (Below.setCells (Below.refl w.heap.size _) (b:=gp) (by omega) (arL 16 (adF P (adF a s))) 0)⟩ ?_
      clear hK K hH' hUc20 hpc20
      intro hH'
      generalize World.setCells c20 gp 0 (arL 16 (adF P (adF a s)))=c21 at*
      try simp only [Act.put]
      refine wpAnyH_done (by kernel_rfl) ?_ _
      refine NoPanic.normal ?_
      exact⟨rfl,gp,rfl,hH'.1,hH'.2.1,hH'.2.2.1,hH'.2.2.2.1,hUc21,hpc21,by omega,hH'.2.2.2.2⟩
    rintro gp x7 ⟨hEx7,hRx7,hsx7,hOx7,hUx7,hpx7,hlgp,hBx7⟩
    clear hEwr hRwr hswr hOwr hUwr hBwr
    go_upto_region 12 with fail
    apply wp_region_via (F:=fun W=>Ar W w.heap.size 432 (pkF (ek f) sb)∧Ar W gR 16 (fun _=>0)∧Ar W gs 16 (s)∧Ar W gO 16 (a)∧Ar W gp 16 (adF P (adF a s))∧Ar W gU 16 (adF u (enF f (adF P (adF a s))))∧Below w.heap.size w W)
    case h1=>
     refine wp_region_noPanic ?_
     have hUdd:=hUx7.drew
     refine wp_region_held_drew (S:=fun W=>Ar W w.heap.size 432 (pkF (ek f) sb)∧Ar W gR 16 (fun _=>0)∧Ar W gs 16 (s)∧Ar W gO 16 (a)∧Ar W gp 16 (adF P (adF a s))∧Below w.heap.size w W) (by kernel_rfl) ⟨hEx7.drew,hRx7.drew,hsx7.drew,hOx7.drew,hpx7.drew,hBx7.drew⟩ (fun hH'=> ?_)
     generalize World.drew x7=dd at*
     refine tk 1 (.agg (arL 432 (pkF (ek f) sb)).toArray) rfl (yieldsIf_load_mid (by rfl) _ _ rfl w.heap.size (0) rfl (arL 432 (pkF (ek f) sb)) _ (fun W hSw=>hSw.1.range) HS.out HW.out (sizeK _)) ?_
     simp only [Act.put,nrm]
     refine tk 2 (.agg (arL 16 (adF P (adF a s))).toArray) rfl (yieldsIf_load_mid (by rfl) _ _ rfl gp (0) rfl (arL 16 (adF P (adF a s))) _ (fun W hSw=>hSw.2.2.2.2.1.range) Tryz.arr16b rfl (size16b _)) ?_
     simp only [Act.put,nrm]
     refine rd2 0 3 rfl rfl (fun K hK=> ?_) (fun K hK=> ?_)
     ·rw [if_pos (by rfl)]
      refine wp_load_mid _ _ rfl gU 0 rfl (arL 16 (u)) _ hUdd.range Tryz.arr16b rfl (size16b _) ?_
      refine hK.out _ _ hH' ?_
      clear hK K hH'
      intro hH'
      try simp only [Act.put,nrm]
      refine rd 3 rfl (fun K hK=> ?_)
      go_simp
      refine(refencrypt f (adF P (adF a s)) _ HFB.out hxb.out).mono ?_
      rintro e d1 ⟨rfl,hq⟩
      go_wp2_with fail
      have hUd1:=hUdd.t hq
      refine hK.out _ _ ⟨hH'.1.t hq,hH'.2.1.t hq,hH'.2.2.1.t hq,hH'.2.2.2.1.t hq,hH'.2.2.2.2.1.t hq,Tq hH'.2.2.2.2.2 hq⟩ ?_
      clear hK K hH' hq hUdd
      intro hH'
      try simp only [Act.put,nrm]
      refine rd 4 rfl (fun K hK=> ?_)
      go_simp
      refine(refxor8 u (enF f (adF P (adF a s))) _ hub.out heb.out).mono ?_
      rintro e d2 ⟨rfl,hq⟩
      go_wp2_with fail
      have hUd2:=hUd1.t hq
      refine hK.out _ _ ⟨hH'.1.t hq,hH'.2.1.t hq,hH'.2.2.1.t hq,hH'.2.2.2.1.t hq,hH'.2.2.2.2.1.t hq,Tq hH'.2.2.2.2.2 hq⟩ ?_
      clear hK K hH' hq hUd1
      intro hH'
      try simp only [Act.put,nrm]
      refine rd 5 rfl (fun K hK=> ?_)
      rw [if_pos (by rfl)]
      refine wp_store_mid _ _ _ rfl gU 0 (arL 16 (adF u (enF f (adF P (adF a s))))).toArray rfl rfl hUd2.there (size16b _) (all_oneCell_toArray (arL_one 16 (adF u (enF f (adF P (adF a s)))))) ?_
      have hUd3:=hUd2.whole (adF u (enF f (adF P (adF a s))))
      dsimp only [List.toList_toArray]
      refine hK.out _ _ ⟨(hH'.1).apart (b:=gU) (by omega) (arL 16 (adF u (enF f (adF P (adF a s))))) 0,(hH'.2.1).apart (b:=gU) (by omega) (arL 16 (adF u (enF f (adF P (adF a s))))) 0,(hH'.2.2.1).apart (b:=gU) (by omega) (arL 16 (adF u (enF f (adF P (adF a s))))) 0,(hH'.2.2.2.1).apart (b:=gU) (by omega) (arL 16 (adF u (enF f (adF P (adF a s))))) 0,(hH'.2.2.2.2.1).apart (b:=gU) (by omega) (arL 16 (adF u (enF f (adF P (adF a s))))) 0,(hH'.2.2.2.2.2).trans (Below.setCells (Below.refl w.heap.size _) (b:=gU) (by omega) (arL 16 (adF u (enF f (adF P (adF a s))))) 0)⟩ ?_
      clear hK K hH' hUd2
      intro hH'
      generalize World.setCells d2 gU 0 (arL 16 (adF u (enF f (adF P (adF a s)))))=d3 at*
      try simp only [Act.put]
      refine wpAnyH_done (by kernel_rfl) ?_ _
      refine NoPanic.normal ?_
      exact⟨rfl,rfl,hH'.1,hH'.2.1,hH'.2.2.1,hH'.2.2.2.1,hH'.2.2.2.2.1,hUd3,hH'.2.2.2.2.2⟩
     ·go_simp
      refine(refencrypt f (adF P (adF a s)) _ HFB.out hxb.out).mono ?_
      rintro e d4 ⟨rfl,hq⟩
      go_wp2_with fail
      have hUd4:=hUdd.t hq
      refine hK.out _ _ ⟨hH'.1.t hq,hH'.2.1.t hq,hH'.2.2.1.t hq,hH'.2.2.2.1.t hq,hH'.2.2.2.2.1.t hq,Tq hH'.2.2.2.2.2 hq⟩ ?_
      clear hK K hH' hq hUdd
      intro hH'
      try simp only [Act.put,nrm]
      refine rd 0 rfl (fun K hK=> ?_)
      rw [if_pos (by rfl)]
      refine wp_load_mid _ _ rfl gU 0 rfl (arL 16 (u)) _ hUd4.range Tryz.arr16b rfl (size16b _) ?_
      refine hK.out _ _ hH' ?_
      clear hK K hH'
      intro hH'
      try simp only [Act.put,nrm]
      refine rd 4 rfl (fun K hK=> ?_)
      go_simp
      refine(refxor8 u (enF f (adF P (adF a s))) _ hub.out heb.out).mono ?_
      rintro e d5 ⟨rfl,hq⟩
      go_wp2_with fail
      have hUd5:=hUd4.t hq
      refine hK.out _ _ ⟨hH'.1.t hq,hH'.2.1.t hq,hH'.2.2.1.t hq,hH'.2.2.2.1.t hq,hH'.2.2.2.2.1.t hq,Tq hH'.2.2.2.2.2 hq⟩ ?_
      clear hK K hH' hq hUd4
      intro hH'
      try simp only [Act.put,nrm]
      refine rd 5 rfl (fun K hK=> ?_)
      rw [if_pos (by rfl)]
      refine wp_store_mid _ _ _ rfl gU 0 (arL 16 (adF u (enF f (adF P (adF a s))))).toArray rfl rfl hUd5.there (size16b _) (all_oneCell_toArray (arL_one 16 (adF u (enF f (adF P (adF a s)))))) ?_
      have hUd6:=hUd5.whole (adF u (enF f (adF P (adF a s))))
      dsimp only [List.toList_toArray]
      refine hK.out _ _ ⟨(hH'.1).apart (b:=gU) (by omega) (arL 16 (adF u (enF f (adF P (adF a s))))) 0,(hH'.2.1).apart (b:=gU) (by omega) (arL 16 (adF u (enF f (adF P (adF a s))))) 0,(hH'.2.2.1).apart (b:=gU) (by omega) (arL 16 (adF u (enF f (adF P (adF a s))))) 0,(hH'.2.2.2.1).apart (b:=gU) (by omega) (arL 16 (adF u (enF f (adF P (adF a s))))) 0,(hH'.2.2.2.2.1).apart (b:=gU) (by omega) (arL 16 (adF u (enF f (adF P (adF a s))))) 0,(hH'.2.2.2.2.2).trans (Below.setCells (Below.refl w.heap.size _) (b:=gU) (by omega) (arL 16 (adF u (enF f (adF P (adF a s))))) 0)⟩ ?_
      clear hK K hH' hUd5
      intro hH'
      generalize World.setCells d5 gU 0 (arL 16 (adF u (enF f (adF P (adF a s)))))=d6 at*
      try simp only [Act.put]
      refine wpAnyH_done (by kernel_rfl) ?_ _
      refine NoPanic.normal ?_
      exact⟨rfl,rfl,hH'.1,hH'.2.1,hH'.2.2.1,hH'.2.2.2.1,hH'.2.2.2.2.1,hUd6,hH'.2.2.2.2.2⟩
    rintro x8 ⟨hEx8,hRx8,hsx8,hOx8,hpx8,hUx8,hBx8⟩
    clear hEx7 hRx7 hsx7 hOx7 hpx7 hUx7 hBx7
    go_wp2_with (first|(refine wpList_load_ar rfl _ _ rfl _ _ _ rfl hUx8 Tryz.arr16b (size16b _) ?_)|(refine wpList_store_ar rfl _ _ _ rfl _ _ _ (adF u (enF f (adF P (adF a s)))) rfl rfl hRx8 (size16b _) ?_;intro y8 hRy8 bel8 siz8 kee8))
    refine bodyPost_ret_ar rfl rfl hRy8 Tryz.arr16b (size16b _) rfl ⟨by rw [haF_some HLEN.out HNN.out HRR.out hr0 HO.out HPD.out HUD.out HAD.out],hBx8.trans (bel8.mono (by omega))⟩
end
section
open Go.RowKit
set_option linter.unusedVariables false
set_option maxRecDepth 100000
open Go.Shelf
theorem atF_one (s:Nat→Nat):atF zF s 1=dk s 2:=by
 show atF zF s (0+1)=_
 rw [←atF_step,atF_zero,zero_ad,show zer (0+1)=0 from zer_odd 1 rfl]
theorem haF_nil (f s:Nat→Nat):haF f s []=fun _=>0:=by
 unfold haF
 show adF (hsF f s (pt []) 0) (hrF f s (atF zF s 0) [])=_
 rw [hrF_no rfl (.inl rfl)]
 exact ad_zero _
def By (W:World) (g:Nat) (l:List UInt8):Prop:=g<W.heap.size∧ ∀j u,l[j]?=some u→W.cell? ⟨g,j,none⟩=some (b8 u)
section
variable {W W':World} {g:Nat} {l:List UInt8}
theorem By.lt (h:By W g l):g<W.heap.size:=h.1
theorem By.to (h:By W g l) (hb:Below W.heap.size W W'):By W' g l:=⟨Nat.lt_of_lt_of_le h.1 hb.size,fun j u hj=>(hb.cell (p:=⟨g,j,none⟩) h.1).trans (h.2 j u hj)⟩
theorem By.drew (h:By W g l):By W.drew g l:=h
theorem By.sl {n:Nat} (h:By W g l) (hl:l.length=n):Sl W W.heap.size (some ⟨g,0,none⟩) n l:=⟨hl,fun _=>⟨g,0,rfl,h.1,fun j u hj=>by rw [Nat.zero_add];exact h.2 j u hj⟩⟩
end
theorem one_list {j:Nat} {u:UInt8} (h: [(1:UInt8)][j]?=some u):j=0∧u=1:=by
 match j,h with
 |0,h=>exact⟨rfl,(Option.some.inj h).symm⟩
theorem by1 (W:World):By (W.alloc (.cells #[.int .u8 1] 5)) W.heap.size [1]:=⟨by simp,fun j u hj=>by
 obtain⟨rfl,rfl⟩:=one_list hj
 rw [World.cell?_alloc_at _ _ _ _ rfl];rfl⟩
theorem l16_cells:(#[Value.int .u8 1]:Array Value)++Builtin.zeroCells (Value.int .u8 0).cells 15=((1::List.replicate 15 0).map b8).toArray:=by kernel_rfl
theorem lt_drew_alloc (W:World) (o:Obj):W.heap.size<(W.drew.alloc o).heap.size:=by
 show W.heap.size<(W.heap.push o).size
 simp
theorem cell_drew_alloc (W:World) (A:Array Value) (t:TypeId) (j:Nat):(W.drew.alloc (.cells A t)).cell? ⟨W.heap.size,j,none⟩=A[j]?:=World.cell?_alloc_at (w:=W.drew) A t W.heap.size j rfl
theorem app15 (W:World) (g:Nat) (h:By W g [1]): ∃W' c,(∀ty,(Builtin.append_ #[25,3] ty #[.slice (some ⟨g,0,none⟩) 1 1,.int .i64 15]).run Tryz.prog W= .ok (.slice (some ⟨W.heap.size,0,none⟩) 16 c) W')∧16≤c∧By W' W.heap.size (1::List.replicate 15 0)∧Below W.heap.size W W':=by
 obtain⟨i0,hi0,hz0,hz1,hz2⟩:=info_parts info8x
 have hold:(Builtin.firstCells i0.size 1 (.slice (some ⟨g,0,none⟩) 1 1)).run Tryz.prog W.drew= .ok [Value.int .u8 1].toArray W.drew:=
  run_firstCells_some (P:=Tryz.prog) W.drew i0.size 1 ⟨g,0,none⟩ 1 1 [.int .u8 1] (by rw [hz1];rfl) (fun j v hj=>by
   match j,hj with
   |0,hj=>obtain rfl:=Option.some.inj hj;exact h.drew.2 0 1 rfl)
 have hr:=fun ty=>Lib.run_append_grow_zeros (P:=Tryz.prog) W 25 3 ty 5 i0 (.int .u8 0) .i64 .i64 Tryz.underlying25 Tryz.underlying3 hi0 hz0 (some ⟨g,0,none⟩) 1 1 [.int .u8 1] hold 15 (by decide) (by rw [hz1];decide) (by decide) (by decide) (by rw [hz2];decide) (by rw [hz2];decide)
 have hge:=grownCap_ge W 16 1 5
 refine⟨_,_,hr,hge,⟨lt_drew_alloc _ _,fun j u hj=> ?_⟩,((Below.refl _ _).drew).alloc (Nat.le_refl _) _⟩
 have hj16:j<16:=(List.getElem?_eq_some_iff.1 hj).1
 rw [cell_drew_alloc]
 rw [show([Value.int .u8 1].toArray:Array Value)= #[Value.int .u8 1]from rfl,l16_cells,Array.getElem?_append_left (by simpa using hj16),List.getElem?_toArray,List.getElem?_map,hj]
 rfl
theorem s16_oneB {w:World} {g:Nat} {b:Nat→Nat} (h:Ar w g 16 b):S16 w (some ⟨g,0,none⟩) 1 (fun _=>b):=fun _=>⟨g,0,rfl,h.lt (by omega),fun i hi=>by
 obtain rfl:i=0:=by omega
 exact h.range⟩
theorem pt_l16:pt (1::List.replicate 15 0) 0=e16:=funext fun j=>by
 unfold pt lF e16
 rw [Nat.mul_zero,Nat.zero_add]
 match j with
 |0=>rfl
 |j+1=>
  rw [if_neg (by omega),List.getD_cons_succ,List.getD,List.getElem?_replicate]
  split<;>rfl
theorem haF_l16 (f s:Nat→Nat):haF f s (1::List.replicate 15 0)=hsF f s (fun _=>e16) 1:=by
 unfold haF
 show adF (hsF f s (pt (1::List.replicate 15 0)) 1) (hrF f s (atF zF s 1) [])=_
 rw [hrF_no rfl (.inl rfl),ad_zero]
 show adF zF (enF f (adF (pt (1::List.replicate 15 0) 0) (atF zF s 1)))=adF zF (enF f (adF e16 (atF zF s 1)))
 rw [pt_l16]
theorem haF_one (f s:Nat→Nat):haF f s [1]=hrF f s (fun _=>0) [1]:=by
 unfold haF
 show adF zF (hrF f s (atF zF s 0) [1])=_
 rw [zero_ad,atF_zero]
 rfl
theorem wsum_nil (q:Option Addr) (f s:Nat→Nat) (w:World) (hf:B16 f) (hs:enF f zF=s) (hm:TabM w q f) (hx:Boxes w):Calls Tryz.prog 85 #[.pointer q,.slice none 0 0] w fun e w'=>e= .returned (.agg (arL 16 (fun _=>0)).toArray)∧Below w.heap.size w w':=by
 have h:=hsum q f s none 0 0 [] w hf hs ⟨rfl,fun h=>absurd h (by omega)⟩ (Nat.le_refl _) (by omega) hm hx
 rw [haF_nil]at h
 exact h
theorem wsum16 (q:Option Addr) (f s:Nat→Nat) (g c:Nat) (w:World) (hl:By w g (1::List.replicate 15 0)) (hc:16≤c) (hf:B16 f) (hs:enF f zF=s) (hm:TabM w q f) (hx:Boxes w):Calls Tryz.prog 85 #[.pointer q,.slice (some ⟨g,0,none⟩) 16 c] w fun e w'=>e= .returned (.agg (arL 16 (hsF f s (fun _=>e16) 1)).toArray)∧Below w.heap.size w w':=by
 have h:=hsum q f s (some ⟨g,0,none⟩) 16 c (1::List.replicate 15 0) w hf hs (hl.sl rfl) hc (by omega) hm hx
 rw [haF_l16]at h
 exact h
theorem wsum1 (q:Option Addr) (f s:Nat→Nat) (g:Nat) (w:World) (hl:By w g [1]) (hf:B16 f) (hs:enF f zF=s) (hm:TabM w q f) (hx:Boxes w):Calls Tryz.prog 85 #[.pointer q,.slice (some ⟨g,0,none⟩) 1 1] w fun e w'=>e= .returned (.agg (arL 16 (hrF f s (fun _=>0) [1])).toArray)∧Below w.heap.size w w':=by
 have h:=hsum q f s (some ⟨g,0,none⟩) 1 1 [1] w hf hs (hl.sl rfl) (Nat.le_refl _) (by omega) hm hx
 rw [haF_one]at h
 exact h
theorem wrest1 (v:Value) (f s:Nat→Nat) (g:Nat) (w:World) (hl:By w g [1]) (hf:B16 f) (hs:enF f zF=s) (ht:TabC w v f) (hx:Boxes w):Calls Tryz.prog 116 #[v,.agg (arL 16 (fun _=>0)).toArray,.slice (some ⟨g,0,none⟩) 1 1] w fun e w'=>e= .returned (.agg (arL 16 (hrF f s (fun _=>0) [1])).toArray)∧Below w.heap.size w w':=by
 have h:=hrest v f (fun _=>0) (some ⟨g,0,none⟩) 1 1 [1] w hf zF_lt (hl.sl rfl) ht hx
 rw [hs]at h
 exact h
theorem wrest_nil (v:Value) (f:Nat→Nat) (w:World) (hf:B16 f) (ht:TabC w v f) (hx:Boxes w):Calls Tryz.prog 116 #[v,.agg (arL 16 (fun _=>0)).toArray,.slice none 0 0] w fun e w'=>e= .returned (.agg (arL 16 (fun _=>0)).toArray)∧Below w.heap.size w w':=by
 have h:=hrest v f (fun _=>0) none 0 0 [] w hf zF_lt ⟨rfl,fun h=>absurd h (by omega)⟩ ht hx
 rw [hrF_no rfl (.inl rfl)]at h
 exact h
theorem wtabm (gT gC:Nat) (f s:Nat→Nat) (w:World) (hs:enF f zF=s) (hT:Ti w gT (some ⟨gC,0,none⟩) s) (hC:Ci w gC f):TabM w (some ⟨gT,0,none⟩) f:=tabm_made _ f w (wtab gT gC f s w hs hT hC)
theorem wpList_bs_by {P:Program} {ops:Array Oper} {rest:List Oper} {op:Oper} {a:Act} {w w':World} {Q:Exit→Act→World→Prop} (hw:Region.wanted op (yielded ops a.tmps)=true) (t:TypeId) (len:Nat) (parts:Array (Nat×Operand)) (ho:op.op= .buildSlice t len parts)
  (ps:List (Nat×Value)) (hps:parts.toList.map (fun p=>(p.1,a.eval p.2))=ps) (v:Value) (hb:(Instr.buildSlice t len ps.toArray).run P w= .ok v w') (h:wpList P ops Q rest (a.put op.dst v) w'):wpList P ops Q (op::rest) a w:=
 BigFrame.wpList_want hw fun _ hK=>by
  have e:(parts.map fun(i,x)=>(i,a.eval x))=ps.toArray:=by rw [←hps];apply Array.toList_inj.1;simp
  unfold Oper.wp execOp
  simp only [ho,e,Sem.run_bind,hb,Result.andThen_ok]
  exact hK _ _ h
end
end Go.Proofs.YtiacbphnclgikaaGreatDoor
