/-
 Contract of Encode of the reference package of layer 17, by a walk through its text; what was there stays as it was.
-/
import Derived.Test.YtiacbphnclgikaaGreatDoorSqz
import Derived.Test.YtiacbphnclgikaaGreatDoorPka
import Derived.Test.YtiacbphnclgikaaGreatDoorPkb
import Derived.Test.YtiacbphnclgikaaGreatDoorGnc
import Derived.Test.YtiacbphnclgikaaGreatDoorSec
import Derived.Test.YtiacbphnclgikaaGreatDoorSew
import Derived.ArgAppend
import Derived.Deep.RegionHeld3
namespace Go.Proofs.YtiacbphnclgikaaGreatDoor
open Go.RowKit
set_option linter.unusedVariables false
set_option maxRecDepth 100000
set_option linter.unusedSimpArgs false
open Go.Shelf
theorem wp_append_grow {P:Program} (w:World) {o:Oper} {a:Act} {K:Act→World→Prop} {Q:Exit→Act→World→Prop} (s x:Operand) (t:TypeId)
  (ho:o.op= .call { callee:= .builtin .append,args:= #[s,x],argTypes:= #[t,t] })
  (e:TypeId) (i:TypeInfo) (z:Value) (h1:P.underlying t=some (.slice e)) (h2:P.info? e=some i) (h3:i.zero=some z) (h4:i.size=1) (h5:i.bytes=1) (h6:z.cells.size=1)
  (b:Addr) (n cap:Nat) (olds:List Value) (hs:a.eval s= .slice (some b) n cap) (hlo:olds.length=n) (holds: ∀j u,olds[j]?=some u→w.cell? (b.add j)=some u)
  (ad:Addr) (m c:Nat) (news:List Value) (hx:a.eval x= .slice (some ad) m c) (hl:news.length=m) (hnews: ∀j u,news[j]?=some u→w.cell? (ad.add j)=some u) (h1c: ∀u∈news,u.oneCell'=true)
  (hg:cap<n+m) (b1:n+m≤maxLen) (b2:n+m≤140737488355328)
  (h: ∀v' w',w'.ownsRow w.heap.size e 1 v' (n+m) (olds++news)→w.grownBy w' none→K (a.put o.dst v') w'):o.wp P a w K Q:=by
 obtain⟨v',w',hrun,r1,r2⟩:=run_append_arg_grows (P:=P) w t o.type e i z 1 1 h1 h2 h3 h4 h5 h6 (by omega) b n cap olds (by omega) holds ad m c news (by omega) hnews hg b1 (by omega)
 unfold Oper.wp execOp
 simp only [ho,resolve,invoke,builtin,Sem.run_bind,Sem.run_pure,Result.andThen_ok,List.map_toArray,List.map_cons,List.map_nil,hs,hx,hrun]
 exact h v' w' r1 r2
theorem slice8p (g:Nat) (w:World):(Instr.sliceAt 71 (.pointer (some ⟨g,0,none⟩)) none none none).run Tryz.prog w= .ok (.slice (some ⟨g,0,none⟩) 8 8) w:=by
 have hal:Tryz.prog.arrayLen 71=8:=by simp [Program.arrayLen]
 have hel:Tryz.prog.elem 71=5:=by simp [Program.elem]
 have hs:(sizeOf 5).run Tryz.prog w= .ok 1 w:=by kernel_rfl
 rw [run_sliceAt_array_all w 71 ⟨g,0,none⟩ (by rw [hal,hel];exact Tryz.arr8n),hal,hel,hs]
 simp [Result.andThen_ok,slicedAt,Addr.add]
theorem hb_map (t e:Nat) (ht:t<65536) (he:e<65536):(hbL t e).map b8= [.int .u8 ((t/256:Nat):Int),.int .u8 ((t%256:Nat):Int),.int .u8 ((e/256:Nat):Int),.int .u8 ((e%256:Nat):Int)]:=by
 unfold hbL
 simp only [List.map_cons,List.map_nil]
 rw [b8_ofNat _ (by omega),b8_ofNat _ (by omega),b8_ofNat _ (by omega),b8_ofNat _ (by omega)]
set_option maxHeartbeats 4000000 in
theorem rpenc (f:Nat→Nat) (d x t e:Nat) (A:Option Addr) (n c:Nat) (p:List UInt8) (w:World) (hf:B16 f) (hd:d<2) (hx:x<9223372036854775808) (ht:t<65536) (he:e<65536) (hS:Sl w w.heap.size A n p) (hnc:n≤c) (hn:n≤900000):
  Calls Tryz.prog 14 #[.agg (arL 432 (pkF (ek f) sb)).toArray,.agg #[.int .i64 (d:Int),.int .u64 (x:Int),.int .u16 (t:Int),.int .u16 (e:Int),.slice A n c]] w fun e9 w'=> ∃(A2:Option Addr) (c2:Nat),e9= .returned (.slice A2 (n+28) c2)∧Sl w' w'.heap.size A2 (n+28) (dgL f d x t e p)∧n+28≤c2∧Below w.heap.size w w':=by
 obtain⟨kE,hkE⟩:=Le ((arL 432 (pkF (ek f) sb)).toArray)
 obtain⟨kP,hkP⟩: ∃k:Array Value,#[.int .i64 (d:Int),.int .u64 (x:Int),.int .u16 (t:Int),.int .u16 (e:Int),.slice A n c]=k:=⟨_,rfl⟩
 obtain⟨w1,hw1⟩:=Lv (w.alloc (.cells (arL 432 (pkF (ek f) sb)).toArray 48))
 have hs1:=Zs1 hw1
 have hBw1:=Bl hw1
 have hEw1:Ar w1 w.heap.size 432 (pkF (ek f) sb):=by rw [hw1];exact Ar.new w 432 _ _
 obtain⟨w2,hw2⟩:=Lv (w1.alloc (.cells #[.int .i64 (d:Int),.int .u64 (x:Int),.int .u16 (t:Int),.int .u16 (e:Int),.slice A n c] 27))
 have hs2:=Zs2 hw2 hs1
 have hBw2:=Bm hw2 hBw1
 have hEw2:=ara hw2 hEw1
 have hPw2:Cx w2 (w.heap.size+1) 5 (pcF (.int .i64 (d:Int)) (.int .u64 (x:Int)) (.int .u16 (t:Int)) (.int .u16 (e:Int)) (.slice A n c)):=by rw [hw2,←hs1];exact Cx.new w1 5 (pcF (.int .i64 (d:Int)) (.int .u64 (x:Int)) (.int .u16 (t:Int)) (.int .u16 (e:Int)) (.slice A n c)) _
 clear hEw1 hBw1
 rw [hkE]at hw1
 rw [hkP]at hw2
 rw [hkE,hkP]
 clear hkE hkP
 have hz8:=zero8n
 obtain⟨dK,hfs,hrow⟩:=Tryz.structK
 have HS:=Lib.hid hfs
 have HW:=Lib.hid hrow
 clear hfs hrow
 obtain⟨i0,hi0,hz0,hz1,hz2⟩:=info_parts info8x
 have HI0:=Lib.hid hi0
 have HZ0:=Lib.hid hz0
 have HZ1:=Lib.hid hz1
 have HZ2:=Lib.hid hz2
 clear hi0 hz0 hz1 hz2
 have HSS:=Lib.hid hS
 have HNC:=Lib.hid hnc
 have HN:=Lib.hid hn
 have HM:=Lib.hid (hb_map t e ht he)
 have HHD:=Lib.hid (fun V=>rhead d x V hd hx)
 have HMK:=Lib.hid (fun V=>rmake d x V hd hx)
 obtain⟨q,hq0⟩: ∃q,nqF d x=q:=⟨_,rfl⟩
 have hqB:B12 q:=by rw [←hq0];exact nqF_lt d x
 rw [show noF (hdF d x)=q from hq0]at HMK
 obtain⟨PL,hPL⟩: ∃PL,plL t e p=PL:=⟨_,rfl⟩
 obtain⟨m4,hm4⟩: ∃m,4+n=m:=⟨_,rfl⟩
 have hPl:PL.length=m4:=by rw [←hPL,plL_len,hS.len];omega
 obtain⟨SD,hSD⟩: ∃SD,sdL f q PL=SD:=⟨_,rfl⟩
 obtain⟨m20,hm20⟩: ∃m,m4+16=m:=⟨_,rfl⟩
 have hSl:SD.length=m20:=by rw [←hSD,sdL_len,hPl];exact hm20
 have HSE:=Lib.hid (fun V A6 c6 (h6:Sl V V.heap.size A6 m4 PL) (hc6:m4≤c6)=>rseal f q (enF f zF) (kaF f q) none 0 0 [] A6 m4 c6 PL V hf hqB rfl rfl Sl.nil_ (Nat.le_refl _) (by omega) h6 hc6 (by omega))
 rw [show seL f (enF f zF) (kaF f q) PL (tgF f (enF f zF) (csF PL) (ofF (enF f zF) (kaF f q) m4) [])=SD by rw [←hSD];unfold sdL;rw [hPl]]at HSE
 rw [hm20]at HSE
 have HD:=Lib.hid (show hdL d x++SD=dgL f d x t e p by rw [←hSD,←hPL,←hq0];rfl)
 have HPL:=Lib.hid (show hbL t e++p=PL from hPL)
 have HPl:=Lib.hid hPl
 have HSl:=Lib.hid hSl
 have HN28:=Lib.hid (show 8+m20=n+28 by omega)
 have HM4:=Lib.hid hm4
 have HMM:=Lib.hid (show m4≤900004∧m20≤900020∧0<m20∧0<m4 by omega)
 obtain⟨H,hH⟩: ∃H,hdF d x=H:=⟨_,rfl⟩
 rw [hH]at HHD
 have HHL:=Lib.hid (show(hdL d x).map b8=arL 8 H by rw [←hH];exact map_lF _ 8 (hdL_len d x))
 obtain⟨t1,ht1⟩: ∃u,t/256=u:=⟨_,rfl⟩
 obtain⟨t2,ht2⟩: ∃u,t%256=u:=⟨_,rfl⟩
 obtain⟨e1,he1⟩: ∃u,e/256=u:=⟨_,rfl⟩
 obtain⟨e2,he2⟩: ∃u,e%256=u:=⟨_,rfl⟩
 rw [ht1,ht2,he1,he2]at HM
 have b1:(t:Int)/256=(t1:Int):=by omega
 have b2:(t:Int)%256=(t2:Int):=by omega
 have b3:(e:Int)/256=(e1:Int):=by omega
 have b4:(e:Int)%256=(e2:Int):=by omega
 have b5:(t1:Int)<256:=by omega
 have b6:(t2:Int)<256:=by omega
 have b7:(e1:Int)<256:=by omega
 have b8':(e2:Int)<256:=by omega
 clear hf hd hx ht he hS hnc hn hq0 hqB hPL hm4 hPl hSD hm20 hSl hH ht1 ht2 he1 he2
 go_enter Tryz.func14,Tryz.ntmps14
 go_upto_region 1 with fail
 rw [←hw1,←hw2]
 clear hw1 hw2
 try simp only [Nat.add_assoc,Nat.reduceAdd]
 obtain⟨gP,hgP⟩:=Le (w.heap.size+1)
 rw [hgP]at hPw2
 try rw [hgP]
 have hlP:w.heap.size<gP:=by omega
 clear hs1 hs2 hgP
 have c2:=(hPw2 2 (by omega)).1
 have c3:=(hPw2 3 (by omega)).1
 simp only [pcF]at c2 c3
 go_upto_region 2 with fail
 clear c2 c3 b1 b2 b3 b4 b5 b6 b7 b8'
 have hO:=World.ownsRow_lit (base:=w2.heap.size) (e:=5) (size:=1) w2 #[.int .u8 (t1:Int),.int .u8 (t2:Int),.int .u8 (e1:Int),.int .u8 (e2:Int)] 4 (Nat.le_refl _) (by simp [maxLen]) rfl
 have hq:=Ba w2 (.cells #[.int .u8 (t1:Int),.int .u8 (t2:Int),.int .u8 (e1:Int),.int .u8 (e2:Int)] 5)
 have hEa:=hEw2.t hq
 have hPa:=hPw2.t hq
 have hBa:=Tq hBw2 hq
 have c4:=(hPa 4 (by omega)).1
 simp only [pcF]at c4
 have hsl:=(HSS.out.below hBa).more hBa.size
 have hn9:=HN.out
 go_upto_region 3 with (first|(at_builtin;refine wpList_append_sl _ rfl _ _ 25 rfl w2.heap.size 5 i0 (.int .u8 0) Tryz.underlying25 HI0.out HZ0.out HZ1.out HZ2.out rfl _ 4 _ rfl hO _ A n c p rfl hsl (by omega) (by simp) ?_;intro v6 x1 hown6 hgrow6 _)|fail)
 have hq2:Below w2.heap.size w2 x1:=hq.grown hgrow6 (by simp) (fun g hg=>own_block hO hg)
 clear c4 hn9
 have hEx1:=(hEw2).to (by omega) hq2
 have hPx1:=(hPw2).to (by omega) hq2
 have hBx1:=hBw2.trans (hq2.mono hBw2.size)
 obtain⟨A6,c6,rfl⟩:=own_shape hown6
 rw [HM4.out,show(#[Value.int .u8 (t1:Int),.int .u8 (t2:Int),.int .u8 (e1:Int),.int .u8 (e2:Int)]:Array Value).toList=(hbL t e).map b8 from HM.out.symm,←List.map_append,HPL.out]at hown6
 have hc6:=(own_cap hown6).1
 have hQ0:=Sl.of_own hown6
 try rw [HM4.out]
 obtain⟨gQ,hgQ⟩: ∃g,x1.heap.size-1=g:=⟨_,rfl⟩
 have hQx1:Sy x1 gQ A6 (m4) (PL):=by rw [←hgQ];exact Sy.new hQ0 (Nat.zero_lt_of_lt (hEx1.lt (by omega)))
 clear hQ0 hgQ
 clear hq hq2 hO hown6 hgrow6 hBa hsl hEa hPa hEw2 hPw2 hBw2
 have c0:=(hPx1 0 (by omega)).1
 have c1:=(hPx1 1 (by omega)).1
 simp only [pcF]at c0 c1
 go_wp2_with fail
 refine(HHD.out _).mono ?_
 rintro e x2 ⟨rfl,hq⟩
 have hEx2:=hEx1.t hq
 have hPx2:=hPx1.t hq
 have hQx2:=hQx1.to hq
 have hBx2:=Tq hBx1 hq
 clear hq hEx1 hPx1 hQx1 hBx1
 clear c0 c1
 obtain⟨gh,hgh⟩:=Le (x2.heap.size)
 have hlw_heap_sizegh:w.heap.size<gh:=by rw [←hgh];exact hEx2.lt (by omega)
 have hlgPgh:gP<gh:=by rw [←hgh];exact hPx2.lt (by omega)
 have hlgQgh:gQ<gh:=by rw [←hgh];exact hQx2.lt
 have hlwgh:w.heap.size≤gh:=by rw [←hgh];exact hBx2.size
 have hq:=Ba x2 (.cells (arL 8 fun _=>0).toArray 71)
 have hEx3a:=hEx2.t hq
 have hPx3a:=hPx2.t hq
 have hQx3a:=hQx2.to hq
 have hhx3a:=Ar.new x2 8 (fun _=>0) 71
 have hBx3a:=hBx2.alloc hBx2.size (.cells (arL 8 fun _=>0).toArray 71)
 rw [hgh]at hhx3a
 clear hq hEx2 hPx2 hQx2 hBx2
 go_upto_region 4 with (first|(refine wpList_store_ar rfl _ _ _ rfl _ _ _ (H) rfl rfl hhx3a (size8n _) ?_;intro x3 hhx3 belx3 sizx3 keex3)|fail)
 have hEx3:=(hEx3a).keep hlw_heap_sizegh belx3
 have hPx3:=(hPx3a).keep hlgPgh belx3
 have hQx3:=(hQx3a).keep hlgQgh belx3
 have hBx3:=hBx3a.trans (belx3.mono hlwgh)
 clear hEx3a hPx3a hQx3a hhx3a hBx3a belx3 sizx3 keex3 hgh
 try dsimp only [Act.put]
 refine wp_region_noPanic ?_
 refine wp_region_held_drew (S:=fun W=>Ar W w.heap.size 432 (pkF (ek f) sb)∧Ar W gh 8 (H)∧Cx W gP 5 (pcF (.int .i64 (d:Int)) (.int .u64 (x:Int)) (.int .u16 (t:Int)) (.int .u16 (e:Int)) (.slice A n c))∧Sy W gQ A6 (m4) (PL)∧Below w.heap.size w W) (by kernel_rfl) ⟨hEx3.drew,hhx3.drew,hPx3.drew,hQx3.drew,hBx3.drew⟩ (fun hH'=> ?_)
 clear hEx3 hhx3 hPx3 hQx3 hBx3
 generalize World.drew x3=qd at*
 refine tw 0 ?vq1 rfl ?hyq1 ?restq1
 case hyq1=>
  intro W hSw
  have hsl:=slice8p gh W
  go_simp
  try with_reducible rfl
 simp only [Act.put,nrm]
 refine tk 1 (.agg (arL 432 (pkF (ek f) sb)).toArray) rfl (yieldsIf_load_mid (by rfl) _ _ rfl w.heap.size (0) rfl (arL 432 (pkF (ek f) sb)) _ (fun W hSw=>hSw.1.range) HS.out HW.out (sizeK _)) ?_
 simp only [Act.put,nrm]
 refine tw 2 ?vq2 rfl ?hyq2 ?restq2
 case hyq2=>
  intro W hSw
  go_simp
  try with_reducible rfl
 simp only [Act.put,nrm]
 refine tw 3 ?vq3 rfl ?hyq3 ?restq3
 case hyq3=>
  intro W hSw
  have c9:=((hSw.2.2.1) 0 (by omega)).1
  simp only [pcF]at c9
  go_simp
  try with_reducible rfl
 simp only [Act.put,nrm]
 refine tw 4 ?vq4 rfl ?hyq4 ?restq4
 case hyq4=>
  intro W hSw
  go_simp
  try with_reducible rfl
 simp only [Act.put,nrm]
 refine tw 5 ?vq5 rfl ?hyq5 ?restq5
 case hyq5=>
  intro W hSw
  have c9:=((hSw.2.2.1) 1 (by omega)).1
  simp only [pcF]at c9
  go_simp
  try with_reducible rfl
 simp only [Act.put,nrm]
 refine tw 7 ?vq6 rfl ?hyq6 ?restq6
 case hyq6=>
  intro W hSw
  go_simp
  try with_reducible rfl
 simp only [Act.put,nrm]
 refine rd 6 rfl (fun K hK=> ?_)
 go_simp
 refine(HMK.out _).mono ?_
 rintro e q7 ⟨rfl,hq⟩
 go_wp2_with fail
 refine hK.out _ _ ⟨hH'.1.t hq,hH'.2.1.t hq,hH'.2.2.1.t hq,hH'.2.2.2.1.to hq,Tq hH'.2.2.2.2 hq⟩ ?_
 clear hK K hH' hq
 intro hH'
 try simp only [Act.put,nrm]
 refine rd 8 rfl (fun K hK=> ?_)
 go_simp
 refine(HSE.out _ A6 c6 (hH'.2.2.2.1).sl hc6).mono ?_
 rintro e q8 ⟨A7,c7,rfl,hO7,hq⟩
 have hZq8:=Sl.of_own hO7
 clear hO7
 obtain⟨l9,l10,l11,l12⟩:=HMM.out
 go_wp2_with fail
 refine hK.out _ _ ⟨hH'.1.t hq,hH'.2.1.t hq,hH'.2.2.1.t hq,hH'.2.2.2.1.to hq,Tq hH'.2.2.2.2 hq⟩ ?_
 clear hK K hH' hq
 intro hH'
 try simp only [Act.put,nrm]
 refine rd 9 rfl (fun K hK=> ?_)
 rw [if_pos (by rfl)]
 obtain⟨ad9,hA9,hs9⟩:=(hZq8).src (by omega)
 subst hA9
 refine wp_append_grow q8 _ _ 25 rfl 5 i0 (.int .u8 0) Tryz.underlying25 HI0.out HZ0.out HZ1.out HZ2.out rfl ⟨gh,0,none⟩ 8 8 ((hdL d x).map b8) rfl (by rw [List.length_map,hdL_len]) (fun j u hj=>by rw [HHL.out]at hj;exact(hH'.2.1).src j u hj) ad9 m20 _ ((SD).map b8) rfl (by rw [List.length_map];exact HSl.out) hs9 (one_b8 _) (by omega) (by simp only [maxLen];omega) (by omega) ?_
 intro v9 q9 hown9 hgrow9
 have hq:Below q8.heap.size q8 q9:=(Below.refl _ _).grown hgrow9 (Nat.le_refl _) (fun k e=>by cases e)
 obtain⟨A9,c9,rfl⟩:=own_shape hown9
 rw [HN28.out]at hown9
 try rw [HN28.out]
 have hcap9:=(own_cap hown9).1
 rw [←List.map_append]at hown9
 have hRq9:=Sl.of_own hown9
 refine hK.out _ _ ⟨hH'.1.t hq,hH'.2.1.t hq,hH'.2.2.1.t hq,hH'.2.2.2.1.to hq,Tq hH'.2.2.2.2 hq⟩ ?_
 clear hK K hH' hq hs9 hown9 hgrow9 hZq8
 intro hH'
 try simp only [Act.put,nrm]
 refine tw 10 ?vq10 rfl ?hyq10 ?restq10
 case hyq10=>
  intro W hSw
  go_simp
  try with_reducible rfl
 simp only [Act.put,nrm]
 refine wpAnyH_done (by kernel_rfl) ?_ _
 have hB9:=hH'.2.2.2.2
 clear hH'
 refine NoPanic.normal ?_
 go_wp2_with fail
 go_ret
 exact⟨A9,c9,rfl,HD.out▸hRq9,hcap9,hB9⟩
end Go.Proofs.YtiacbphnclgikaaGreatDoor
