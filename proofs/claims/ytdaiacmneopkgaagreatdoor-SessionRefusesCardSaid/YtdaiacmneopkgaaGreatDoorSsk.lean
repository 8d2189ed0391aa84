/-
 The check of the documentation's examples of layer 22 returns true. No condition but what the table of S-boxes holds; what was there stays as it was. Plain facts of sessions.
-/
import Derived.Test.YtdaiacmneopkgaaGreatDoorMra
import Derived.Laws.StructEq
namespace Go.Proofs.YtdaiacmneopkgaaGreatDoor
set_option linter.unusedSimpArgs false
set_option linter.unusedVariables false
set_option maxRecDepth 100000
set_option maxHeartbeats 8000000
open Go.RowKit
def DX:List UInt8:= [104,105]
theorem acd:DX.length=2:=rfl
theorem aiN (W:World):dC W (W.alloc (.cells #[.int .u8 104,.int .u8 105] 5 (2,3))) (some ⟨W.heap.size,0,none⟩) 2 DX:=by
 have h:Sl (W.alloc (.cells #[.int .u8 104,.int .u8 105] 5 (2,3))) (W.heap.size+1) (some ⟨W.heap.size,0,none⟩) 2 DX:=⟨rfl,λ_=>⟨W.heap.size,0,rfl,Nat.lt_succ_self _,λj u hj=>by
  have hc: ∀k,(W.alloc (.cells #[.int .u8 104,.int .u8 105] 5 (2,3))).cell? ⟨W.heap.size,k,none⟩=(#[Value.int .u8 104,.int .u8 105])[k]?:=λk=>by
   have h9:=heap_alloc_new W (.cells #[.int .u8 104,.int .u8 105] 5 (2,3));unfold World.cell?;simp only [h9];rfl
  rw [Nat.zero_add,hc]
  match j,hj with
  |0,hj=>obtain rfl:=Option.some.inj hj;rfl
  |1,hj=>obtain rfl:=Option.some.inj hj;rfl
  |j+2,hj=>simp [DX]at hj⟩⟩
 exact λV hV hs=>N7 h (hV _ (Nat.le_refl _) (by simp)) (Nat.lt_of_lt_of_le (by simp) hs)
theorem dC.DD {w0 W:World} {lo hi:Nat} {A:Option Addr} {n:Nat} {l:List UInt8} (h:dC w0 W A n l) (hz:hi<=w0.heap.size):Mx W lo hi A n l:=λV hV=>(h.aG hV (λk e=>Nat.lt_of_lt_of_le e.2 hz)).sl
theorem Sl.DD {W:World} {B lo hi:Nat} {A:Option Addr} {n:Nat} {l:List UInt8} (h:Sl W B A n l) (hB:B<=W.heap.size) (hlo:B<=lo):Mx W lo hi A n l:=λV hV=>(h.below (hV.iv hB hlo)).more (Nat.le_trans hB hV.size)
theorem Ph (W:World) (lo hi:Nat):Mx W lo hi none 0 []:=λV _=>CR _ _
theorem zl (f:Nat->Nat) (l:List UInt8):oh f l<65536:=by
 unfold oh;split
 ·exact aag _
 ·decide
theorem DC (f:Nat->Nat) (l:List UInt8):lH f l<65536:=by
 unfold lH;split
 ·unfold F8;have h1: ∀i,lF (wK f l) i<256:=λi=>by unfold lF;exact UInt8.toNat_lt _
  have h2:=h1 2;have h3:=h1 3;omega
 ·decide
theorem aiO {W:World} {A:Option Addr} {c:Nat} (h:Sl W W.heap.size A 2 DX):(convert 45 9 (.slice A 2 c)).run Tryz.prog W= .ok (.string ⟨#[104,105]⟩) W:=by
 obtain⟨b,o,rfl,_,hc⟩:=h.2 (by omega);exact run_convert_bytes_back (P:=Tryz.prog) W 45 9 5 ⟨b,o,none⟩ c DX Tryz.underlying45 Tryz.underlying5 Tryz.underlying9 (λj hj=>by
  rw [Addr.add_mid];exact hc j _ (List.getElem?_eq_getElem hj))
theorem abx (x la:Nat) (an:Bool) (ac rf:Nat) (ad:ByteArray) (mv sn sl:Nat) (cl:Bool) (w:World):(Instr.field 66 (.agg (av 10 (aC x la an ac rf ad mv sn sl cl)).toArray) 0).run Tryz.prog w= .ok (.int .u64 (x:Int)) w:=by kernel_rfl
theorem ace (x la:Nat) (an:Bool) (ac rf:Nat) (ad:ByteArray) (mv sn sl:Nat) (cl:Bool) (w:World):(Instr.field 66 (.agg (av 10 (aC x la an ac rf ad mv sn sl cl)).toArray) 4).run Tryz.prog w= .ok (.int .i64 (rf:Int)) w:=by kernel_rfl
theorem SI (x la:Nat) (an:Bool) (ac rf:Nat) (ad:ByteArray) (mv sn sl:Nat) (cl:Bool) (w:World):(Instr.field 66 (.agg (av 10 (aC x la an ac rf ad mv sn sl cl)).toArray) 5).run Tryz.prog w= .ok (.string ad) w:=by kernel_rfl
theorem ab7 (x la:Nat) (an:Bool) (ac rf:Nat) (ad:ByteArray) (mv sn sl:Nat) (cl:Bool) (w:World):(Instr.field 66 (.agg (av 10 (aC x la an ac rf ad mv sn sl cl)).toArray) 6).run Tryz.prog w= .ok (.int .i64 (mv:Int)) w:=by kernel_rfl
theorem acf (x la:Nat) (an:Bool) (ac rf:Nat) (ad:ByteArray) (mv sn sl:Nat) (cl:Bool) (w:World):(Instr.field 66 (.agg (av 10 (aC x la an ac rf ad mv sn sl cl)).toArray) 9).run Tryz.prog w= .ok (.bool cl) w:=by kernel_rfl
theorem ahF (c:Int) (w:World):(binOp .neq 29 (.iface 61 (.int .i64 c)) (.iface 61 (.int .i64 c))).run Tryz.prog w= .ok (.bool false) w:=by
 obtain⟨i,hi,hcmp⟩:=Option.map_eq_some_iff.1 (show(Tryz.prog.info? 61).map (·.comparable)=some true by kernel_rfl);have h: ∀d:Nat,(Op.equalIn (d+2) 29 (.iface 61 (.int .i64 c)) (.iface 61 (.int .i64 c))).run Tryz.prog w= .ok true w:=λd=>by
  simp [Op.equalIn,run_underlying Tryz.underlying29,run_underlying Tryz.underlying61,typeInfo,hi,hcmp]
 simp only [binOp];simp [Op.equal,Op.maxDepth,h 9998]
theorem aiP {P:Program} {w:World} (d:Nat) (xs ys:Array Value): ∀fs:List Field,(∀f∈fs,f.name≠ "_" -> ∃a b,(part f.type xs f.offset).run P w= .ok a w/\(part f.type ys f.offset).run P w= .ok b w/\(Op.equalIn d f.type a b).run P w= .ok true w)->(Op.eqFields d xs ys fs).run P w= .ok true w:=by
 intro fs
 induction fs with
 |nil=>intro _;rfl
 |cons f fs ih=>
  intro h;unfold Op.eqFields
  by_cases hn:f.name≠ "_"
  ·obtain⟨a,b,h1,h2,h3⟩:=h f (by simp) hn;rw [if_pos hn];simp only [Sem.run_bind,h1,h2,h3,Result.andThen_ok,Bool.not_true,Bool.false_eq_true,if_false];exact ih (λg hg=>h g (by simp [hg]))
  ·rw [if_neg hn];exact ih (λg hg=>h g (by simp [hg]))
theorem Wh (x la:Nat) (an:Bool) (ac rf:Nat) (ad:ByteArray) (mv sn sl:Nat) (cl:Bool) (w:World):(Op.equalIn 10000 66 (.agg (av 10 (aC x la an ac rf ad mv sn sl cl)).toArray) (.agg (av 10 (aC x la an ac rf ad mv sn sl cl)).toArray)).run Tryz.prog w= .ok true w:=by
 rw [run_equalIn_struct w 9999 66 _ _ (by kernel_rfl) (by kernel_rfl)];refine aiP 9999 _ _ _ (λf hf _=> ?_);simp only [Program.fieldsOf,Tryz.underlying66]at hf;simp only [List.mem_cons,List.not_mem_nil,or_false]at hf;rcases hf with rfl|rfl|rfl|rfl|rfl|rfl|rfl|rfl|rfl|rfl
 ·exact⟨.int .u64 x,.int .u64 x,by kernel_rfl,by kernel_rfl,by rw [run_equalIn_int w 9998 _ _ .u64 _ _ (by kernel_rfl)];simp⟩
 ·exact⟨.int .u64 la,.int .u64 la,by kernel_rfl,by kernel_rfl,by rw [run_equalIn_int w 9998 _ _ .u64 _ _ (by kernel_rfl)];simp⟩
 ·exact⟨.bool an,.bool an,by kernel_rfl,by kernel_rfl,by rw [run_equalIn_bool' w 9998 _ _ _ (by kernel_rfl)];simp⟩
 ·exact⟨.int .i64 ac,.int .i64 ac,by kernel_rfl,by kernel_rfl,by rw [run_equalIn_int w 9998 _ _ .i64 _ _ (by kernel_rfl)];simp⟩
 ·exact⟨.int .i64 rf,.int .i64 rf,by kernel_rfl,by kernel_rfl,by rw [run_equalIn_int w 9998 _ _ .i64 _ _ (by kernel_rfl)];simp⟩
 ·exact⟨.string ad,.string ad,by kernel_rfl,by kernel_rfl,by rw [run_equalIn_string w 9998 _ _ _ (by kernel_rfl)];simp⟩
 ·exact⟨.int .i64 mv,.int .i64 mv,by kernel_rfl,by kernel_rfl,by rw [run_equalIn_int w 9998 _ _ .i64 _ _ (by kernel_rfl)];simp⟩
 ·exact⟨.int .i64 sn,.int .i64 sn,by kernel_rfl,by kernel_rfl,by rw [run_equalIn_int w 9998 _ _ .i64 _ _ (by kernel_rfl)];simp⟩
 ·exact⟨.int .u16 sl,.int .u16 sl,by kernel_rfl,by kernel_rfl,by rw [run_equalIn_int w 9998 _ _ .u16 _ _ (by kernel_rfl)];simp⟩
 ·exact⟨.bool cl,.bool cl,by kernel_rfl,by kernel_rfl,by rw [run_equalIn_bool' w 9998 _ _ _ (by kernel_rfl)];simp⟩
theorem aiQ {P:Program} {o:Oper} {a:Act} {w:World} {K:Act->World->Prop} {Q:Exit->Act->World->Prop} (t u:TypeId) (x y:Operand) (A B:Array Value) (b:Bool) (ho:o.op= .binOp .neq t x y u) (hx:a.eval x= .agg A) (hy:a.eval y= .agg B)
  (hg:P.eqGuardType P.depth t=false) (he:(Op.equalIn 10000 t (.agg A) (.agg B)).run P w= .ok b w) (h:K (a.put o.dst (.bool (!b))) w):o.wp P a w K Q:=by
 unfold Oper.wp execOp;simp only [ho,hx,hy,Sem.run_bind,run_eqGuard_agg w .neq t x y A B hg,run_neq_struct,he,Result.andThen_ok];exact h
theorem aiR {P:Program} {o:Oper} {a:Act} {w:World} {K:Act->World->Prop} {Q:Exit->Act->World->Prop} (t u:TypeId) (x y:Operand) (A B:Array Value) (b:Bool) (ho:o.op= .binOp .eql t x y u) (hx:a.eval x= .agg A) (hy:a.eval y= .agg B)
  (hg:P.eqGuardType P.depth t=false) (he:(Op.equalIn 10000 t (.agg A) (.agg B)).run P w= .ok b w) (h:K (a.put o.dst (.bool b)) w):o.wp P a w K Q:=by
 unfold Oper.wp execOp;simp only [ho,hx,hy,Sem.run_bind,run_eqGuard_agg w .eql t x y A B hg,run_eql_struct,he,Result.andThen_ok];exact h
theorem acg {P:Program} {w:World} {ops:Array Oper} {rest:List Oper} {o:Oper} {a:Act} {Q:Exit->Act->World->Prop} (hw:Region.wanted o (yielded ops a.tmps)=true) (t u:TypeId) (x y:Operand) (A B:Array Value) (b:Bool) (ho:o.op= .binOp .neq t x y u) (hx:a.eval x= .agg A) (hy:a.eval y= .agg B)
  (hg:P.eqGuardType P.depth t=false) (he:(Op.equalIn 10000 t (.agg A) (.agg B)).run P w= .ok b w) (h:wpList P ops Q rest (a.put o.dst (.bool (!b))) w):wpList P ops Q (o::rest) a w:=
 BigFrame.wpList_want hw λ_ hK=>aiQ t u x y A B b ho hx hy hg he (hK _ _ h)
theorem aiS {P:Program} {w:World} {ops:Array Oper} {rest:List Oper} {o:Oper} {a:Act} {Q:Exit->Act->World->Prop} (hw:Region.wanted o (yielded ops a.tmps)=true) (t u:TypeId) (x y:Operand) (A B:Array Value) (b:Bool) (ho:o.op= .binOp .eql t x y u) (hx:a.eval x= .agg A) (hy:a.eval y= .agg B)
  (hg:P.eqGuardType P.depth t=false) (he:(Op.equalIn 10000 t (.agg A) (.agg B)).run P w= .ok b w) (h:wpList P ops Q rest (a.put o.dst (.bool b)) w):wpList P ops Q (o::rest) a w:=
 BigFrame.wpList_want hw λ_ hK=>aiR t u x y A B b ho hx hy hg he (hK _ _ h)
theorem Tryz.Wi:Tryz.prog.eqGuardType Tryz.prog.depth 66=false:=by kernel_rfl
theorem sA:lN ⟨#[115,58,49]⟩=⟨#[115,58,49]⟩:=Gb (by decide+kernel)
theorem sN:lN ⟨#[]⟩=⟨#[]⟩:=Oh (by decide+kernel)
theorem zg (w:World) (hX:eX w):
  Calls Tryz.prog 8 #[] w λe w'=>e= .returned (.bool true)/\Below w.heap.size w w':=by
 obtain⟨HX,z0⟩:=aB hX Nt;have hz:=Ah;clear hX;have hBw:Below w.heap.size w w:=Below.refl _ _;go_enter Tryz.func8,Tryz.ntmps8;go_wp2_with (refine oH rfl _ _ rfl [] rfl _ (z0.out _) ?_);refine(Jn zF 0 ⟨#[115,58,49]⟩ 5 _ jw (by decide) (by omega) (HX.out.keep hBw)).mono ?_;rintro e x1 ⟨gc,pc,mc,tc,cc,nc,fc,kc,rfl,XV,hq⟩;have aT:=Tq hBw hq;obtain⟨lc,nz⟩: ∃k,w.heap.size=k:=⟨_,rfl⟩;obtain⟨hc,rG⟩: ∃k,x1.heap.size=k:=⟨_,rfl⟩;obtain⟨c,aK⟩: ∃s:bL,yt pc mc tc cc nc fc kc zF 0 5 ⟨#[115,58,49]⟩=s:=⟨_,rfl⟩;rw [nz,rG,aK]at XV;have abv:w.heap.size<=lc:=by rw [<-nz];exact hBw.size
 have hlc:lc<hc:=by have:=XV.ps.a;omega
 have X8:hc<=x1.heap.size:=XV.up;obtain⟨wZ,Ls⟩:=aB aK (show c.ea=true->hc<=c.q from XV.ps.c);clear aK nz rG;clear hq hBw;go_wp2_with (refine oH rfl _ _ rfl [] rfl _ (z0.out _) ?_);refine(Jn zF 1 ⟨#[]⟩ 0 _ jw (by decide) (by omega) (HX.out.keep aT)).mono ?_;rintro e x2 ⟨gs,ps,ms,ts,cs,ns,fs,ks,rfl,XW,hq⟩;have EP:=XV.to hq;have di:=Tq aT hq;obtain⟨ls,nz⟩: ∃k,x1.heap.size=k:=⟨_,rfl⟩;obtain⟨hs,rG⟩: ∃k,x2.heap.size=k:=⟨_,rfl⟩;obtain⟨s,aK⟩: ∃s:bL,yt ps ms ts cs ns fs ks zF 1 0 ⟨#[]⟩=s:=⟨_,rfl⟩;rw [nz,rG,aK]at XW;have V5:w.heap.size<=ls:=by rw [<-nz];exact aT.size
 have hls:ls<hs:=by have:=XW.ps.a;omega
 have ahE:hs<=x2.heap.size:=XW.up;obtain⟨jB,JA⟩:=aB aK (show s.ea=true->hs<=s.q from XW.ps.c);have hcs:hc<=ls:=by omega
 clear aK nz rG;clear hq aT XV;have Ls:=Hi (show c.ea=true->hs<=c.q from λe=>by rw [<-wZ.out]at e;cases e);go_wp2_with (refine oH rfl _ _ rfl [] rfl _ (z0.out _) ?_);refine(ach zF 2 ⟨#[]⟩ 0 _ (by decide) (by decide)).mono ?_;rintro e x3 ⟨rfl,hq⟩;have Sg:=EP.to hq;have XY:=XW.to hq;have dJ:=Tq di hq;clear hq di EP XW;rw [pU (show 8≠0 by decide)];go_wp2_with fail;refine(LA gs ls hs 0 0 0 none s 12 _ XY (by rw [<-jB.out];show mr false 0 (kg (lN ⟨#[]⟩)) (fG 0 false)=12;rw [sN];rfl) (by decide)).mono ?_;rintro e x4 ⟨rfl,DY,hq⟩;have BI:=(Sg).aG hq (λk a b=>Iv.no (by omega)) (λe=>Iv.no (by have:=Ls.out e;omega));have iZ:=dJ.trans (hq.iv dJ.size (by omega));clear hq dJ Sg XY;rw [pU (show 12≠0 by decide)];obtain⟨x5,yn⟩:=Le (x4.alloc (.cells #[.int .u8 104,.int .u8 105] 5 (2,3)));obtain⟨gm,hgm⟩: ∃g,x4.heap.size=g:=⟨_,rfl⟩;have hcv:(convert 45 45 (.slice (some ⟨gm,0,none⟩) 2 2)).run Tryz.prog (x4.alloc (.cells #[.int .u8 104,.int .u8 105] 5))= .ok (.slice (some ⟨gm,0,none⟩) 2 2) x5:=by rw [<-hgm,<-yn];exact Lib.run_convert_bytes_const x4 45 5 _ 2 2 Tryz.underlying45 Tryz.underlying5
 have hq:Below x4.heap.size x4 x5:=by rw [<-yn];exact(Below.refl _ _).alloc (Nat.le_refl _) _
 have XZ:dC x4 x5 (some ⟨gm,0,none⟩) 2 DX:=by rw [<-yn,<-hgm];exact aiN x4
 have ab5:hs<=x4.heap.size:=DY.up;have LB:=BI.to hq;have yC:=DY.to hq;have iO:=Tq iZ hq;clear hq iZ BI DY;go_wp2_with fail;refine(Lt gc lc hc 2 2 70000 (some ⟨gm,0,none⟩) DX c _ LB (by rw [<-wZ.out];show mr false 2 (kg (lN ⟨#[115,58,49]⟩)) (fG 5 false)=0;rw [sA];rfl) (XZ.DD (by omega)) (Nat.le_refl _) (by decide) (HX.out.keep iO) (by have:=HX.out.lt;omega)).mono ?_;rintro e x6 ⟨A1,c1,rfl,JB,JQ,hcap,vM,hq⟩;have uq:=(yC).aG hq (λk a b=>Iv.no (by omega)) (λe=>Iv.no (by have:=JA.out e;omega));have ng:=iO.trans (hq.iv iO.size (by omega));obtain⟨DG,hDG⟩: ∃q,(jP zF 0 5 4464 65535 DX)=q:=⟨_,rfl⟩;rw [show c.kf=zF by rw [<-wZ.out];rfl,show c.dr=0 by rw [<-wZ.out];rfl,show c.x=5 by rw [<-wZ.out];rfl,show c.es=0 by rw [<-wZ.out];rfl,show c.et=0 by rw [<-wZ.out];rfl,show c.ea=false by rw [<-wZ.out];rfl,show mI 0 0 false 70000=65535 from rfl,show 70000%65536=4464 from rfl,show 2+28=30 from rfl,hDG]at JQ;rw [show 2+28=30 from rfl]at hcap;obtain⟨HCAP,Ta⟩:=aB hcap hDG;clear hcap vM hDG;have aiE:hs<=x5.heap.size:=yC.up;clear hq iO LB yC XZ;rw [show c.ad=⟨#[115,58,49]⟩by rw [<-wZ.out];exact sA];try rw [show 2+28=30 from rfl]
 clear hcv yn hgm;obtain⟨c2,aK⟩: ∃q9:bL,uP c=q9:=⟨_,rfl⟩;rw [aK]at JB;obtain⟨nR,Ak⟩:=aB aK (show c2.ea=true->hs<=c2.q from λe=>by rw [<-aK]at e;cases e);clear aK;have gJ:=Hi (KI (f:=zF) (d:=0) (x:=5) (t:=4464) (e:=65535) (p:=DX) jw (by omega) (by omega) (by omega) (by omega) (by decide));rw [Ta.out]at gJ;obtain⟨Wj,qo⟩:=aB (show DG.length=30 by rw [<-Ta.out,Tc];rfl) (show s.kf=zF by rw [<-jB.out];rfl);have E8:=Hi (show mJ s DG=0 by unfold mJ uj;rw [qo.out,gJ.out.1,gJ.out.2.1,gJ.out.2.2.1,<-jB.out];rfl);go_wp2_with fail;refine(LZ gs ls hs 30 c1 70010 A1 DG ⟨#[99,58,50]⟩ s _ uq (by rw [<-jB.out];rfl) E8.out (by rw [<-jB.out];show 0<_;omega) (by rw [<-jB.out];show 0<_;omega) (by rw [<-jB.out];show 0<_;omega) (zl _ _) (DC _ _) (by omega) (JQ.DD (by omega)) HCAP.out (by omega) (HX.out.keep ng) (by have:=HX.out.lt;omega)).mono ?_;rintro e x7 ⟨A2,c3,q,n1,m1,rfl,vU,uu,Ll,hcap,hqq,hq⟩;have PQ:=(JB).aG hq (λk a b=>Iv.no (by omega)) (λe=>Iv.no (by have:=Ak.out e;omega));have XX:=(JQ).aG hq (λk e=>by have:=e.2;omega);have lU:=ng.trans (hq.iv ng.size (by omega));rw [qo.out,gJ.out.2.2.1,gJ.out.2.2.2.1,gJ.out.2.2.2.2.1]at vU;rw [qo.out,gJ.out.2.2.2.2.2,acd]at Ll;have eF:=Hi uu;have Fb:hs<=q:=Nat.le_trans uq.up hqq;have aiT:hs<=x6.heap.size:=uq.up;clear hcap uu hqq;clear hq ng JB uq JQ;rw [qo.out,gJ.out.2.2.2.2.2,acd]
 obtain⟨s2,aK⟩: ∃q9:bL,sJ s q 5 4464 70010 65535 ⟨#[99,58,50]⟩ n1 m1=q9:=⟨_,rfl⟩;rw [aK]at vU;obtain⟨iH,Fe⟩:=aB aK (show s2.ea=true->hs<=s2.q from λ_=>by rw [<-aK];exact Fb);clear aK;have X5:=Hi (show s2.kf=zF by rw [<-iH.out];exact qo.out);obtain⟨X6,pz,X7⟩:=dD (show mJ s2 DG=9 by unfold mJ uj;rw [X5.out,gJ.out.1,gJ.out.2.1,gJ.out.2.2.1,<-iH.out,<-jB.out];rfl) (show lv { s2 with rf:=s2.rf+1 } =aC 0 5 true 1 1 ⟨#[99,58,50]⟩ 1 0 0 false by rw [<-iH.out,<-jB.out];unfold lv sJ yt;rw [show oz (decide ((1:Nat)=1)) (lN ⟨#[]⟩) ⟨#[99,58,50]⟩=true by decide+kernel];rfl) (show lv c2=aC 6 0 false 0 0 ⟨#[115,58,49]⟩ 0 0 0 false by rw [<-nR.out,<-wZ.out];unfold lv uP yt;rw [sA];rfl);go_wp2_with fail;refine(aci gs ls hs 30 c1 70011 A1 DG ⟨#[99,58,51]⟩ s2 9 _ vU (by rw [<-iH.out,<-jB.out];rfl) X6.out (by decide) (by rw [<-iH.out,<-jB.out];show 0<_;omega) (XX.DD (by omega)) HCAP.out (by omega) (HX.out.keep lU) (by have:=HX.out.lt;omega)).mono ?_;rintro e x8 ⟨rfl,xg,hq⟩;have LX:=(PQ).aG hq (λk a b=>Iv.no (by omega)) (λe=>Iv.no (by have:=Ak.out e;omega));have Dz:=(XX).aG hq (λk e=>by have:=e.2;omega);have X0:=(Ll).aG hq (λk e=>by have:=e.2;omega);have pK:=lU.trans (hq.iv lU.size (by omega));clear hq lU PQ vU XX Ll;rw [pU (show 9≠0 by decide)];obtain⟨s3,aK⟩: ∃q9:bL, { s2 with rf:=s2.rf+1 } =q9:=⟨_,rfl⟩;rw [aK]at xg
 obtain⟨uw,GN⟩:=aB aK (show s3.ea=true->hs<=s3.q from λe=>by rw [<-aK]at e⊢;exact Fe.out e);clear aK;rw [uw.out]at pz;go_wp2_with fail;refine(uQ gs ls hs s3 _ xg).mono ?_;rintro e x9 ⟨rfl,hq⟩;have L6:=LX.to hq;have vV:=xg.to hq;have E9:=(Dz).then hq;have X3:=(X0).then hq;have sw:=Tq pK hq;clear hq pK LX xg Dz X0;rw [pz.out];obtain⟨bX,hbX⟩:=Le (x9.heap.size);have kD:Cx (x9.alloc (.cells #[.int .u64 0,.int .u64 0,.bool false,.int .i64 0,.int .i64 0,.string ⟨#[]⟩,.int .i64 0,.int .i64 0,.int .u16 0,.bool false] 66)) bX 10 (aC 0 0 false 0 0 ⟨#[]⟩ 0 0 0 false):=by rw [<-hbX];exact BL rfl
 have cB:Below x9.heap.size x9 (x9.alloc (.cells #[.int .u64 0,.int .u64 0,.bool false,.int .i64 0,.int .i64 0,.string ⟨#[]⟩,.int .i64 0,.int .i64 0,.int .u16 0,.bool false] 66)):=(Below.refl _ _).alloc (Nat.le_refl _) _;have aiU:w.heap.size<=bX:=by rw [<-hbX];exact sw.size
 have Ya:hc<=bX:=by rw [<-hbX];exact L6.up
 have aiV:hs<=bX:=by rw [<-hbX];exact vV.up
 have hz:=Ah;go_upto_region 11 with (refine qY rfl _ _ _ rfl bX 10 0 (aC 0 0 false 0 0 ⟨#[]⟩ 0 0 0 false) (av 10 (aC 0 5 true 1 1 ⟨#[99,58,50]⟩ 1 0 0 false)) rfl rfl kD (by rw [dB];omega) (oC _) (kW 10 _ (λj _=>yz _ _ _ _ _ _ _ _ _ _ j)) ?_;intro Gr ic vP Dt Du);have G7:=ic.ext (yA 10 _ (aC 0 5 true 1 1 ⟨#[99,58,50]⟩ 1 0 0 false));have hq:=cB.trans (vP.mono (by rw [<-hbX];exact Nat.le_refl _));clear ic vP Dt Du kD cB hz;clear hbX;have Md:=L6.to hq;have zn:=vV.to hq;have Qc:=(E9).then hq;have X4:=(X3).then hq;have sF:=Tq sw hq;clear hq sw L6 vV E9 X3;try dsimp only [Act.put]
 have hcv:=aiO (c:=c3) X4.sl;have d1:=(G7 1 (by omega)).1;have d2:=(G7 2 (by omega)).1;have d4:=(G7 4 (by omega)).1;have d5:=(G7 5 (by omega)).1;simp only [aC]at d1 d2 d4 d5;have k8:=λV=>Wl 8 (w:=V);have k12:=λV=>Wl 12 (w:=V);have k9:=λV=>Wl 9 (w:=V);have Yb:=Hi (zn);clear Qc X4 G7 zn;go_wp2_with fail;refine(uQ gc lc hc c2 _ Md).mono ?_;rintro e OP ⟨rfl,hq⟩;have ab8:=Md.to hq;have wU:=Tq sF hq;clear hq sF Md;rw [X7.out];obtain⟨kS,bV⟩:=Le ((av 10 (aC 6 0 false 0 0 ⟨#[115,58,49]⟩ 0 0 0 false)).toArray);have uh:=λV=>abx 6 0 false 0 0 ⟨#[115,58,49]⟩ 0 0 0 false V;rw [bV]at uh⊢;clear bV;go_wp2_with fail;go_ret;exact⟨rfl,wU⟩
end Go.Proofs.YtdaiacmneopkgaaGreatDoor
