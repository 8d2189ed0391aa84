/-
 Contracts of package fast, by walks through their texts; what was there stays as it was.
-/
import Derived.Test.YtdaiacmneopkgaaGreatDoorMfa
import Derived.Test.YtdaiacmneopkgaaGreatDoorMbb
namespace Go.Proofs.YtdaiacmneopkgaaGreatDoor
set_option linter.unusedVariables false
set_option maxRecDepth 100000
set_option maxHeartbeats 4000000
section
open Go.RowKit
theorem jw:aj zF:=λ_ _=>by unfold zF;omega
end
section
section
open Go.RowKit
theorem amq (x:Nat) (w:World) (hx:x<4294967296):
  Calls Tryz.prog 172 #[.int .u32 x,.int .i64 (-8)] w λe w'=>e= .returned (.int .u32 (mf x 24:Nat))/\w'=w:=by
 have hr:Hid (bits BinOp.or IntKind.u32 ((x:Int)*2^24%4294967296) ((x:Int)/2^8)=((mf x 24:Nat):Int)):=by
  have e1:((x:Int)*2^24%4294967296)=((x*2^24%4294967296:Nat):Int):=by simp
  have e2:((x:Int)/2^8)=((x/2^(32-24):Nat):Int):=by simp
  unfold Hid;rw [e1,e2,Ac _ _ (Nat.mod_lt _ (by decide)) (Nat.lt_of_le_of_lt (Nat.div_le_self _ _) hx),Xl x 24 hx (by decide)]
 have yZ:IntKind.u64.wrap (-8)=18446744073709551608:=by decide+kernel
 have nJ:bits BinOp.and IntKind.u64 18446744073709551608 31=24:=by decide+kernel
 go_enter Tryz.func172,Tryz.ntmps172;go_wp2;go_ret;exact⟨yl hr.out,rfl⟩
theorem amr (x:Nat) (w:World) (hx:x<4294967296):
  Calls Tryz.prog 172 #[.int .u32 x,.int .i64 (-16)] w λe w'=>e= .returned (.int .u32 (mf x 16:Nat))/\w'=w:=by
 have hr:Hid (bits BinOp.or IntKind.u32 ((x:Int)*2^16%4294967296) ((x:Int)/2^16)=((mf x 16:Nat):Int)):=by
  have e1:((x:Int)*2^16%4294967296)=((x*2^16%4294967296:Nat):Int):=by simp
  have e2:((x:Int)/2^16)=((x/2^(32-16):Nat):Int):=by simp
  unfold Hid;rw [e1,e2,Ac _ _ (Nat.mod_lt _ (by decide)) (Nat.lt_of_le_of_lt (Nat.div_le_self _ _) hx),Xl x 16 hx (by decide)]
 have yZ:IntKind.u64.wrap (-16)=18446744073709551600:=by decide+kernel
 have nJ:bits BinOp.and IntKind.u64 18446744073709551600 31=16:=by decide+kernel
 go_enter Tryz.func172,Tryz.ntmps172;go_wp2;go_ret;exact⟨yl hr.out,rfl⟩
theorem ams (x:Nat) (w:World) (hx:x<4294967296):
  Calls Tryz.prog 172 #[.int .u32 x,.int .i64 (-24)] w λe w'=>e= .returned (.int .u32 (mf x 8:Nat))/\w'=w:=by
 have hr:Hid (bits BinOp.or IntKind.u32 ((x:Int)*2^8%4294967296) ((x:Int)/2^24)=((mf x 8:Nat):Int)):=by
  have e1:((x:Int)*2^8%4294967296)=((x*2^8%4294967296:Nat):Int):=by simp
  have e2:((x:Int)/2^24)=((x/2^(32-8):Nat):Int):=by simp
  unfold Hid;rw [e1,e2,Ac _ _ (Nat.mod_lt _ (by decide)) (Nat.lt_of_le_of_lt (Nat.div_le_self _ _) hx),Xl x 8 hx (by decide)]
 have yZ:IntKind.u64.wrap (-24)=18446744073709551592:=by decide+kernel
 have nJ:bits BinOp.and IntKind.u64 18446744073709551592 31=8:=by decide+kernel
 go_enter Tryz.func172,Tryz.ntmps172;go_wp2;go_ret;exact⟨yl hr.out,rfl⟩
theorem ad8 (a b c d:Nat) (w:World) (ha:a<4294967296) (hb:b<4294967296) (hc:c<4294967296) (hd:d<4294967296):
  Calls Tryz.prog 136 #[.int .u32 a,.int .u32 b,.int .u32 c,.int .u32 d] w λe w'=>e= .returned (.int .u32 (Ni a b c d:Nat))/\w'=w:=by
 have ai:=Xk b hb 24;have tL:=Xk c hc 16;have MK:=Xk d hd 8;have e1:=Hi (Uk a (mf b 24) ha ai);have l1:=ad5 a (mf b 24) ha ai;have e2:=Hi (Uk _ (mf c 16) l1 tL);have l2:=ad5 _ (mf c 16) l1 tL;obtain⟨e3,r1,r2,r3⟩:=fU (Uk _ (mf d 8) l2 MK) (amq b w hb) (amr c w hc) (ams d w hd);rw [show Ni a b c d=a^^^mf b 24^^^mf c 16^^^mf d 8 from rfl];generalize mf b 24=rb at*;generalize mf c 16=rc at*;generalize mf d 8=rd at*;go_enter Tryz.func136,Tryz.ntmps136;go_wp2_with fail;refine r1.out.mono ?_;rintro e w' ⟨rfl,rfl⟩;have e1:=e1.out;go_wp2_with fail;refine r2.out.mono ?_;rintro e w' ⟨rfl,rfl⟩;have e2:=e2.out;go_wp2_with fail;refine r3.out.mono ?_;rintro e w' ⟨rfl,rfl⟩;have e3:=e3.out;go_wp2_with fail;go_ret;exact⟨rfl,rfl⟩
theorem amt (a b c d:Nat) (ha:a<4294967296) (hb:b<4294967296) (hc:c<4294967296) (hd:d<4294967296): ∃A B C D X Y:Nat,
  bits .and .u32 (a:Int) 4278190080=(A:Int)/\bits .and .u32 (b:Int) 16711680=(B:Int)/\bits .and .u32 (c:Int) 65280=(C:Int)/\bits .and .u32 (d:Int) 255=(D:Int)/\
  bits .or .u32 (A:Int) (B:Int)=(X:Int)/\bits .or .u32 (X:Int) (C:Int)=(Y:Int)/\bits .or .u32 (Y:Int) (D:Int)=((AO a b c d:Nat):Int):=by
 have l0:=zz a 0;have l1:=zz b 1;have l2:=zz c 2;have l3:=zz d 3;have n1:wb a 0*16777216|||wb b 1*65536<4294967296:=Nat.or_lt_two_pow (n:=32) (by omega) (by omega);have n2:wb a 0*16777216|||wb b 1*65536|||wb c 2*256<4294967296:=Nat.or_lt_two_pow (n:=32) n1 (by omega);refine⟨wb a 0*16777216,wb b 1*65536,wb c 2*256,wb d 3,_,_,?_,?_,?_,?_,Ac _ _ (by omega) (by omega),Ac _ _ n1 (by omega),?_⟩
 ·have h:=QZ a 4278190080 ha (by decide);rw [amb a ha]at h;exact h
 ·have h:=QZ b 16711680 hb (by decide);rw [amc b hb]at h;exact h
 ·have h:=QZ c 65280 hc (by decide);rw [amd c hc]at h;exact h
 ·have h:=QZ d 255 hd (by decide);rw [ame d]at h;exact h
 ·rw [Ac _ _ n2 (by omega),ad4 _ _ _ _ l1 l2 l3];rfl
theorem Ih (a b c d:Nat) (w:World) (ha:a<4294967296) (hb:b<4294967296) (hc:c<4294967296) (hd:d<4294967296):
  Calls Tryz.prog 138 #[.int .u32 a,.int .u32 b,.int .u32 c,.int .u32 d] w λe w'=>e= .returned (.int .u32 (AO a b c d:Nat))/\w'=w:=by
 obtain⟨A,B,C,D,X,Y,a0,a1,a2,a3,o1,o2,o3⟩:=amt a b c d ha hb hc hd;go_enter Tryz.func138,Tryz.ntmps138;go_wp2;go_ret;exact⟨rfl,rfl⟩
end
section
open Go.RowKit
theorem Tryz.kG:Tryz.prog.underlying 137=some (.array 4 70):=by kernel_rfl
theorem iR (f:Nat->Nat):(Tryz.prog.info? 137).map (·.size)=some (dA 4 f).length:=by rw [Ic];kernel_rfl
theorem Ii (W:Nat->Nat):(dA 4 W).toArray= #[.int .u32 (W 0:Nat),.int .u32 (W 1:Nat),.int .u32 (W 2:Nat),.int .u32 (W 3:Nat)]:=rfl
def AP (f:Nat->Nat) (n i:Nat):Nat:=pre f (4*i) (min 4 (n-4*i))
theorem amu (f:Nat->Nat) (i:Nat):AP f 0 i=0:=by simp [AP,pre]
theorem amv (f:Nat->Nat) (i:Nat) (hi:i<4):AP f 16 i=wd f i:=by
 rw [AP,show min 4 (16-4*i)=4 by omega,Q3]
theorem amw (f:Nat->Nat) (n i:Nat) (hn:n<16):(if i=n/4 then pre f (4*(n/4)) (n%4+1)else AP f n i)=AP f (n+1) i:=by
 unfold AP;by_cases h:i=n/4
 ·subst h;rw [if_pos rfl,show min 4 (n+1-4*(n/4))=n%4+1 by omega]
 ·rw [if_neg h];congr 1;omega
theorem amx (f:Nat->Nat) (n:Nat):AP f n (n/4)=pre f (4*(n/4)) (n%4):=by
 rw [AP,show min 4 (n-4*(n/4))=n%4 by omega]
theorem XA (f:Nat->Nat) (w:World) (hf:aj f):
  Calls Tryz.prog 75 #[.agg (ae 16 f).toArray] w λe w'=>e= .returned (.agg #[.int .u32 (wd f 0:Nat),.int .u32 (wd f 1:Nat),.int .u32 (wd f 2:Nat),.int .u32 (wd f 3:Nat)])/\Below w.heap.size w w':=by
 obtain⟨kA,aR⟩:=Le ((ae 16 f).toArray);obtain⟨w1,af,ak,au,aN⟩:=nA w 16 f 22;obtain⟨w2,ag⟩:=Lv (w1.alloc (.cells #[.int .u32 0,.int .u32 0,.int .u32 0,.int .u32 0] 137));have aD:=uN ag ak;have ai:=Bm ag au;have aA:Aw w2 (w.heap.size+1) 4 (λ_=>0):=by rw [ag,<-ak];exact Aw.new w1 4 (λ_=>0) _
 have aI:=bn ag aN;obtain⟨w3,az⟩:=Lv (w2.alloc (.cells #[.int .u32 0,.int .u32 0,.int .u32 0,.int .u32 0] 137));have aU:=Bm az ai;have eQ:Aw w3 (w.heap.size+2) 4 (AP f 0):=by
  have h:Aw w3 (w.heap.size+2) 4 (λ_=>0):=by rw [az,<-aD];exact Aw.new w2 4 (λ_=>0) _
  exact h.ext (λj _=>(amu f j).symm)
 have aL:=awa az aA;have dw:=bn az aI;rw [aR]at af;rw [aR];clear au aN ai aA aI aR;obtain⟨hstep,hlt,hix,hget⟩:=fU (λo n ho hn=>ad9 f o n hf ho hn) (λo n h=>Un f o hf n h) (λn (hn:n<16)=>hf n hn) (λn hn=>oG 16 f n hn);clear hf;go_enter Tryz.func75,Tryz.ntmps75;go_upto_region 2 with fail;rw [<-af,<-ag,<-az];clear af ag az ak aD;go_wp2_with (refine bB rfl _ _ rfl _ _ _ rfl dw Tryz.aM (ay _) ?_);obtain⟨kB,hkB⟩:=Le ((ae 16 f).toArray);rw [hkB];go_loopw [7] (λi wr=> ∃n:Nat,n<=16/\i= .int .i64 n/\Aw wr (w.heap.size+1) 4 (λ_=>0)/\Aw wr (w.heap.size+2) 4 (AP f n)/\Below w.heap.size w wr) (λi _=>16-(intOf i).toNat);case atStart=>exact⟨0,Nat.zero_le _,rfl,aL,eQ,aU⟩
 case round=>
  clear aL eQ aU dw;obtain⟨n,hn,rfl,hR,hT,hB⟩:=hrel;by_cases hl:n<16
  ·have YJ: ∀V,(Instr.index 22 (.agg kB) (.int .i64 n)).run Tryz.prog V= .ok (.int .u8 (f n:Nat)) V:=λV=>
    O0 Tryz.aM Tryz.underlying5 rfl (by kernel_rfl) kB n _ hl (by rw [<-hkB,List.getElem?_toArray];exact hget.out n hl) V
   obtain⟨q,hq⟩:=Lv (n/4);obtain⟨k,hk⟩:=Lv (n%4);have e0:4*q+k=n:=(by omega);have cB:((n:Int)).tdiv 4=(q:Int):=(by rw [Int.tdiv_eq_ediv_of_nonneg (by omega)];omega);have iX:(n:Int)/4=(q:Int):=(by omega);have jL:q<4:=(by omega);have hs:=Hi (hstep.out (4*q) k (by omega) (by omega));have h3:pre f (4*q) k<16777216:=(by have:=hlt.out (4*q) k (by omega);have h3:256^k<=256^3:=Nat.pow_le_pow_right (by decide) (by omega);omega);have hfn:=hix.out n hl;obtain⟨c0,d0⟩:=hT q jL;rw [show AP f n q=pre f (4*q) k by rw [hq,hk];exact amx f n]at c0;rw [e0]at hs;have hup:=Hi (λi=>amw f n i hl);rw [<-hq,<-hk]at hup;clear hq hk;go_wp2_with fail;go_roundw;case rel=>
    refine⟨n+1,by omega,by go_num,hR.far (p:=⟨w.heap.size+2,q,none⟩) (by simp) _,(hT.set (j:=q) (v:=pre f (4*q) (k+1)) (by omega) ?_).ext (λm _=>hup.out m),hB.setCell (p:=⟨w.heap.size+2,q,none⟩) (by simp) _⟩;exact hs.out
   case measure=>simp [intOf];omega
  ·obtain rfl:n=16:=by omega
   have bG:=hT.ext (λj hj=>amv f j hj);clear hT;go_wp2_with (first
    |(refine Ee rfl _ _ rfl _ _ _ rfl bG Tryz.kG (iR _) ?_)
    |(refine Nh rfl _ _ _ rfl _ _ _ (wd f) rfl rfl hR (iR _) ?_;intro w8 bg aY _ _))
   refine FL rfl rfl bg Tryz.kG (iR _) rfl ⟨rfl,?_⟩;exact hB.trans (aY.mono (by omega))
theorem amy (W:Nat->Nat) (hW: ∀i,i<4->W i<4294967296) (w:World):
  Calls Tryz.prog 110 #[.agg #[.int .u32 (W 0:Nat),.int .u32 (W 1:Nat),.int .u32 (W 2:Nat),.int .u32 (W 3:Nat)]] w λe w'=>e= .returned (.agg (ae 16 (jn W)).toArray)/\Below w.heap.size w w':=by
 have hz:=jf;obtain⟨w1,af⟩:=Lv (w.alloc (.cells #[.int .u32 (W 0:Nat),.int .u32 (W 1:Nat),.int .u32 (W 2:Nat),.int .u32 (W 3:Nat)] 137));have ak:=lh af;have au:=Bl af;have aN:Aw w1 w.heap.size 4 W:=by rw [af];exact Aw.new w 4 W _
 obtain⟨w2,ag,aD,ai,aA⟩:=fw ak au 16 (λ_=>0) 22;have aI:=awa ag aN;obtain⟨w3,az,-,aU,eQ⟩:=o7 aD ai 16 (λ_=>0) 22;have aL:=bn az aA;have dw:=awa az aI;clear au aN ai aA aI;go_enter Tryz.func110,Tryz.ntmps110;go_upto_region 2 with fail;rw [<-af,<-ag,<-az];clear af ag az ak aD;go_wp2_with fail;go_loopw [5] (λi wr=> ∃n:Nat,n<=16/\i= .int .i64 n/\Aw wr w.heap.size 4 W/\Ar wr (w.heap.size+1) 16 (λ_=>0)/\Ar wr (w.heap.size+2) 16 (λm=>if m<n then jn W m else 0)/\Below w.heap.size w wr) (λi _=>16-(intOf i).toNat);case atStart=>exact⟨0,Nat.zero_le _,rfl,dw,aL,eQ.ext (λ_ _=>rfl),aU⟩
 case round=>
  clear dw aL eQ aU;obtain⟨n,hn,rfl,hK,hR,hT,hB⟩:=hrel;by_cases hlt:n<16
  ·obtain⟨q,hq⟩:=Lv (n/4);obtain⟨k,hk⟩:=Lv (n%4);obtain⟨s,hs⟩:=Lv (24-k*8);have cB:((n:Int)).tdiv 4=(q:Int):=(by rw [Int.tdiv_eq_ediv_of_nonneg (by omega)];omega);have iX:(n:Int)/4=(q:Int):=(by omega);have yZ:((n:Int)).tmod 4=(k:Int):=(by rw [Int.tmod_eq_emod_of_nonneg (by omega)];omega);have nJ:(n:Int)%4=(k:Int):=(by omega);have e1:wrap64 ((k:Int)*8)=(k:Int)*8:=IntWalk.wrap64_in _ (by omega);have e2:wrap64 (24-(k:Int)*8)=(s:Int):=(by rw [IntWalk.wrap64_in _ (by omega)];omega);have e3:24-(k:Int)*8=(s:Int):=(by omega);obtain⟨hby,hj⟩:=aB (aea (W q) k s (by omega) hs) (show jn W n=wb (W q) k by rw [jn,hq,hk]);have jL:q<4:=(by omega);have amz:s<32:=(by omega);obtain⟨c0,_⟩:=hK q jL;obtain⟨c1,d1⟩:=hT n hlt;have hwq:=hW q jL;clear hq hk hs;go_wp2_with fail;rw [hby.out,<-hj.out];go_roundw;case rel=>
    exact⟨n+1,by omega,by go_num,hK.far (p:=⟨w.heap.size+2,n,none⟩) (by simp) _,hR.far (p:=⟨w.heap.size+2,n,none⟩) (by simp) _,
     (hT.set (j:=n) (v:=jn W n) (by omega) rfl).ext (λm _=>Io (jn W) n m),hB.setCell (p:=⟨w.heap.size+2,n,none⟩) (by simp) _⟩
   case measure=>simp [intOf];omega
  ·obtain rfl:n=16:=by omega
   have bG:=hT.ext (f':=jn W) (λj hj=>by rw [if_pos hj]);clear hT;go_wp2_with (first
    |(refine bB rfl _ _ rfl _ _ _ rfl bG Tryz.aM (ay _) ?_)
    |(refine bC rfl _ _ _ rfl _ _ _ (jn W) rfl rfl hR (ay _) ?_;intro w8 bg aY _ _))
   refine dU rfl rfl bg Tryz.aM (ay _) rfl ⟨rfl,?_⟩;exact hB.trans (aY.mono (by omega))
theorem fjoin (f:Nat->Nat) (w:World) (hf:aj f):
  Calls Tryz.prog 110 #[.agg #[.int .u32 (wd f 0:Nat),.int .u32 (wd f 1:Nat),.int .u32 (wd f 2:Nat),.int .u32 (wd f 3:Nat)]] w λe w'=>e= .returned (.agg (ae 16 f).toArray)/\Below w.heap.size w w':=by
 have h:=amy (wd f) (λi hi=>p8 f i hf hi) w
 rwa [mh (n:=16) (ad2 f hf)]at h
end
section
open Go.RowKit
theorem Q4 (F G:Nat->Nat) (n m:Nat):(if m=n then G n else(if m<n then G m else F m))=if m<n+1 then G m else F m:=by
 by_cases h:m=n
 ·rw [if_pos h,if_pos (by omega),h]
 ·rw [if_neg h];by_cases h2:m<n
  ·rw [if_pos h2,if_pos (by omega)]
  ·rw [if_neg h2,if_neg (by omega)]
theorem Nj (f k:Nat->Nat) (w:World) (hf:aj f) (hk:aj k):
  Calls Tryz.prog 107 #[.agg #[.int .u32 (wd f 0:Nat),.int .u32 (wd f 1:Nat),.int .u32 (wd f 2:Nat),.int .u32 (wd f 3:Nat)],.agg #[.int .u32 (wd k 0:Nat),.int .u32 (wd k 1:Nat),.int .u32 (wd k 2:Nat),.int .u32 (wd k 3:Nat)]] w λe w'=>e= .returned (.agg #[.int .u32 (wd (ah f k) 0:Nat),.int .u32 (wd (ah f k) 1:Nat),.int .u32 (wd (ah f k) 2:Nat),.int .u32 (wd (ah f k) 3:Nat)])/\Below w.heap.size w w':=by
 obtain⟨w1,af⟩:=Lv (w.alloc (.cells #[.int .u32 (wd f 0:Nat),.int .u32 (wd f 1:Nat),.int .u32 (wd f 2:Nat),.int .u32 (wd f 3:Nat)] 137));have ak:=lh af;have au:=Bl af;have aN:Aw w1 w.heap.size 4 (wd f):=by rw [af];exact Aw.new w 4 (wd f) _
 obtain⟨w2,ag⟩:=Lv (w1.alloc (.cells #[.int .u32 (wd k 0:Nat),.int .u32 (wd k 1:Nat),.int .u32 (wd k 2:Nat),.int .u32 (wd k 3:Nat)] 137));have aD:=uN ag ak;have ai:=Bm ag au;have lu:Aw w2 (w.heap.size+1) 4 (wd k):=by rw [ag,<-ak];exact Aw.new w1 4 (wd k) _
 have aI:=awa ag aN;obtain⟨w3,az⟩:=Lv (w2.alloc (.cells #[.int .u32 0,.int .u32 0,.int .u32 0,.int .u32 0] 137));have aU:=Bm az ai;have aL:Aw w3 (w.heap.size+2) 4 (λ_=>0):=by rw [az,<-aD];exact Aw.new w2 4 (λ_=>0) _
 have uF:=awa az lu;have dw:=awa az aI;clear au aN ai lu aI;go_enter Tryz.func107,Tryz.ntmps107;go_upto_region 1 with fail;rw [<-af,<-ag,<-az];clear af ag az ak aD;obtain⟨hl,hm,hx⟩:=dD (λi hi=>p8 f i hf hi) (λi hi=>p8 k i hk hi) (λi hi=>amf f k i hf hk hi);clear hf hk;go_wp2_with fail;go_loopw [6] (λi wr=> ∃n:Nat,n<=4/\i= .int .i64 n/\Aw wr w.heap.size 4 (λm=>if m<n then wd (ah f k) m else wd f m)/\Aw wr (w.heap.size+1) 4 (wd k)/\Aw wr (w.heap.size+2) 4 (λ_=>0)/\Below w.heap.size w wr) (λi _=>4-(intOf i).toNat);case atStart=>exact⟨0,Nat.zero_le _,rfl,dw.ext (λ_ _=>rfl),uF,aL,aU⟩
 case round=>
  clear dw uF aL aU;obtain⟨n,hn,rfl,hK,hL,hR,hB⟩:=hrel;by_cases hlt:n<4
  ·obtain⟨c0,d0⟩:=hK n hlt;obtain⟨c1,_⟩:=hL n hlt;replace c0:wr.cell? ⟨w.heap.size,n,none⟩=some (.int .u32 (wd f n:Nat)):=c0.trans (by simp);have l0:=hl.out n hlt;have l1:=hm.out n hlt;have hxu:=Uk (wd f n) (wd k n) l0 l1;rw [hx.out n hlt]at hxu;have i1:(n:Int)<4:=(by omega);have dn:=((hK.set (j:=n) (v:=wd (ah f k) n) (by omega) rfl).ext (λm _=>Q4 (wd f) (wd (ah f k)) n m));have nY:=hL.far (p:=⟨w.heap.size,n,none⟩) (by simp) (.int .u32 (wd (ah f k) n:Nat));have bI:=hR.far (p:=⟨w.heap.size,n,none⟩) (by simp) (.int .u32 (wd (ah f k) n:Nat));have bD:=hB.setCell (p:=⟨w.heap.size,n,none⟩) (by simp) (.int .u32 (wd (ah f k) n:Nat));go_upto_region 4 with fail;refine wp_region_noPanic ?_
   go_big_region
   refine NoPanic.normal ?_;go_wp2_with fail;go_roundw;case rel=>exact⟨n+1,by omega,by go_num,dn,nY,bI,bD.drew⟩
   case measure=>simp [intOf];omega
  ·obtain rfl:n=4:=by omega
   have ja:=hK.ext (f':=wd (ah f k)) (λj hj=>by rw [if_pos hj]);clear hK;go_wp2_with (first
    |(refine Ee rfl _ _ rfl _ _ _ rfl ja Tryz.kG (iR _) ?_)
    |(refine Nh rfl _ _ _ rfl _ _ _ (wd (ah f k)) rfl rfl hR (iR _) ?_;intro w8 bg aY _ _))
   refine FL rfl rfl bg Tryz.kG (iR _) rfl ⟨rfl,?_⟩;exact hB.trans (aY.mono (by omega))
end
section
open Go.RowKit
theorem amA (f:Nat->Nat) (w:World) (hf:aj f) (h:eX w):
  Calls Tryz.prog 111 #[.agg #[.int .u32 (wd f 0:Nat),.int .u32 (wd f 1:Nat),.int .u32 (wd f 2:Nat),.int .u32 (wd f 3:Nat)]] w λe w'=>e= .returned (.agg #[.int .u32 (wd (aZ f) 0:Nat),.int .u32 (wd (aZ f) 1:Nat),.int .u32 (wd (aZ f) 2:Nat),.int .u32 (wd (aZ f) 3:Nat)])/\Below w.heap.size w w':=by
 obtain⟨w1,af⟩:=Lv (w.alloc (.cells #[.int .u32 (wd f 0:Nat),.int .u32 (wd f 1:Nat),.int .u32 (wd f 2:Nat),.int .u32 (wd f 3:Nat)] 137));have ak:=lh af;have au:=Bl af;have aN:Aw w1 w.heap.size 4 (wd f):=by rw [af];exact Aw.new w 4 (wd f) _
 obtain⟨w2,ag⟩:=Lv (w1.alloc (.cells #[.int .u32 0,.int .u32 0,.int .u32 0,.int .u32 0] 137));have ai:=Bm ag au;have aA:Aw w2 (w.heap.size+1) 4 (λ_=>0):=by rw [ag,<-ak];exact Aw.new w1 4 (λ_=>0) _
 have aI:=awa ag aN;clear au aN;obtain⟨HX,hst⟩:=aB h (λi hi=>ami f i hf hi);clear h;have hl:=Hi (λi hi=>p8 f i hf hi);clear hf;go_enter Tryz.func111,Tryz.ntmps111;go_upto_region 1 with fail;rw [<-af,<-ag];clear af ag ak;go_wp2_with (refine Ee rfl _ _ rfl _ _ _ rfl aI Tryz.kG (iR _) ?_);rw [Ii];obtain⟨kB,hkB⟩: ∃kB:Array Value,#[.int .u32 (wd f 0:Nat),.int .u32 (wd f 1:Nat),.int .u32 (wd f 2:Nat),.int .u32 (wd f 3:Nat)]=kB:=⟨_,rfl⟩;have hget:=Hi (λn (hn:n<4)=>show kB[n]?=some (.int .u32 (wd f n:Nat))by rw [<-hkB,<-Ii,List.getElem?_toArray];exact Ie 4 _ n hn);rw [hkB];go_loopw [6] (λi wr=> ∃n:Nat,n<=4/\i= .int .i64 n/\Aw wr w.heap.size 4 (λm=>if m<n then wd (aZ f) m else wd f m)/\Aw wr (w.heap.size+1) 4 (λ_=>0)/\Below w.heap.size w wr) (λi _=>4-(intOf i).toNat);case atStart=>exact⟨0,Nat.zero_le _,rfl,aI.ext (λ_ _=>rfl),aA,ai⟩
 case round=>
  clear aI aA ai;obtain⟨n,hn,rfl,hK,hR,hB⟩:=hrel;by_cases hlt:n<4
  ·have hix: ∀V,(Instr.index 137 (.agg kB) (.int .i64 n)).run Tryz.prog V= .ok (.int .u32 (wd f n:Nat)) V:=λV=>
    O0 Tryz.kG Tryz.underlying70 rfl (by kernel_rfl) kB n _ hlt (hget.out n hlt) V
   have l0:=hl.out n hlt;have i1:(n:Int)<4:=(by omega);have k0:=Hi (hst.out n hlt);go_wp2_with fail;refine(aa4 (wd f n) _ l0 (HX.out.keep hB)).mono ?_;rintro e v4 ⟨rfl,rfl⟩;rw [k0.out];have XX:=hK;have X5:=hR;have X6:=hB;clear hK hR hB;have dn:=((XX.set (j:=n) (v:=wd (aZ f) n) (by omega) rfl).ext (λm _=>Q4 (wd f) (wd (aZ f)) n m));have bI:=X5.far (p:=⟨w.heap.size,n,none⟩) (by simp) (.int .u32 (wd (aZ f) n:Nat));have bD:=X6.setCell (p:=⟨w.heap.size,n,none⟩) (by simp) (.int .u32 (wd (aZ f) n:Nat));obtain⟨c0,d0⟩:=XX n hlt;go_wp2_with fail;go_roundw;case rel=>exact⟨n+1,by omega,by go_num,dn,bI,bD⟩
   case measure=>simp [intOf];omega
  ·obtain rfl:n=4:=by omega
   have ja:=hK.ext (f':=wd (aZ f)) (λj hj=>by rw [if_pos hj]);clear hK;go_wp2_with (first
    |(refine Ee rfl _ _ rfl _ _ _ rfl ja Tryz.kG (iR _) ?_)
    |(refine Nh rfl _ _ _ rfl _ _ _ (wd (aZ f)) rfl rfl hR (iR _) ?_;intro w8 bg aY _ _))
   refine FL rfl rfl bg Tryz.kG (iR _) rfl ⟨rfl,?_⟩;exact hB.trans (aY.mono (by omega))
end
section
open Go.RowKit
theorem amB (a b c d:Nat) (ha:a<256) (hb:b<256) (hc:c<256) (hd:d<256):
  bits .or .u32 (bits .or .u32 (bits .or .u32 ((a:Int)*16777216) ((b:Int)*65536)) ((c:Int)*256)) (d:Int)=((jd a b c d:Nat):Int):=by
 have n1:a*16777216|||b*65536<4294967296:=Nat.or_lt_two_pow (n:=32) (by omega) (by omega);have n2:a*16777216|||b*65536|||c*256<4294967296:=Nat.or_lt_two_pow (n:=32) n1 (by omega);rw [show(a:Int)*16777216=((a*16777216:Nat):Int)by omega,show(b:Int)*65536=((b*65536:Nat):Int)by omega,show(c:Int)*256=((c*256:Nat):Int)by omega,
  Ac _ _ (by omega) (by omega),Ac _ _ n1 (by omega),Ac _ _ n2 (by omega),ad4 _ _ _ _ hb hc hd]
theorem XB (a b c d:Nat) (w:World) (ha:a<256) (hb:b<256) (hc:c<256) (hd:d<256):
  Calls Tryz.prog 175 #[.int .u8 a,.int .u8 b,.int .u8 c,.int .u8 d] w λe w'=>e= .returned (.int .u32 (jd a b c d:Nat))/\w'=w:=by
 have hs:=Hi (amB a b c d ha hb hc hd);go_enter Tryz.func175,Tryz.ntmps175;go_wp2;go_ret;exact⟨yl hs.out,rfl⟩
theorem Uo (x:Nat) (w:World) (hx:x<256) (h:eX w):
  Calls Tryz.prog 137 #[.int .u8 x] w λe w'=>e= .returned (.int .u32 (Kk x:Nat))/\w'=w:=by
 have hs:=Hi (Vu x w hx h);have hl:=vH x;have hq:=Hi (aml (sb x) hl);rw [show Kk x=AL 2 1 1 3 (sb x)from rfl];generalize sb x=s at*;have hd:=QQ s hl;have hdo:=Hi (MG s w hl);have hxo:=mo (iI s) s hd hl;have Aj:=ku (iI s) s hd hl;generalize iI s^^^s=u at*;generalize iI s=t at*;go_enter Tryz.func137,Tryz.ntmps137;go_wp2_with fail;refine hs.out.mono ?_;rintro e w1 ⟨rfl,rfl⟩;go_wp2_with fail;refine hdo.out.mono ?_;rintro e w2 ⟨rfl,rfl⟩;go_wp2_with fail;refine(XB t s s u _ hd hl hl Aj).mono ?_;rintro e w3 ⟨rfl,rfl⟩;rw [hq.out];go_wp2_with fail;go_ret;exact⟨rfl,rfl⟩
theorem Uq (b:Nat) (w:World) (hb:b<256):
  Calls Tryz.prog 214 #[.int .u8 b] w λe w'=>e= .returned (.int .u32 (Kl b:Nat))/\w'=w:=by
 have h2:=QQ b hb;have h4:=QQ _ h2;have h8:=QQ _ h4;obtain⟨hq,d2,d4,d8⟩:=fU (amm b hb) (MG b w hb) (MG _ w h2) (MG _ w h4);rw [show Kl b=AL 14 9 13 11 b from rfl];generalize iI (iI (iI b))=e at*;generalize iI (iI b)=f at*;generalize iI b=t at*;have x1:=mo e f h8 h4;have l1:=ku e f h8 h4;have x2:=mo (e^^^f) t l1 h2;have l2:=ku (e^^^f) t l1 h2;have x3:=mo e b h8 hb;have l3:=ku e b h8 hb;have x4:=mo (e^^^f) b l1 hb;have l4:=ku (e^^^f) b l1 hb;have x5:=mo e t h8 h2;have l5:=ku e t h8 h2;have x6:=mo (e^^^t) b l5 hb;have l6:=ku (e^^^t) b l5 hb;generalize e^^^f^^^t=u1 at*;generalize e^^^b=u2 at*;generalize e^^^f^^^b=u3 at*;generalize e^^^t^^^b=u4 at*;generalize e^^^f=v1 at*;generalize e^^^t=v2 at*;go_enter Tryz.func214,Tryz.ntmps214;go_wp2_with fail;refine d2.out.mono ?_;rintro e w1 ⟨rfl,rfl⟩;go_wp2_with fail;refine d4.out.mono ?_;rintro e w1 ⟨rfl,rfl⟩;go_wp2_with fail;refine d8.out.mono ?_;rintro e w1 ⟨rfl,rfl⟩;go_wp2_with fail;refine(XB u1 u2 u3 u4 _ l2 l3 l4 l6).mono ?_;rintro e w3 ⟨rfl,rfl⟩;rw [hq.out];go_wp2_with fail;go_ret;exact⟨rfl,rfl⟩
end
section
open Go.RowKit
theorem XC (x:Nat) (hx:x<4294967296):(x:Int)/16777216%256=((wb x 0:Nat):Int)/\(x:Int)/16777216=((wb x 0:Nat):Int)/\(x:Int)/65536%256=((wb x 1:Nat):Int)/\(x:Int)/256%256=((wb x 2:Nat):Int)/\
  (x:Int)%256=((wb x 3:Nat):Int)/\bits .and .u32 ((x:Int)/65536) 255=((wb x 1:Nat):Int)/\bits .and .u32 ((x:Int)/256) 255=((wb x 2:Nat):Int)/\bits .and .u32 (x:Int) 255=((wb x 3:Nat):Int):=by
 have a: ∀y:Nat,y<4294967296->bits .and .u32 (y:Int) 255=((y%256:Nat):Int):=λy hy=>by
  have h:=QZ y 255 hy (by decide);rw [QY]at h;exact h
 have e1:=a (x/65536) (by omega);have e2:=a (x/256) (by omega);have e3:=a x hx;simp only [wb,Nat.reduceSub,Nat.reducePow];refine⟨by omega,by omega,by omega,by omega,by omega,?_,?_,?_⟩
 ·rw [show(x:Int)/65536=((x/65536:Nat):Int)by omega,e1]
 ·rw [show(x:Int)/256=((x/256:Nat):Int)by omega,e2]
 ·rw [e3];omega
theorem amC (f:Nat->Nat) (w:World) (hf:aj f) (h:eX w):
  Calls Tryz.prog 108 #[.agg #[.int .u32 (wd f 0:Nat),.int .u32 (wd f 1:Nat),.int .u32 (wd f 2:Nat),.int .u32 (wd f 3:Nat)]] w λe w'=>e= .returned (.agg #[.int .u32 (wd (dm (aZ f)) 0:Nat),.int .u32 (wd (dm (aZ f)) 1:Nat),.int .u32 (wd (dm (aZ f)) 2:Nat),.int .u32 (wd (dm (aZ f)) 3:Nat)])/\Below w.heap.size w w':=by
 obtain⟨w1,af⟩:=Lv (w.alloc (.cells #[.int .u32 (wd f 0:Nat),.int .u32 (wd f 1:Nat),.int .u32 (wd f 2:Nat),.int .u32 (wd f 3:Nat)] 137));have ak:=lh af;have au:=Bl af;have aN:Aw w1 w.heap.size 4 (wd f):=by rw [af];exact Aw.new w 4 (wd f) _
 obtain⟨w2,ag⟩:=Lv (w1.alloc (.cells #[.int .u32 0,.int .u32 0,.int .u32 0,.int .u32 0] 137));have ai:=Bm ag au;have aA:Aw w2 (w.heap.size+1) 4 (λ_=>0):=by rw [ag,<-ak];exact Aw.new w1 4 (λ_=>0) _
 have aI:=awa ag aN;clear au aN;obtain⟨HX,hst⟩:=aB h (λi hi=>amj f i hf hi);clear h;have hl:=Hi (λi hi=>p8 f i hf hi);clear hf;go_enter Tryz.func108,Tryz.ntmps108;go_upto_region 1 with fail;rw [<-af,<-ag];clear af ag ak;go_wp2_with (refine Ee rfl _ _ rfl _ _ _ rfl aI Tryz.kG (iR _) ?_);rw [Ii];obtain⟨kB,hkB⟩: ∃kB:Array Value,#[.int .u32 (wd f 0:Nat),.int .u32 (wd f 1:Nat),.int .u32 (wd f 2:Nat),.int .u32 (wd f 3:Nat)]=kB:=⟨_,rfl⟩;have hget:=Hi (λn (hn:n<4)=>show kB[n]?=some (.int .u32 (wd f n:Nat))by rw [<-hkB,<-Ii,List.getElem?_toArray];exact Ie 4 _ n hn);rw [hkB];go_loopw [6] (λi wr=> ∃n:Nat,n<=4/\i= .int .i64 n/\Aw wr w.heap.size 4 (λm=>if m<n then wd (dm (aZ f)) m else wd f m)/\Aw wr (w.heap.size+1) 4 (λ_=>0)/\Below w.heap.size w wr) (λi _=>4-(intOf i).toNat);case atStart=>exact⟨0,Nat.zero_le _,rfl,aI.ext (λ_ _=>rfl),aA,ai⟩
 case round=>
  clear aI aA ai;obtain⟨n,hn,rfl,hK,hR,hB⟩:=hrel;by_cases hlt:n<4
  ·have hix: ∀V,(Instr.index 137 (.agg kB) (.int .i64 n)).run Tryz.prog V= .ok (.int .u32 (wd f n:Nat)) V:=λV=>
    O0 Tryz.kG Tryz.underlying70 rfl (by kernel_rfl) kB n _ hlt (hget.out n hlt) V
   have l0:=hl.out n hlt;have i1:(n:Int)<4:=(by omega);have k0:=Hi (hst.out n hlt);obtain⟨b0,b1,b2,b3,b4,b5,b6,b7⟩:=XC (wd f n) l0;go_wp2_with fail;refine(Uo (wb (wd f n) 0) _ (zz _ _) (HX.out.keep hB)).mono ?_;rintro e v0 ⟨rfl,rfl⟩;go_wp2_with fail;refine(Uo (wb (wd f n) 1) _ (zz _ _) (HX.out.keep hB)).mono ?_;rintro e v1 ⟨rfl,rfl⟩;go_wp2_with fail;refine(Uo (wb (wd f n) 2) _ (zz _ _) (HX.out.keep hB)).mono ?_;rintro e v2 ⟨rfl,rfl⟩;go_wp2_with fail;refine(Uo (wb (wd f n) 3) _ (zz _ _) (HX.out.keep hB)).mono ?_;rintro e v3 ⟨rfl,rfl⟩;go_wp2_with fail;refine(ad8 _ _ _ _ _ (Ul _) (Ul _) (Ul _) (Ul _)).mono ?_;rintro e v4 ⟨rfl,rfl⟩;rw [k0.out];have XX:=hK;have X5:=hR;have X6:=hB;clear hK hR hB;have dn:=((XX.set (j:=n) (v:=wd (dm (aZ f)) n) (by omega) rfl).ext (λm _=>Q4 (wd f) (wd (dm (aZ f))) n m));have bI:=X5.far (p:=⟨w.heap.size,n,none⟩) (by simp) (.int .u32 (wd (dm (aZ f)) n:Nat));have bD:=X6.setCell (p:=⟨w.heap.size,n,none⟩) (by simp) (.int .u32 (wd (dm (aZ f)) n:Nat));obtain⟨c0,d0⟩:=XX n hlt;go_wp2_with fail;go_roundw;case rel=>exact⟨n+1,by omega,by go_num,dn,bI,bD⟩
   case measure=>simp [intOf];omega
  ·obtain rfl:n=4:=by omega
   have ja:=hK.ext (f':=wd (dm (aZ f))) (λj hj=>by rw [if_pos hj]);clear hK;go_wp2_with (first
    |(refine Ee rfl _ _ rfl _ _ _ rfl ja Tryz.kG (iR _) ?_)
    |(refine Nh rfl _ _ _ rfl _ _ _ (wd (dm (aZ f))) rfl rfl hR (iR _) ?_;intro w8 bg aY _ _))
   refine FL rfl rfl bg Tryz.kG (iR _) rfl ⟨rfl,?_⟩;exact hB.trans (aY.mono (by omega))
theorem amD (f:Nat->Nat) (w:World) (hf:aj f):
  Calls Tryz.prog 206 #[.agg #[.int .u32 (wd f 0:Nat),.int .u32 (wd f 1:Nat),.int .u32 (wd f 2:Nat),.int .u32 (wd f 3:Nat)]] w λe w'=>e= .returned (.agg #[.int .u32 (wd (iw f) 0:Nat),.int .u32 (wd (iw f) 1:Nat),.int .u32 (wd (iw f) 2:Nat),.int .u32 (wd (iw f) 3:Nat)])/\Below w.heap.size w w':=by
 obtain⟨w1,af⟩:=Lv (w.alloc (.cells #[.int .u32 (wd f 0:Nat),.int .u32 (wd f 1:Nat),.int .u32 (wd f 2:Nat),.int .u32 (wd f 3:Nat)] 137));have ak:=lh af;have au:=Bl af;have aN:Aw w1 w.heap.size 4 (wd f):=by rw [af];exact Aw.new w 4 (wd f) _
 obtain⟨w2,ag⟩:=Lv (w1.alloc (.cells #[.int .u32 0,.int .u32 0,.int .u32 0,.int .u32 0] 137));have ai:=Bm ag au;have aA:Aw w2 (w.heap.size+1) 4 (λ_=>0):=by rw [ag,<-ak];exact Aw.new w1 4 (λ_=>0) _
 have aI:=awa ag aN;clear au aN;obtain⟨hst,hl⟩:=aB (λi hi=>amk f i hf hi) (λi hi=>p8 f i hf hi);clear hf;go_enter Tryz.func206,Tryz.ntmps206;go_upto_region 1 with fail;rw [<-af,<-ag];clear af ag ak;go_wp2_with (refine Ee rfl _ _ rfl _ _ _ rfl aI Tryz.kG (iR _) ?_);rw [Ii];obtain⟨kB,hkB⟩: ∃kB:Array Value,#[.int .u32 (wd f 0:Nat),.int .u32 (wd f 1:Nat),.int .u32 (wd f 2:Nat),.int .u32 (wd f 3:Nat)]=kB:=⟨_,rfl⟩;have hget:=Hi (λn (hn:n<4)=>show kB[n]?=some (.int .u32 (wd f n:Nat))by rw [<-hkB,<-Ii,List.getElem?_toArray];exact Ie 4 _ n hn);rw [hkB];go_loopw [6] (λi wr=> ∃n:Nat,n<=4/\i= .int .i64 n/\Aw wr w.heap.size 4 (λm=>if m<n then wd (iw f) m else wd f m)/\Aw wr (w.heap.size+1) 4 (λ_=>0)/\Below w.heap.size w wr) (λi _=>4-(intOf i).toNat);case atStart=>exact⟨0,Nat.zero_le _,rfl,aI.ext (λ_ _=>rfl),aA,ai⟩
 case round=>
  clear aI aA ai;obtain⟨n,hn,rfl,hK,hR,hB⟩:=hrel;by_cases hlt:n<4
  ·have hix: ∀V,(Instr.index 137 (.agg kB) (.int .i64 n)).run Tryz.prog V= .ok (.int .u32 (wd f n:Nat)) V:=λV=>
    O0 Tryz.kG Tryz.underlying70 rfl (by kernel_rfl) kB n _ hlt (hget.out n hlt) V
   have l0:=hl.out n hlt;have i1:(n:Int)<4:=(by omega);have k0:=Hi (hst.out n hlt);obtain⟨b0,b1,b2,b3,b4,b5,b6,b7⟩:=XC (wd f n) l0;go_wp2_with fail;refine(Uq (wb (wd f n) 0) _ (zz _ _)).mono ?_;rintro e v0 ⟨rfl,rfl⟩;go_wp2_with fail;refine(Uq (wb (wd f n) 1) _ (zz _ _)).mono ?_;rintro e v1 ⟨rfl,rfl⟩;go_wp2_with fail;refine(Uq (wb (wd f n) 2) _ (zz _ _)).mono ?_;rintro e v2 ⟨rfl,rfl⟩;go_wp2_with fail;refine(Uq (wb (wd f n) 3) _ (zz _ _)).mono ?_;rintro e v3 ⟨rfl,rfl⟩;go_wp2_with fail;refine(ad8 _ _ _ _ _ (Um _) (Um _) (Um _) (Um _)).mono ?_;rintro e v4 ⟨rfl,rfl⟩;rw [k0.out];have XX:=hK;have X5:=hR;have X6:=hB;clear hK hR hB;have dn:=((XX.set (j:=n) (v:=wd (iw f) n) (by omega) rfl).ext (λm _=>Q4 (wd f) (wd (iw f)) n m));have bI:=X5.far (p:=⟨w.heap.size,n,none⟩) (by simp) (.int .u32 (wd (iw f) n:Nat));have bD:=X6.setCell (p:=⟨w.heap.size,n,none⟩) (by simp) (.int .u32 (wd (iw f) n:Nat));obtain⟨c0,d0⟩:=XX n hlt;go_wp2_with fail;go_roundw;case rel=>exact⟨n+1,by omega,by go_num,dn,bI,bD⟩
   case measure=>simp [intOf];omega
  ·obtain rfl:n=4:=by omega
   have ja:=hK.ext (f':=wd (iw f)) (λj hj=>by rw [if_pos hj]);clear hK;go_wp2_with (first
    |(refine Ee rfl _ _ rfl _ _ _ rfl ja Tryz.kG (iR _) ?_)
    |(refine Nh rfl _ _ _ rfl _ _ _ (wd (iw f)) rfl rfl hR (iR _) ?_;intro w8 bg aY _ _))
   refine FL rfl rfl bg Tryz.kG (iR _) rfl ⟨rfl,?_⟩;exact hB.trans (aY.mono (by omega))
end
section
open Go.RowKit
def Km (n y:Nat):Nat:=if bk y<n then bk y else 0
theorem amE (n y:Nat) (hn:n<256) (hy:y<256):(if y=sb n then n else Km n y)=Km (n+1) y:=by
 unfold Km;by_cases h:y=sb n
 ·subst h;rw [if_pos rfl,Vn n hn,if_pos (by omega)]
 ·have h2:bk y≠n:=λe=>h (by rw [<-e,Vo y hy]);rw [if_neg h];by_cases h3:bk y<n
  ·rw [if_pos h3,if_pos (by omega)]
  ·rw [if_neg h3,if_neg (by omega)]
theorem amF (w:World) (h:eX w):
  Calls Tryz.prog 203 #[] w λe w'=>e= .returned (.agg (ae 256 bk).toArray)/\Below w.heap.size w w':=by
 have hz:=EI;have HX:=Hi h;clear h;obtain⟨w1,af,ak,au,iD⟩:=nA w 256 (λ_=>0) 33;obtain⟨w2,ag,-,ai,lu⟩:=fw ak au 256 (λ_=>0) 33;have aA:=bn ag iD;clear au iD;go_enter Tryz.func203,Tryz.ntmps203;go_upto_region 2 with fail;rw [<-af,<-ag];clear af ag ak;obtain⟨gL,jN⟩:=Le (w.heap.size+1);have yM:w.heap.size<gL:=by omega
 rw [jN]at lu;rw [jN];clear jN;go_wp2_with fail;go_loopw [3] (λi wr=> ∃n:Nat,n<=256/\i= .int .i64 n/\Ar wr w.heap.size 256 (λ_=>0)/\Ar wr gL 256 (Km n)/\Below w.heap.size w wr) (λi _=>256-(intOf i).toNat);case atStart=>exact⟨0,Nat.zero_le _,rfl,aA,lu.ext (λj _=>by unfold Km;rw [if_neg (by omega)]),ai⟩
 case round=>
  clear aA lu ai;obtain⟨n,hn,rfl,hR,hL,hB⟩:=hrel;by_cases hlt:n<256
  ·have i1:(n:Int)<256:=(by omega);have e1:(n:Int)%256=(n:Int):=(by omega);have HN:=Hi hlt;go_wp2_with fail;refine(Vu n _ HN.out (HX.out.keep hB)).mono ?_;rintro e v1 ⟨rfl,rfl⟩;have hsl:=vH n;have i2:((sb n:Nat):Int)<256:=(by omega);have hst:=Hi (λy hy=>amE n y HN.out hy);obtain⟨s,hs⟩:=Le (sb n);rw [hs]at hsl i2 hst⊢;clear hs;have nY:=(hL.set (j:=s) (v:=n) hsl rfl).ext (f':=Km (n+1)) (λy hy=>hst.out y hy);have bI:=hR.far (p:=⟨gL,s,none⟩) (by simp;omega) (.int .u8 (n:Nat));have bD:=hB.setCell (p:=⟨gL,s,none⟩) (by simp;omega) (.int .u8 (n:Nat));obtain⟨c0,d0⟩:=hL s hsl;clear hL hR hB;go_wp2_with fail;go_roundw;case rel=>exact⟨n+1,by omega,by go_num,bI,nY,bD⟩
   case measure=>simp [intOf];omega
  ·obtain rfl:n=256:=by omega
   have T9:=hL.ext (f':=bk) (λj hj=>by unfold Km;rw [if_pos (Jg j hj)]);clear hL;go_wp2_with (first
    |(refine bB rfl _ _ rfl _ _ _ rfl T9 Tryz.zY (ug _) ?_)
    |(refine bC rfl _ _ _ rfl _ _ _ bk rfl rfl hR (ug _) ?_;intro w8 bg aY _ _))
   refine dU rfl rfl bg Tryz.zY (ug _) rfl ⟨rfl,?_⟩;exact hB.trans (aY.mono (by omega))
theorem aeb (f:Nat->Nat) (w:World) (hf:aj f):
  Calls Tryz.prog 204 #[.agg #[.int .u32 (wd f 0:Nat),.int .u32 (wd f 1:Nat),.int .u32 (wd f 2:Nat),.int .u32 (wd f 3:Nat)],.agg (ae 256 bk).toArray] w λe w'=>e= .returned (.agg #[.int .u32 (wd (dX f) 0:Nat),.int .u32 (wd (dX f) 1:Nat),.int .u32 (wd (dX f) 2:Nat),.int .u32 (wd (dX f) 3:Nat)])/\Below w.heap.size w w':=by
 obtain⟨kL,Yj⟩:=Le ((ae 256 bk).toArray);obtain⟨w1,af⟩:=Lv (w.alloc (.cells #[.int .u32 (wd f 0:Nat),.int .u32 (wd f 1:Nat),.int .u32 (wd f 2:Nat),.int .u32 (wd f 3:Nat)] 137));have ak:=lh af;have au:=Bl af;have aN:Aw w1 w.heap.size 4 (wd f):=by rw [af];exact Aw.new w 4 (wd f) _
 obtain⟨w2,ag,aD,ai,lu⟩:=fw ak au 256 bk 33;have aI:=awa ag aN;obtain⟨w3,az⟩:=Lv (w2.alloc (.cells #[.int .u32 0,.int .u32 0,.int .u32 0,.int .u32 0] 137));have aU:=Bm az ai;have aL:Aw w3 (w.heap.size+2) 4 (λ_=>0):=by rw [az,<-aD];exact Aw.new w2 4 (λ_=>0) _
 have uF:=bn az lu;have dw:=awa az aI;rw [Yj]at ag;rw [Yj];clear au aN ai lu aI Yj;obtain⟨hl,hst⟩:=aB (λi hi=>p8 f i hf hi) (λi hi=>amn f i hf hi);clear hf;go_enter Tryz.func204,Tryz.ntmps204;go_upto_region 1 with fail;rw [<-af,<-ag,<-az];clear af ag az ak aD;obtain⟨gL,jN⟩:=Le (w.heap.size+1);obtain⟨gR,hgR⟩:=Le (w.heap.size+2);have rA:w.heap.size+1+1=gR:=hgR;have yM:w.heap.size<gL:=by omega
 have jD:gL<gR:=by omega
 rw [jN]at uF;rw [hgR]at aL;try rw [rA]
 try rw [hgR]
 try rw [jN]
 clear jN hgR rA;go_wp2_with (refine Ee rfl _ _ rfl _ _ _ rfl dw Tryz.kG (iR _) ?_);rw [Ii];obtain⟨kB,hkB⟩: ∃kB:Array Value,#[.int .u32 (wd f 0:Nat),.int .u32 (wd f 1:Nat),.int .u32 (wd f 2:Nat),.int .u32 (wd f 3:Nat)]=kB:=⟨_,rfl⟩;have hget:=Hi (λn (hn:n<4)=>show kB[n]?=some (.int .u32 (wd f n:Nat))by rw [<-hkB,<-Ii,List.getElem?_toArray];exact Ie 4 _ n hn);rw [hkB];go_loopw [8] (λi wr=> ∃n:Nat,n<=4/\i= .int .i64 n/\Ar wr gL 256 bk/\Aw wr w.heap.size 4 (λm=>if m<n then wd (dX f) m else wd f m)/\Aw wr gR 4 (λ_=>0)/\Below w.heap.size w wr) (λi _=>4-(intOf i).toNat);case atStart=>exact⟨0,Nat.zero_le _,rfl,uF,dw.ext (λ_ _=>rfl),aL,aU⟩
 case round=>
  clear dw uF aL aU;obtain⟨n,hn,rfl,hL,hK,hR,hB⟩:=hrel;by_cases hlt:n<4
  ·have hix: ∀V,(Instr.index 137 (.agg kB) (.int .i64 n)).run Tryz.prog V= .ok (.int .u32 (wd f n:Nat)) V:=λV=>
    O0 Tryz.kG Tryz.underlying70 rfl (by kernel_rfl) kB n _ hlt (hget.out n hlt) V
   have l0:=hl.out n hlt;have i1:(n:Int)<4:=(by omega);have k0:=Hi (hst.out n hlt);obtain⟨b0,b1,b2,b3,b4,b5,b6,b7⟩:=XC (wd f n) l0;go_upto_region 4 with fail;have X7:=λk=>zz (wd f n) k;have l0:=X7 0;have l1:=X7 1;have l2:=X7 2;have l3:=X7 3;clear X7 b0 b2 b3 b4;have sP:=k0.out;clear k0;generalize wb (wd f n) 0=y0 at*;generalize wb (wd f n) 1=y1 at*;generalize wb (wd f n) 2=y2 at*;generalize wb (wd f n) 3=y3 at*;have k0:=Hi sP;clear sP;have j0:((y0:Nat):Int)<256:=(by omega);have j1:((y1:Nat):Int)<256:=(by omega);have j2:((y2:Nat):Int)<256:=(by omega);have j3:((y3:Nat):Int)<256:=(by omega);have FM:=hK;clear hK;have Yo:=FM.drew;refine wp_region_held_drew (S:=λW=>Ar W gL 256 (bk)/\Aw W gR 4 (λ_=>0)/\Below w.heap.size w W) (by kernel_rfl) ⟨hL.drew,hR.drew,hB.drew⟩ (λaa=> ?_);clear hL hR hB FM;generalize World.drew wr=ad at*;refine ty 0 rfl ?_;refine ty 1 rfl ?_;refine ty 2 rfl ?_;refine ty 3 rfl ?_;refine ty 4 rfl ?_ (λW hSw=>by obtain⟨c,_⟩:=hSw.1 y0 l0;go_simp;try with_reducible rfl);refine ty 5 rfl ?_;refine ty 6 rfl ?_;refine ty 7 rfl ?_;refine ty 8 rfl ?_;refine ty 9 rfl ?_ (λW hSw=>by obtain⟨c,_⟩:=hSw.1 y1 l1;go_simp;try with_reducible rfl);refine ty 10 rfl ?_;refine ty 11 rfl ?_;refine ty 12 rfl ?_;refine ty 13 rfl ?_;refine ty 14 rfl ?_ (λW hSw=>by obtain⟨c,_⟩:=hSw.1 y2 l2;go_simp;try with_reducible rfl);refine ty 15 rfl ?_;refine ty 16 rfl ?_;refine ty 17 rfl ?_
   refine ty 18 rfl ?_ (λW hSw=>by obtain⟨c,_⟩:=hSw.1 y3 l3;go_simp;try with_reducible rfl);refine rd 19 rfl (λK hK=> ?_);go_simp;refine(XB (bk y0) (bk y1) (bk y2) (bk y3) _ (Jg _ l0) (Jg _ l1) (Jg _ l2) (Jg _ l3)).mono ?_;rintro e a20 ⟨rfl,rfl⟩;rw [k0.out];go_wp2_with fail;have Yk:=Yo;refine hK.out _ _ aa ?_;clear hK K aa Yo;intro aa;try simp only [nr]
   refine ty 20 rfl ?_;refine rd 21 rfl (λK hK=> ?_);obtain⟨Yz,YA⟩:=Yk n hlt;go_simp;have YB:=(Yk.set (j:=n) (v:=wd (dX f) n) hlt rfl);refine hK.out _ _ ⟨(aa.1).far (p:=⟨w.heap.size,n,none⟩) (by simp;omega) (.int .u32 (wd (dX f) n:Nat)),(aa.2.1).far (p:=⟨w.heap.size,n,none⟩) (by simp;omega) (.int .u32 (wd (dX f) n:Nat)),(aa.2.2).setCell (p:=⟨w.heap.size,n,none⟩) (by simp) (.int .u32 (wd (dX f) n:Nat))⟩ ?_;clear hK K aa Yz YA Yk;intro aa;generalize World.setCell a20 ⟨w.heap.size,n,none⟩ (.int .u32 (wd (dX f) n:Nat))=a22 at*;try simp only [Act.put]
   refine wpAnyH_done (by kernel_rfl) ?_ _;obtain⟨nY,bI,bD⟩:=aa;have dn:=YB;go_wp2_with fail;go_roundw;case rel=>exact⟨n+1,by omega,by go_num,nY,dn.ext (λm _=>Q4 (wd f) (wd (dX f)) n m),bI,bD⟩
   case measure=>simp [intOf];omega
  ·obtain rfl:n=4:=by omega
   have ja:=hK.ext (f':=wd (dX f)) (λj hj=>by rw [if_pos hj]);clear hK;go_wp2_with (first
    |(refine Ee rfl _ _ rfl _ _ _ rfl ja Tryz.kG (iR _) ?_)
    |(refine Nh rfl _ _ _ rfl _ _ _ (wd (dX f)) rfl rfl hR (iR _) ?_;intro w8 bg aY _ _))
   refine FL rfl rfl bg Tryz.kG (iR _) rfl ⟨rfl,?_⟩;exact hB.trans (aY.mono (by omega))
end
section
open Go.RowKit
theorem aec (f:Nat->Nat) (w:World) (hf:aj f):
  Calls Tryz.prog 109 #[.agg #[.int .u32 (wd f 0:Nat),.int .u32 (wd f 1:Nat),.int .u32 (wd f 2:Nat),.int .u32 (wd f 3:Nat)]] w λe w'=>e= .returned (.agg #[.int .u32 (wd (bf f) 0:Nat),.int .u32 (wd (bf f) 1:Nat),.int .u32 (wd (bf f) 2:Nat),.int .u32 (wd (bf f) 3:Nat)])/\Below w.heap.size w w':=by
 obtain⟨w1,af⟩:=Lv (w.alloc (.cells #[.int .u32 (wd f 0:Nat),.int .u32 (wd f 1:Nat),.int .u32 (wd f 2:Nat),.int .u32 (wd f 3:Nat)] 137));have ak:=lh af;have au:=Bl af;have aN:Aw w1 w.heap.size 4 (wd f):=by rw [af];exact Aw.new w 4 (wd f) _
 obtain⟨w2,ag⟩:=Lv (w1.alloc (.cells #[.int .u32 0,.int .u32 0,.int .u32 0,.int .u32 0] 137));have ai:=Bm ag au;have aA:Aw w2 (w.heap.size+1) 4 (λ_=>0):=by rw [ag,<-ak];exact Aw.new w1 4 (λ_=>0) _
 have aI:=awa ag aN;clear au aN;have l0:=p8 f 0 hf (by decide);have l1:=p8 f 1 hf (by decide);have l2:=p8 f 2 hf (by decide);have l3:=p8 f 3 hf (by decide);obtain⟨g0,g1,g2,g3⟩:=amg f hf;obtain⟨G0,G1,G2,G3⟩:=fU g0 g1 g2 g3;clear hf g0 g1 g2 g3;go_enter Tryz.func109,Tryz.ntmps109;go_upto_region 1 with fail;rw [<-af,<-ag];clear af ag ak;go_upto_region 1 with fail;have rU:=aA.drew;refine wp_region_held_drew (S:=λW=>Aw W w.heap.size 4 (wd f)/\Below w.heap.size w W) (by kernel_rfl) ⟨aI.drew,ai.drew⟩ (λaa=> ?_);clear aI aA ai;generalize w2.drew=YC at*;refine ty 0 rfl ?_;refine ty 1 rfl ?_ (λW hSw=>by obtain⟨c0,_⟩:=hSw.1 0 (by decide);obtain⟨c1,_⟩:=hSw.1 1 (by decide);obtain⟨c2,_⟩:=hSw.1 2 (by decide);obtain⟨c3,_⟩:=hSw.1 3 (by decide);go_simp;try with_reducible rfl);refine ty 2 rfl ?_;refine ty 3 rfl ?_ (λW hSw=>by obtain⟨c0,_⟩:=hSw.1 0 (by decide);obtain⟨c1,_⟩:=hSw.1 1 (by decide);obtain⟨c2,_⟩:=hSw.1 2 (by decide);obtain⟨c3,_⟩:=hSw.1 3 (by decide);go_simp;try with_reducible rfl);refine ty 4 rfl ?_;refine ty 5 rfl ?_ (λW hSw=>by obtain⟨c0,_⟩:=hSw.1 0 (by decide);obtain⟨c1,_⟩:=hSw.1 1 (by decide);obtain⟨c2,_⟩:=hSw.1 2 (by decide);obtain⟨c3,_⟩:=hSw.1 3 (by decide);go_simp;try with_reducible rfl);refine ty 6 rfl ?_;refine ty 7 rfl ?_ (λW hSw=>by obtain⟨c0,_⟩:=hSw.1 0 (by decide);obtain⟨c1,_⟩:=hSw.1 1 (by decide);obtain⟨c2,_⟩:=hSw.1 2 (by decide);obtain⟨c3,_⟩:=hSw.1 3 (by decide);go_simp;try with_reducible rfl);refine ty 9 rfl ?_
 refine ty 10 rfl ?_ (λW hSw=>by obtain⟨c0,_⟩:=hSw.1 0 (by decide);obtain⟨c1,_⟩:=hSw.1 1 (by decide);obtain⟨c2,_⟩:=hSw.1 2 (by decide);obtain⟨c3,_⟩:=hSw.1 3 (by decide);go_simp;try with_reducible rfl);refine ty 11 rfl ?_;refine ty 12 rfl ?_ (λW hSw=>by obtain⟨c0,_⟩:=hSw.1 0 (by decide);obtain⟨c1,_⟩:=hSw.1 1 (by decide);obtain⟨c2,_⟩:=hSw.1 2 (by decide);obtain⟨c3,_⟩:=hSw.1 3 (by decide);go_simp;try with_reducible rfl);refine ty 13 rfl ?_;refine ty 14 rfl ?_ (λW hSw=>by obtain⟨c0,_⟩:=hSw.1 0 (by decide);obtain⟨c1,_⟩:=hSw.1 1 (by decide);obtain⟨c2,_⟩:=hSw.1 2 (by decide);obtain⟨c3,_⟩:=hSw.1 3 (by decide);go_simp;try with_reducible rfl);refine ty 15 rfl ?_;refine ty 16 rfl ?_ (λW hSw=>by obtain⟨c0,_⟩:=hSw.1 0 (by decide);obtain⟨c1,_⟩:=hSw.1 1 (by decide);obtain⟨c2,_⟩:=hSw.1 2 (by decide);obtain⟨c3,_⟩:=hSw.1 3 (by decide);go_simp;try with_reducible rfl);refine ty 18 rfl ?_;refine ty 19 rfl ?_ (λW hSw=>by obtain⟨c0,_⟩:=hSw.1 0 (by decide);obtain⟨c1,_⟩:=hSw.1 1 (by decide);obtain⟨c2,_⟩:=hSw.1 2 (by decide);obtain⟨c3,_⟩:=hSw.1 3 (by decide);go_simp;try with_reducible rfl);refine ty 20 rfl ?_;refine ty 21 rfl ?_ (λW hSw=>by obtain⟨c0,_⟩:=hSw.1 0 (by decide);obtain⟨c1,_⟩:=hSw.1 1 (by decide);obtain⟨c2,_⟩:=hSw.1 2 (by decide);obtain⟨c3,_⟩:=hSw.1 3 (by decide);go_simp;try with_reducible rfl);refine ty 22 rfl ?_
 refine ty 23 rfl ?_ (λW hSw=>by obtain⟨c0,_⟩:=hSw.1 0 (by decide);obtain⟨c1,_⟩:=hSw.1 1 (by decide);obtain⟨c2,_⟩:=hSw.1 2 (by decide);obtain⟨c3,_⟩:=hSw.1 3 (by decide);go_simp;try with_reducible rfl);refine ty 24 rfl ?_;refine ty 25 rfl ?_ (λW hSw=>by obtain⟨c0,_⟩:=hSw.1 0 (by decide);obtain⟨c1,_⟩:=hSw.1 1 (by decide);obtain⟨c2,_⟩:=hSw.1 2 (by decide);obtain⟨c3,_⟩:=hSw.1 3 (by decide);go_simp;try with_reducible rfl);refine ty 27 rfl ?_;refine ty 28 rfl ?_ (λW hSw=>by obtain⟨c0,_⟩:=hSw.1 0 (by decide);obtain⟨c1,_⟩:=hSw.1 1 (by decide);obtain⟨c2,_⟩:=hSw.1 2 (by decide);obtain⟨c3,_⟩:=hSw.1 3 (by decide);go_simp;try with_reducible rfl);refine ty 29 rfl ?_;refine ty 30 rfl ?_ (λW hSw=>by obtain⟨c0,_⟩:=hSw.1 0 (by decide);obtain⟨c1,_⟩:=hSw.1 1 (by decide);obtain⟨c2,_⟩:=hSw.1 2 (by decide);obtain⟨c3,_⟩:=hSw.1 3 (by decide);go_simp;try with_reducible rfl);refine ty 31 rfl ?_;refine ty 32 rfl ?_ (λW hSw=>by obtain⟨c0,_⟩:=hSw.1 0 (by decide);obtain⟨c1,_⟩:=hSw.1 1 (by decide);obtain⟨c2,_⟩:=hSw.1 2 (by decide);obtain⟨c3,_⟩:=hSw.1 3 (by decide);go_simp;try with_reducible rfl);refine ty 33 rfl ?_;refine ty 34 rfl ?_ (λW hSw=>by obtain⟨c0,_⟩:=hSw.1 0 (by decide);obtain⟨c1,_⟩:=hSw.1 1 (by decide);obtain⟨c2,_⟩:=hSw.1 2 (by decide);obtain⟨c3,_⟩:=hSw.1 3 (by decide);go_simp;try with_reducible rfl);refine rd 8 rfl (λK hK=> ?_);go_simp;refine(Ih _ _ _ _ _ (by assumption) (by assumption) (by assumption) (by assumption)).mono ?_;rintro e YK ⟨rfl,rfl⟩;rw [G0.out]
 go_wp2_with fail;refine hK.out _ _ aa ?_;clear hK K aa;intro aa;try simp only [nr]
 refine rd 17 rfl (λK hK=> ?_);go_simp;refine(Ih _ _ _ _ _ (by assumption) (by assumption) (by assumption) (by assumption)).mono ?_;rintro e YL ⟨rfl,rfl⟩;rw [G1.out];go_wp2_with fail;refine hK.out _ _ aa ?_;clear hK K aa;intro aa;try simp only [nr]
 refine rd 26 rfl (λK hK=> ?_);go_simp;refine(Ih _ _ _ _ _ (by assumption) (by assumption) (by assumption) (by assumption)).mono ?_;rintro e YM ⟨rfl,rfl⟩;rw [G2.out];go_wp2_with fail;refine hK.out _ _ aa ?_;clear hK K aa;intro aa;try simp only [nr]
 refine rd 35 rfl (λK hK=> ?_);go_simp;refine(Ih _ _ _ _ _ (by assumption) (by assumption) (by assumption) (by assumption)).mono ?_;rintro e YN ⟨rfl,rfl⟩;rw [G3.out];go_wp2_with fail;refine hK.out _ _ aa ?_;clear hK K aa;intro aa;try simp only [nr]
 refine ty 36 rfl ?_;refine rd 37 rfl (λK hK=> ?_);rw [if_pos (by rfl)];refine wp_store_mid _ _ _ rfl (w.heap.size+1) 0 (dA 4 (wd (bf f))).toArray rfl rfl rU.there (iR _) (all_oneCell_toArray (Ig 4 (wd (bf f)))) ?_;have bI:=rU.whole (wd (bf f));have dn:=(aa.1).apart (b:=w.heap.size+1) (by omega) (dA 4 (wd (bf f))) 0;have bD:=(aa.2).trans (Below.setCells (Below.refl w.heap.size _) (b:=w.heap.size+1) (by omega) (dA 4 (wd (bf f))) 0);clear aa;dsimp only [List.toList_toArray];generalize World.setCells _ (w.heap.size+1) 0 (dA 4 (wd (bf f)))=w9 at*;refine hK.out _ _ ⟨dn,bD⟩ (λaa=> ?_);clear hK;try simp only [Act.put]
 refine wpAnyH_done (by kernel_rfl) ?_ _;go_wp2_with fail;refine FL rfl rfl bI Tryz.kG (iR _) rfl ⟨rfl,bD⟩
theorem aed (f:Nat->Nat) (w:World) (hf:aj f):
  Calls Tryz.prog 205 #[.agg #[.int .u32 (wd f 0:Nat),.int .u32 (wd f 1:Nat),.int .u32 (wd f 2:Nat),.int .u32 (wd f 3:Nat)]] w λe w'=>e= .returned (.agg #[.int .u32 (wd (eU f) 0:Nat),.int .u32 (wd (eU f) 1:Nat),.int .u32 (wd (eU f) 2:Nat),.int .u32 (wd (eU f) 3:Nat)])/\Below w.heap.size w w':=by
 obtain⟨w1,af⟩:=Lv (w.alloc (.cells #[.int .u32 (wd f 0:Nat),.int .u32 (wd f 1:Nat),.int .u32 (wd f 2:Nat),.int .u32 (wd f 3:Nat)] 137));have ak:=lh af;have au:=Bl af;have aN:Aw w1 w.heap.size 4 (wd f):=by rw [af];exact Aw.new w 4 (wd f) _
 obtain⟨w2,ag⟩:=Lv (w1.alloc (.cells #[.int .u32 0,.int .u32 0,.int .u32 0,.int .u32 0] 137));have ai:=Bm ag au;have aA:Aw w2 (w.heap.size+1) 4 (λ_=>0):=by rw [ag,<-ak];exact Aw.new w1 4 (λ_=>0) _
 have aI:=awa ag aN;clear au aN;have l0:=p8 f 0 hf (by decide);have l1:=p8 f 1 hf (by decide);have l2:=p8 f 2 hf (by decide);have l3:=p8 f 3 hf (by decide);obtain⟨g0,g1,g2,g3⟩:=amh f hf;obtain⟨G0,G1,G2,G3⟩:=fU g0 g1 g2 g3;clear hf g0 g1 g2 g3;go_enter Tryz.func205,Tryz.ntmps205;go_upto_region 1 with fail;rw [<-af,<-ag];clear af ag ak;go_upto_region 1 with fail;have rU:=aA.drew;refine wp_region_held_drew (S:=λW=>Aw W w.heap.size 4 (wd f)/\Below w.heap.size w W) (by kernel_rfl) ⟨aI.drew,ai.drew⟩ (λaa=> ?_);clear aI aA ai;generalize w2.drew=YC at*;refine ty 0 rfl ?_;refine ty 1 rfl ?_ (λW hSw=>by obtain⟨c0,_⟩:=hSw.1 0 (by decide);obtain⟨c1,_⟩:=hSw.1 1 (by decide);obtain⟨c2,_⟩:=hSw.1 2 (by decide);obtain⟨c3,_⟩:=hSw.1 3 (by decide);go_simp;try with_reducible rfl);refine ty 2 rfl ?_;refine ty 3 rfl ?_ (λW hSw=>by obtain⟨c0,_⟩:=hSw.1 0 (by decide);obtain⟨c1,_⟩:=hSw.1 1 (by decide);obtain⟨c2,_⟩:=hSw.1 2 (by decide);obtain⟨c3,_⟩:=hSw.1 3 (by decide);go_simp;try with_reducible rfl);refine ty 4 rfl ?_;refine ty 5 rfl ?_ (λW hSw=>by obtain⟨c0,_⟩:=hSw.1 0 (by decide);obtain⟨c1,_⟩:=hSw.1 1 (by decide);obtain⟨c2,_⟩:=hSw.1 2 (by decide);obtain⟨c3,_⟩:=hSw.1 3 (by decide);go_simp;try with_reducible rfl);refine ty 6 rfl ?_;refine ty 7 rfl ?_ (λW hSw=>by obtain⟨c0,_⟩:=hSw.1 0 (by decide);obtain⟨c1,_⟩:=hSw.1 1 (by decide);obtain⟨c2,_⟩:=hSw.1 2 (by decide);obtain⟨c3,_⟩:=hSw.1 3 (by decide);go_simp;try with_reducible rfl);refine ty 9 rfl ?_
 refine ty 10 rfl ?_ (λW hSw=>by obtain⟨c0,_⟩:=hSw.1 0 (by decide);obtain⟨c1,_⟩:=hSw.1 1 (by decide);obtain⟨c2,_⟩:=hSw.1 2 (by decide);obtain⟨c3,_⟩:=hSw.1 3 (by decide);go_simp;try with_reducible rfl);refine ty 11 rfl ?_;refine ty 12 rfl ?_ (λW hSw=>by obtain⟨c0,_⟩:=hSw.1 0 (by decide);obtain⟨c1,_⟩:=hSw.1 1 (by decide);obtain⟨c2,_⟩:=hSw.1 2 (by decide);obtain⟨c3,_⟩:=hSw.1 3 (by decide);go_simp;try with_reducible rfl);refine ty 13 rfl ?_;refine ty 14 rfl ?_ (λW hSw=>by obtain⟨c0,_⟩:=hSw.1 0 (by decide);obtain⟨c1,_⟩:=hSw.1 1 (by decide);obtain⟨c2,_⟩:=hSw.1 2 (by decide);obtain⟨c3,_⟩:=hSw.1 3 (by decide);go_simp;try with_reducible rfl);refine ty 15 rfl ?_;refine ty 16 rfl ?_ (λW hSw=>by obtain⟨c0,_⟩:=hSw.1 0 (by decide);obtain⟨c1,_⟩:=hSw.1 1 (by decide);obtain⟨c2,_⟩:=hSw.1 2 (by decide);obtain⟨c3,_⟩:=hSw.1 3 (by decide);go_simp;try with_reducible rfl);refine ty 18 rfl ?_;refine ty 19 rfl ?_ (λW hSw=>by obtain⟨c0,_⟩:=hSw.1 0 (by decide);obtain⟨c1,_⟩:=hSw.1 1 (by decide);obtain⟨c2,_⟩:=hSw.1 2 (by decide);obtain⟨c3,_⟩:=hSw.1 3 (by decide);go_simp;try with_reducible rfl);refine ty 20 rfl ?_;refine ty 21 rfl ?_ (λW hSw=>by obtain⟨c0,_⟩:=hSw.1 0 (by decide);obtain⟨c1,_⟩:=hSw.1 1 (by decide);obtain⟨c2,_⟩:=hSw.1 2 (by decide);obtain⟨c3,_⟩:=hSw.1 3 (by decide);go_simp;try with_reducible rfl);refine ty 22 rfl ?_
 refine ty 23 rfl ?_ (λW hSw=>by obtain⟨c0,_⟩:=hSw.1 0 (by decide);obtain⟨c1,_⟩:=hSw.1 1 (by decide);obtain⟨c2,_⟩:=hSw.1 2 (by decide);obtain⟨c3,_⟩:=hSw.1 3 (by decide);go_simp;try with_reducible rfl);refine ty 24 rfl ?_;refine ty 25 rfl ?_ (λW hSw=>by obtain⟨c0,_⟩:=hSw.1 0 (by decide);obtain⟨c1,_⟩:=hSw.1 1 (by decide);obtain⟨c2,_⟩:=hSw.1 2 (by decide);obtain⟨c3,_⟩:=hSw.1 3 (by decide);go_simp;try with_reducible rfl);refine ty 27 rfl ?_;refine ty 28 rfl ?_ (λW hSw=>by obtain⟨c0,_⟩:=hSw.1 0 (by decide);obtain⟨c1,_⟩:=hSw.1 1 (by decide);obtain⟨c2,_⟩:=hSw.1 2 (by decide);obtain⟨c3,_⟩:=hSw.1 3 (by decide);go_simp;try with_reducible rfl);refine ty 29 rfl ?_;refine ty 30 rfl ?_ (λW hSw=>by obtain⟨c0,_⟩:=hSw.1 0 (by decide);obtain⟨c1,_⟩:=hSw.1 1 (by decide);obtain⟨c2,_⟩:=hSw.1 2 (by decide);obtain⟨c3,_⟩:=hSw.1 3 (by decide);go_simp;try with_reducible rfl);refine ty 31 rfl ?_;refine ty 32 rfl ?_ (λW hSw=>by obtain⟨c0,_⟩:=hSw.1 0 (by decide);obtain⟨c1,_⟩:=hSw.1 1 (by decide);obtain⟨c2,_⟩:=hSw.1 2 (by decide);obtain⟨c3,_⟩:=hSw.1 3 (by decide);go_simp;try with_reducible rfl);refine ty 33 rfl ?_;refine ty 34 rfl ?_ (λW hSw=>by obtain⟨c0,_⟩:=hSw.1 0 (by decide);obtain⟨c1,_⟩:=hSw.1 1 (by decide);obtain⟨c2,_⟩:=hSw.1 2 (by decide);obtain⟨c3,_⟩:=hSw.1 3 (by decide);go_simp;try with_reducible rfl);refine rd 8 rfl (λK hK=> ?_);go_simp;refine(Ih _ _ _ _ _ (by assumption) (by assumption) (by assumption) (by assumption)).mono ?_;rintro e YO ⟨rfl,rfl⟩;rw [G0.out]
 go_wp2_with fail;refine hK.out _ _ aa ?_;clear hK K aa;intro aa;try simp only [nr]
 refine rd 17 rfl (λK hK=> ?_);go_simp;refine(Ih _ _ _ _ _ (by assumption) (by assumption) (by assumption) (by assumption)).mono ?_;rintro e YP ⟨rfl,rfl⟩;rw [G1.out];go_wp2_with fail;refine hK.out _ _ aa ?_;clear hK K aa;intro aa;try simp only [nr]
 refine rd 26 rfl (λK hK=> ?_);go_simp;refine(Ih _ _ _ _ _ (by assumption) (by assumption) (by assumption) (by assumption)).mono ?_;rintro e YQ ⟨rfl,rfl⟩;rw [G2.out];go_wp2_with fail;refine hK.out _ _ aa ?_;clear hK K aa;intro aa;try simp only [nr]
 refine rd 35 rfl (λK hK=> ?_);go_simp;refine(Ih _ _ _ _ _ (by assumption) (by assumption) (by assumption) (by assumption)).mono ?_;rintro e YR ⟨rfl,rfl⟩;rw [G3.out];go_wp2_with fail;refine hK.out _ _ aa ?_;clear hK K aa;intro aa;try simp only [nr]
 refine ty 36 rfl ?_;refine rd 37 rfl (λK hK=> ?_);rw [if_pos (by rfl)];refine wp_store_mid _ _ _ rfl (w.heap.size+1) 0 (dA 4 (wd (eU f))).toArray rfl rfl rU.there (iR _) (all_oneCell_toArray (Ig 4 (wd (eU f)))) ?_;have bI:=rU.whole (wd (eU f));have dn:=(aa.1).apart (b:=w.heap.size+1) (by omega) (dA 4 (wd (eU f))) 0;have bD:=(aa.2).trans (Below.setCells (Below.refl w.heap.size _) (b:=w.heap.size+1) (by omega) (dA 4 (wd (eU f))) 0);clear aa;dsimp only [List.toList_toArray];generalize World.setCells _ (w.heap.size+1) 0 (dA 4 (wd (eU f)))=w9 at*;refine hK.out _ _ ⟨dn,bD⟩ (λaa=> ?_);clear hK;try simp only [Act.put]
 refine wpAnyH_done (by kernel_rfl) ?_ _;go_wp2_with fail;refine FL rfl rfl bI Tryz.kG (iR _) rfl ⟨rfl,bD⟩
end
section
open Go.RowKit
def uD (f T:Nat->Nat) (b:Bool) (j:Nat):Value:=if j<16 then n8 (f j)else if j<60 then w32 (T (j-16))else .bool b
theorem amG (f:Nat->Nat):Tryz.prog.built 140 [(0,.agg (ae 16 f).toArray),(2,.bool true)]=some (av 61 (uD f (λ_=>0) true)).toArray:=by kernel_rfl
theorem amH (f:Nat->Nat) (w:World):(Instr.build 140 #[(0,.agg (ae 16 f).toArray),(2,.bool true)]).run Tryz.prog w= .ok (.agg (av 61 (uD f (λ_=>0) true)).toArray) w:=
 run_build w _ _ _ (amG f)
def AQ (f:Nat->Nat) (n m:Nat):Nat:=if m/4<n then wd (rk f (m/4)) (m%4)else 0
def Ci (w:World) (g:Nat) (f:Nat->Nat):Prop:=Cx w g 61 (uD f (AQ f 11) true)
theorem amI (f T:Nat->Nat) (b:Bool) (j:Nat) (v:Value) (h:(ae 16 f)[j]?=some v):uD f T b (0+j)=v:=by
 obtain⟨h1,rfl⟩:=xM h;unfold uD;rw [if_pos (by omega),Nat.zero_add]
theorem amJ (f T:Nat->Nat) (b:Bool) (r:Nat) (hr:r<11) (W:Nat->Nat) (hW: ∀k,k<4->T (4*r+k)=W k) (j:Nat) (v:Value) (h:(dA 4 W)[j]?=some v):uD f T b (16+r*4+j)=v:=by
 obtain⟨h1,rfl⟩:=ad3 h;unfold uD;rw [if_neg (by omega),if_pos (by omega),show 16+r*4+j-16=4*r+j by omega,hW j h1]
theorem Ci.there {w:World} {g:Nat} {f:Nat->Nat} (h:Ci w g f) (r:Nat) (hr:r<11):w.rangeAt g (16+r*4) (dA 4 (wd (rk f r))):=
 Cx.range h _ _ (by rw [Ic];omega) (amJ _ _ _ r hr _ (λk hk=>by unfold AQ;rw [show(4*r+k)/4=r by omega,show(4*r+k)%4=k by omega,if_pos hr]))
theorem Ci.key {w:World} {g:Nat} {f:Nat->Nat} (h:Ci w g f):w.rangeAt g 0 (ae 16 f):=Cx.range h _ _ (by rw [bz];omega) (amI _ _ _)
theorem Ci.ready {w:World} {g:Nat} {f:Nat->Nat} (h:Ci w g f):w.cell? ⟨g,60,none⟩=some (.bool true):=(h 60 (by decide)).1
theorem Ci.to {w w':World} {g:Nat} {f:Nat->Nat} (h:Ci w g f) (hb:Below w.heap.size w w'):Ci w' g f:=Cx.to h (by decide) hb
theorem Ci.keep {w w':World} {B g:Nat} {f:Nat->Nat} (h:Ci w g f) (hg:g<B) (hb:Below B w w'):Ci w' g f:=Cx.keep h hg hb
theorem Ci.drew {w:World} {g:Nat} {f:Nat->Nat} (h:Ci w g f):Ci w.drew g f:=h
theorem Ci.lt {w:World} {g:Nat} {f:Nat->Nat} (h:Ci w g f):g<w.heap.size:=Cx.lt h (by decide)
theorem amK (f T T':Nat->Nat) (b:Bool) (r:Nat) (hr:r<11) (W:Nat->Nat) (hT: ∀m,m<44->(if m/4=r then W (m%4)else T m)=T' m) (j:Nat) (hj:j<61):wV (uD f T b) (16+r*4) (dA 4 W) j=uD f T' b j:=by
 unfold wV;rw [Ic];by_cases hc:16+r*4<=j/\j<16+r*4+4
 ·rw [if_pos hc,Ie 4 W _ (by omega)];unfold uD;rw [if_neg (by omega),if_pos (by omega),<-hT _ (by omega),if_pos (by omega),show j-(16+r*4)=(j-16)%4 by omega];rfl
 ·rw [if_neg hc];unfold uD;split
  ·rfl
  ·split
   ·rw [<-hT _ (by omega),if_neg (by omega)]
   ·rfl
end
section
open Go.RowKit
theorem amL (f:Nat->Nat) (m:Nat):AQ f 0 m=0:=by simp [AQ]
theorem amM (f:Nat->Nat) (n m:Nat):(if m/4=n then wd (rk f n) (m%4)else AQ f n m)=AQ f (n+1) m:=by
 unfold AQ;by_cases h:m/4=n
 ·rw [if_pos h,if_pos (by omega),h]
 ·rw [if_neg h];by_cases h2:m/4<n
  ·rw [if_pos h2,if_pos (by omega)]
  ·rw [if_neg h2,if_neg (by omega)]
theorem akw (f:Nat->Nat) (w:World) (hf:aj f) (h:eX w):
  Calls Tryz.prog 26 #[.agg (ae 16 f).toArray] w λe w'=> ∃g,e= .returned (.pointer (some ⟨g,0,none⟩))/\w.heap.size<=g/\Ci w' g f/\Below w.heap.size w w':=by
 have hz:=jf;obtain⟨kA,aR⟩:=Le ((ae 16 f).toArray);obtain⟨w1,af,ak,au,aN⟩:=nA w 16 f 22;obtain⟨w2,ag⟩:=Lv (w1.alloc (.cells (av 61 (uD f (λ_=>0) true)).toArray 140));have ai:=Bm ag au;have eD:Cx w2 (w.heap.size+1) 61 (uD f (AQ f 0) true):=by
  have h0:Cx w2 (w.heap.size+1) 61 (uD f (λ_=>0) true):=by rw [ag,<-ak];exact Cx.new w1 61 _ _
  refine h0.ext (λj _=> ?_);unfold uD;simp only [amL]
 have aI:=bn ag aN;obtain⟨cA,hcA⟩:=Le ((av 61 (uD f (λ_=>0) true)).toArray);obtain⟨hbd,Jf⟩:=aB (amH f) aR;rw [aR]at af;rw [hcA]at ag hbd;rw [aR];clear aR hcA au;obtain⟨HF,HX⟩:=aB hf h;clear hf h;go_enter Tryz.func26,Tryz.ntmps26;go_upto_region 1 with fail;rw [<-af];clear af;go_upto_region 2 with (first
  |(refine bB rfl _ _ rfl _ _ _ rfl aN Tryz.aM (ay _) ?_)
  |(refine oH rfl _ _ rfl [(0,.agg (ae 16 f).toArray),(2,.bool true)] rfl _ (hbd.out _) ?_))
 rw [<-ag];obtain⟨gC,jW⟩:=Le (w.heap.size+1);have ve:w.heap.size<gC:=by omega
 rw [jW]at eD;try rw [jW]
 clear ag ak aN jW;go_wp2_with (refine bB rfl _ _ rfl _ _ _ rfl aI Tryz.aM (ay _) ?_);refine(amN f HF.out _ (HX.out.keep ai)).mono ?_;rintro e w3 ⟨rfl,hq⟩;have lV:=eD.to (by decide) hq;have aS:=Tq ai hq;clear eD ai aI hq hbd;go_wp2_with fail;obtain⟨hrow,qL⟩:=aB (λr=>mh (n:=16) (f:=λj=>ek f (r*16+j)) (g:=rk f r) (λj hj=>by rw [Nat.mul_comm r 16,Co f r j hj])) (λr=>wB f HF.out r);obtain⟨eA,Yl⟩:=Le ((ae 176 (ek f)).toArray);have YD:=Hi Yl;rw [Yl];clear Yl;go_loopw [11] (λi wr=> ∃n:Nat,n<=11/\i= .int .i64 n/\Cx wr gC 61 (uD f (AQ f n) true)/\Below w.heap.size w wr) (λi _=>11-(intOf i).toNat);case atStart=>exact⟨0,Nat.zero_le _,rfl,lV,aS⟩
 case round=>
  clear lV aS;obtain⟨n,hn,rfl,hC,hB⟩:=hrel;by_cases hlt:n<11
  ·have i1:(n:Int)<11:=(by omega);have hix: ∀V,(Instr.index 32 (.agg eA) (.int .i64 n)).run Tryz.prog V= .ok (.agg (ae 16 (rk f n)).toArray) V:=λV=>by
    have:=al4 (P:=Tryz.prog) (m:=16) Tryz.Q5 Tryz.aM (by kernel_rfl) (ek f) 176 n hlt (by omega) V;rw [hrow.out,YD.out]at this;exact this
   obtain⟨gR,hgR⟩:=Le (wr.heap.size);have jD:gC<gR:=(by rw [<-hgR];exact hC.lt (by decide));obtain⟨wa,XZ⟩:=Lv (wr.alloc (.cells (ae 16 λ_=>0).toArray 22));have xR:=tF XZ hgR;have QM:Cx wa gC 61 (uD f (AQ f n) true):=(by rw [XZ];exact hC.alloc (by decide) _);have hBa:=Bm XZ hB;clear hC hB;go_upto_region 5 with (first
    |(refine bC rfl _ _ _ rfl _ _ _ (rk f n) rfl rfl (by rw [<-XZ];exact xR) (ay _) ?_;intro wb hRb hbb hsb _)
    |fail)
   rw [<-XZ]at hbb hsb;have Yp:=QM.keep jD hbb;have hBb:=hBa.trans (hbb.mono (by omega));clear xR QM hBa hbb hsb XZ hgR hix;try dsimp only [Act.put]
   have Yq:=Yp.drew;refine wp_region_held_drew (S:=λW=>Ar W gR 16 (rk f n)/\Below w.heap.size w W) (by kernel_rfl) ⟨hRb.drew,hBb.drew⟩ (λaa=> ?_);clear hRb hBb Yp;generalize World.drew wb=ad at*;refine ty 0 rfl ?_;refine ty 1 rfl ?_;refine tm 2 (λW hSw=>hSw.1.range) Tryz.aM rfl (ay _) ?_;refine ty 4 rfl ?_;refine ty 5 rfl ?_;refine rq 3 rfl (XA (rk f n) _ (qL.out n)) aa ?_;clear aa;intro a5 hq aa;have Ym:=(Yq).to (by decide) hq;clear hq Yq;try simp only [nr]
   refine ty 6 rfl ?_;refine rd 7 rfl (λK hK=> ?_);rw [if_pos (by rfl)];refine wp_store_mid _ _ _ rfl gC (16+n*4) (dA 4 (wd (rk f n))).toArray rfl rfl (Ym.there (16+n*4) 4 (by omega)) (iR _) (all_oneCell_toArray (Ig 4 (wd (rk f n)))) ?_;have Yr:=Ym.put (16+n*4) (dA 4 (wd (rk f n))) (by rw [Ic];omega);dsimp only [List.toList_toArray];refine hK.out _ _ ⟨(aa.1).apart (b:=gC) (by omega) (dA 4 (wd (rk f n))) (16+n*4),(aa.2).trans (Below.setCells (Below.refl w.heap.size _) (b:=gC) (by omega) (dA 4 (wd (rk f n))) (16+n*4))⟩ ?_;clear hK K aa Ym;intro aa;generalize World.setCells a5 gC (16+n*4) (dA 4 (wd (rk f n)))=a7 at*;try simp only [Act.put]
   refine wpAnyH_done (by kernel_rfl) ?_ _;have uy:=Yr.ext (λj hj=>amK f (AQ f n) (AQ f (n+1)) true n hlt _ (λm _=>amM f n m) j hj);have bD:=aa.2;clear aa Yr;go_wp2_with fail;go_roundw;case rel=>exact⟨n+1,by omega,by go_num,uy,bD⟩
   case measure=>simp [intOf];omega
  ·obtain rfl:n=11:=by omega
   go_wp2_with fail;go_ret;exact⟨gC,rfl,by omega,hC,hB⟩
end
section
open Go.RowKit
def Ei (w:World) (v:Value) (f:Nat->Nat):Prop:= ∀V,Below w.heap.size w V->Calls Tryz.prog 106 #[v] V λe V'=> ∃g,e= .returned (.pointer (some ⟨g,0,none⟩))/\Ci V' g f/\(g<w.heap.size\/V.heap.size<=g)/\Below V.heap.size V V'
theorem Ei.to {w w':World} {v:Value} {f:Nat->Nat} (h:Ei w v f) (hb:Below w.heap.size w w'):Ei w' v f:=λV hV=>(h V (hb.trans (hV.mono hb.size))).mono λe V' ⟨g,h1,h2,h3,h4⟩=>⟨g,h1,h2,h3.imp (λh=>Nat.lt_of_lt_of_le h hb.size) id,h4⟩
theorem abQ (g:Nat) (f:Nat->Nat) (w:World) (h:Ci w g f):Ei w (.pointer (some ⟨g,0,none⟩)) f:=by
 intro V hV;have hc:=h.to hV;have c0:=hc.ready;have hl:=h.lt;clear h hV;go_enter Tryz.func106,Tryz.ntmps106;go_wp2_with fail;go_ret;exact⟨g,rfl,hc,Or.inl hl,Below.refl _ _⟩
end
section
open Go.RowKit
noncomputable def amO:Code:=((Tryz.f72.body.bind (yB 2)).getD .skip)
theorem amP (f b:Nat->Nat) (gB gC gR:Nat) {Q0:Exit->Act->World->Prop} {t1 t2 t5 t6 t7 t8 t9 t10 t11 t12 t13 t14 t15 t16 t17 t18 t19 t20 t21 t22 t23 t24 t25 t26 t27 t28 t29 t30 t31 t32 t33 t34 t35 t36 t37 t38 t39 t40:Value} {w W:World} (hb:aj b) (hk:aj (rk f 0)) (hlB:w.heap.size<=gB) (jD:gB<gR) (hbW:Ar W gB 16 b) (hCW:Ci W gC f) (xE:Ar W gR 16 (λ_=>0)) (hBW:Below w.heap.size w W)
  (hQ: ∀(gT:Nat) (w9:World) (u9 Ke Ea X8 Ya Yb Yc u16:Value),gR<gT->gC<gT->Aw w9 gT 4 (wd (ah b (rk f 0)))->Ar w9 gB 16 b->Ci w9 gC f->Ar w9 gR 16 (λ_=>0)->Below w.heap.size w w9->Q0 .normal ⟨(.pointer (some ⟨gC,0,none⟩)::t1::t2:: .pointer (some ⟨gB,0,none⟩):: .pointer (some ⟨gR,0,none⟩):: .pointer (some ⟨gT,0,none⟩)::t6::t7::t8::u9::Ke::Ea::X8::Ya::Yb::Yc::u16::t17::t18::t19::t20::t21::t22::t23::t24::t25::t26::t27::t28::t29::t30::t31::t32::t33::t34::t35::t36::t37::t38::t39::t40:: []).toArray,[]⟩ w9):
  Code.wp Tryz.prog amO Q0 ⟨(.pointer (some ⟨gC,0,none⟩)::t1::t2:: .pointer (some ⟨gB,0,none⟩):: .pointer (some ⟨gR,0,none⟩)::t5::t6::t7::t8::t9::t10::t11::t12::t13::t14::t15::t16::t17::t18::t19::t20::t21::t22::t23::t24::t25::t26::t27::t28::t29::t30::t31::t32::t33::t34::t35::t36::t37::t38::t39::t40:: []).toArray,[]⟩ W:=by
 have HQ:=Hi hQ;clear hQ;refine Code.wp_mono NoPanic.imp ?_
 conv=>arg 2;whnf
 refine wp_region_held_drew (S:=λW=>Ar W gB 16 (b)/\Ci W gC (f)/\Ar W gR 16 (λ_=>0)/\Below w.heap.size w W) (by kernel_rfl) ⟨hbW,hCW.drew,xE,hBW.drew⟩ (λaa=> ?_);clear hbW hCW xE hBW;generalize World.drew W=V at*;refine tm 0 (λW hSw=>hSw.1.range) Tryz.aM rfl (ay _) ?_;refine ty 2 rfl ?_;refine ty 3 rfl ?_;refine ty 4 rfl ?_;refine ty 5 rfl ?_;refine tk 6 (.agg (dA 4 (wd (rk f 0))).toArray) rfl (yieldsIf_load_mid (by rfl) _ _ rfl gC (16) rfl (dA 4 (wd (rk f 0))) _ (λW hSw=>(hSw.2.1).there 0 (by decide)) Tryz.kG rfl (iR _)) ?_;simp only [nr];repeat' (first
  | (
    refine kc aN (XA b _ hb) aa ?_;clear aN K aa;intro V hq aa;try replace XV:=XV.t hq
    clear hq;try simp only [nr])
  | (
    refine kc jE (Nj b (rk f 0) _ hb hk) aa ?_;clear jE K aa;intro V hq aa;try replace XV:=XV.t hq
    clear hq;try simp only [nr])
  | (
    have hK:=ja;clear ja;obtain⟨gT,XW⟩:=Le (V.heap.size);have YE:gR<gT:=(by rw [<-XW];exact(aa.2.2.1).lt (by omega));have YF:gC<gT:=(by rw [<-XW];exact(aa.2.1).lt);have hq:=Ba V (.cells #[.int .u32 0,.int .u32 0,.int .u32 0,.int .u32 0] 137);try replace XV:=Aw.new V 4 (λ_=>0) 137
    rw [XW]at XV;try replace XV:=XV.t hq
    go_simp;obtain⟨V,iG⟩:=Lv (V.alloc (.cells #[.int .u32 0,.int .u32 0,.int .u32 0,.int .u32 0] 137));try replace XV:Aw V gT 4 (λ_=>0):=by rw [iG];exact XV
    try replace XV:Aw V gT 4 (wd (ah b (rk f 0))):=by rw [iG];exact XV
    try rw [XW]
    rw [<-iG];refine hK.out _ _ (by rw [iG];exact⟨aa.1.t hq,aa.2.1.to hq,aa.2.2.1.t hq,Tq aa.2.2.2 hq⟩) ?_;clear hK K aa hq iG XW;intro aa;try simp only [nr])
  | (
    have hK:=dn;clear dn;rw [if_pos (by rfl)];refine wp_store_mid _ _ _ rfl gT 0 (dA 4 (wd (ah b (rk f 0)))).toArray rfl rfl XV.there (iR _) (all_oneCell_toArray (Ig 4 (wd (ah b (rk f 0))))) ?_;try replace XV:=XV.whole (wd (ah b (rk f 0)))
    dsimp only [List.toList_toArray];refine so hK (w:=V) (b:=gT) (o:=0) (vs:=(dA 4 (wd (ah b (rk f 0))))) aa ?_;clear hK K aa;intro aa;generalize World.setCells V gT 0 (dA 4 (wd (ah b (rk f 0))))=V at*;try simp only [Act.put])
  | (
    refine wpAnyH_ready (rs:= [1,8]) (by decide+kernel) (by simp) ?_;refine AllReadyH.cons rfl (λK aN=> ?_) (AllReadyH.cons rfl (λK ja=> ?_) AllReadyH.nil))
  | (
    refine wpAnyH_ready (rs:= [7,8]) (by decide+kernel) (by simp) ?_;refine AllReadyH.cons rfl (λK jE=> ?_) (AllReadyH.cons rfl (λK ja=> ?_) AllReadyH.nil))
  | (
    refine wpAnyH_ready (rs:= [8]) (by decide+kernel) (by simp) ?_;refine AllReadyH.cons rfl (λK ja=> ?_) AllReadyH.nil)
  | (
    refine wpAnyH_ready (rs:= [1]) (by decide+kernel) (by simp) ?_;refine AllReadyH.cons rfl (λK aN=> ?_) AllReadyH.nil)
  | (
    refine wpAnyH_ready (rs:= [7]) (by decide+kernel) (by simp) ?_;refine AllReadyH.cons rfl (λK jE=> ?_) AllReadyH.nil)
  | (
    refine wpAnyH_ready (rs:= [9]) (by decide+kernel) (by simp) ?_;refine AllReadyH.cons rfl (λK dn=> ?_) AllReadyH.nil))
 all_goals refine wpAnyH_done (by kernel_rfl) ?_ _
 all_goals
  exact NoPanic.normal (HQ.out gT V _ _ _ _ _ _ _ _ (by omega) (by omega) XV aa.1 aa.2.1 aa.2.2.1 aa.2.2.2)
theorem Kt (v:Value) (f b:Nat->Nat) (w:World) (hf:aj f) (hb:aj b) (hv:Ei w v f) (h:eX w):
  Calls Tryz.prog 72 #[v,.agg (ae 16 b).toArray] w λe w'=>e= .returned (.agg (ae 16 (aJ f b)).toArray)/\Below w.heap.size w w':=by
 have hz:=jf;obtain⟨kB,hkB⟩:=Le ((ae 16 b).toArray);obtain⟨w1,af,ak,au,aN⟩:=nA w 16 b 22;obtain⟨w2,ag,-,ai,aA⟩:=fw ak au 16 (λ_=>0) 22;have aI:=bn ag aN;obtain⟨HF,jc,HX,eB⟩:=fU hf hb h (hv w2 ai);rw [hkB]at af;rw [hkB];clear au aN hkB hf hb h hv;go_enter Tryz.func72,Tryz.ntmps72;go_upto_region 1 with fail;rw [<-af,<-ag];clear af ag ak;obtain⟨gB,hgB⟩:=Le (w.heap.size);obtain⟨gR,hgR⟩:=Le (w.heap.size+1);have hlB:w.heap.size<=gB:=by omega
 have jD:gB<gR:=by omega
 rw [hgR]at aA;rw [hgB]at aI;try rw [hgR]
 try simp only [hgB]
 clear hgR;go_wp2_with fail;refine eB.out.mono ?_;rintro e w3 ⟨gC,rfl,lV,hor,hq⟩;have YG:gC≠gR:=by have hs:=aA.lt (by omega);omega
 have aL:=aA.t hq;have dw:=aI.t hq;have aS:=Tq ai hq;clear aA aI ai hq eB;obtain⟨qL,hel⟩:=aB (λr=>wB f HF.out r) (fM HF.out jc.out);have hst:=Hi (show∀r,1<=r->r<10->ah (dm (bf (aZ (bF f b (r-1))))) (rk f r)=bF f b r from λr h1 h2=>by
  obtain⟨s,rfl⟩: ∃s,r=s+1:=⟨r-1,by omega⟩;rw [bF,if_pos h2,Nat.add_sub_cancel])
 have hlast:=Hi (show ah (bf (aZ (bF f b (10-1)))) (rk f 10)=aJ f b from rfl);go_upto_region 2 with fail;refine amP f b gB gC gR jc.out (qL.out 0) hlB jD dw lV aL aS ?_;intro gT w4 u9 Ke Ea X8 Ya Yb Yc u16 Gt YH jv je xu dO fD;clear dw lV aL aS je;go_wp2_with fail;go_loopw [6] (λi wr=> ∃r:Nat,1<=r/\r<=10/\i= .int .i64 r/\Aw wr gT 4 (wd (bF f b (r-1)))/\Ci wr gC f/\Ar wr gR 16 (λ_=>0)/\Below w.heap.size w wr) (λi _=>10-(intOf i).toNat);case atStart=>exact⟨1,by omega,by omega,rfl,jv,xu,dO,fD⟩
 case round=>
  clear jv xu dO fD;obtain⟨r,pM,hr,rfl,qz,mV,qV,jy⟩:=hrel;have ve:=mV.lt;by_cases hlt:r<10
  ·have i1:(r:Int)<10:=(by omega);have i2:(r:Int)<11:=(by omega);go_upto_region 6 with fail;have Yd:=qz;clear qz;have XY:=Yd.drew;refine wp_region_held_drew (S:=λW=>Ci W gC (f)/\Ar W gR 16 (λ_=>0)/\Below w.heap.size w W) (by kernel_rfl) ⟨mV.drew,qV.drew,jy.drew⟩ (λaa=> ?_);clear mV qV jy Yd;generalize World.drew wr=bd at*;refine ty 3 rfl ?_;refine ty 4 rfl ?_;refine ty 5 rfl ?_;refine ty 6 rfl ?_;refine ty 7 rfl ?_;refine tk 8 (.agg (dA 4 (wd (rk f r))).toArray) rfl (yieldsIf_load_mid (by rfl) _ _ rfl gC (16+r*4) rfl (dA 4 (wd (rk f r))) _ (λW hSw=>(hSw.1).there r (by omega)) Tryz.kG rfl (iR _)) ?_;simp only [nr];refine rd 0 rfl (λK hK=> ?_);rw [if_pos (by rfl)];refine wp_load_mid _ _ rfl gT 0 rfl (dA 4 (wd (bF f b (r-1)))) _ XY.range Tryz.kG rfl (iR _) ?_;refine hK.out _ _ aa ?_;clear hK K aa;intro aa;try simp only [nr]
   refine rq 1 rfl (aec (bF f b (r-1)) _ (hel.out _)) aa ?_;clear aa;intro b6 hq aa;have Ye:=XY.t hq;clear hq XY;try simp only [nr]
   refine rq 2 rfl (amC (bf (bF f b (r-1))) _ (Cn (hel.out _)) (HX.out.keep (aa.2.2))) aa ?_;clear aa;intro b7 hq aa;rw [show dm (aZ (bf (bF f b (r-1))))=dm (bf (aZ (bF f b (r-1))))from rfl];have Yf:=Ye.t hq;clear hq Ye;try simp only [nr]
   refine rq 9 rfl (Nj (dm (bf (aZ (bF f b (r-1))))) (rk f r) _ (Xa _) (qL.out r)) aa ?_;clear aa;intro b8 hq aa;have X0:=Yf.t hq;clear hq Yf;try simp only [nr]
   refine rd 10 rfl (λK hK=> ?_);rw [if_pos (by rfl)];refine wp_store_mid _ _ _ rfl gT 0 (dA 4 (wd (ah (dm (bf (aZ (bF f b (r-1))))) (rk f r)))).toArray rfl rfl X0.there (iR _) (all_oneCell_toArray (Ig 4 (wd (ah (dm (bf (aZ (bF f b (r-1))))) (rk f r))))) ?_;have X3:=X0.whole (wd (ah (dm (bf (aZ (bF f b (r-1))))) (rk f r)));dsimp only [List.toList_toArray];refine so hK (w:=b8) (b:=gT) (o:=0) (vs:=(dA 4 (wd (ah (dm (bf (aZ (bF f b (r-1))))) (rk f r))))) aa ?_;clear hK K aa X0;intro aa;generalize World.setCells b8 gT 0 (dA 4 (wd (ah (dm (bf (aZ (bF f b (r-1))))) (rk f r))))=b9 at*;try simp only [Act.put]
   refine wpAnyH_done (by kernel_rfl) ?_ _;obtain⟨uy,bI,bD⟩:=aa;have ig:=X3;clear X3;rw [hst.out r pM hlt]at ig;clear i2;go_wp2_with fail;go_roundw;case rel=>exact⟨r+1,by omega,by omega,by go_num,by rw [Nat.add_sub_cancel];exact ig,uy,bI,bD⟩
   case measure=>simp [intOf];omega
  ·obtain rfl:r=10:=by omega
   go_upto_region 7 with fail;have oK:=qV;clear qV;obtain⟨X9,pY⟩:=Le (bF f b (10-1));have hxl:=Hi (show aj X9 by rw [<-pY];exact hel.out _);have hlast:=hlast.out;rw [pY]at hlast qz;have hlast:=Hi hlast;obtain⟨K9,dn⟩:=Le (rk f 10);obtain⟨hkl,hrange⟩:=aB (show aj K9 by rw [<-dn];exact qL.out 10) (show∀W,Ci W gC f->W.rangeAt gC (16+10*4) (dA 4 (wd K9))from λW h=>by rw [<-dn];exact h.there 10 (by decide));rw [dn]at hlast;clear pY dn;have Yg:=oK.drew;refine wp_region_held_drew (S:=λW=>Ci W gC (f)/\Aw W gT 4 (wd X9)/\Below w.heap.size w W) (by kernel_rfl) ⟨mV.drew,qz.drew,jy.drew⟩ (λaa=> ?_);clear mV qz jy oK;generalize World.drew wr=cd at*;refine tm 0 (λW hSw=>hSw.2.1.range) Tryz.kG rfl (iR _) ?_;refine ty 3 rfl ?_;refine ty 4 rfl ?_;refine ty 5 rfl ?_;refine ty 6 rfl ?_;refine tk 7 (.agg (dA 4 (wd (K9))).toArray) rfl (yieldsIf_load_mid (by rfl) _ _ rfl gC (16+10*4) rfl (dA 4 (wd (K9))) _ (λW hSw=>hrange.out _ (hSw.1)) Tryz.kG rfl (iR _)) ?_;simp only [nr];refine rq 1 rfl (aec (X9) _ hxl.out) aa ?_;clear aa;intro c5 hq aa;have Yh:=Yg.t hq;clear hq Yg;try simp only [nr]
   refine rq 2 rfl (amA (bf (X9)) _ (Cn hxl.out) (HX.out.keep (aa.2.2))) aa ?_;clear aa;intro c6 hq aa;rw [show aZ (bf (X9))=bf (aZ (X9))from rfl];have X4:=Yh.t hq;clear hq Yh;try simp only [nr]
   refine rq 8 rfl (Nj (bf (aZ (X9))) (K9) _ (Cn (M0 _)) hkl.out) aa ?_;clear aa;intro c7 hq aa;have Yi:=X4.t hq;clear hq X4;try simp only [nr]
   refine rq 9 rfl (fjoin (ah (bf (aZ (X9))) (K9)) _ (dL (Cn (M0 _)) hkl.out)) aa ?_;clear aa;intro c8 hq aa;have Yn:=Yi.t hq;clear hq Yi;try simp only [nr]
   refine rd 10 rfl (λK hK=> ?_);rw [if_pos (by rfl)];refine wp_store_mid _ _ _ rfl gR 0 (ae 16 (ah (bf (aZ (X9))) (K9))).toArray rfl rfl Yn.there (ay _) (all_oneCell_toArray (dz 16 (ah (bf (aZ (X9))) (K9)))) ?_;have Yt:=Yn.whole (ah (bf (aZ (X9))) (K9));dsimp only [List.toList_toArray];refine so hK (w:=c8) (b:=gR) (o:=0) (vs:=(ae 16 (ah (bf (aZ (X9))) (K9)))) aa ?_;clear hK K aa Yn;intro aa;generalize World.setCells c8 gR 0 (ae 16 (ah (bf (aZ (X9))) (K9)))=c9 at*;try simp only [Act.put]
   refine wpAnyH_done (by kernel_rfl) ?_ _;have bD:=aa.2.2;have bI:=Yt;clear aa Yt;rw [hlast.out]at bI;go_wp2_with fail;refine dU rfl rfl bI Tryz.aM (ay _) rfl ⟨rfl,bD⟩
end
section
open Go.RowKit
def dS (f c:Nat->Nat):Nat->Nat->Nat
 |0=>dX (eU (ah c (rk f 10)))
 |k+1=>dX (eU (iw (ah (dS f c k) (rk f (9-k)))))
theorem amQ {f c:Nat->Nat} (hf:aj f) (hc:aj c): ∀k,aj (dS f c k)
 |0=>MS (AB (dL hc (wB f hf 10)))
 |k+1=>MS (AB (Hq _))
theorem aee (f c:Nat->Nat): ∀k,k<=9->sV f (9-k) (dS f c k)=pQ f c
 |0,_=>rfl
 |k+1,h=>by
  rw [<-aee f c k (by omega)];obtain⟨m,hm⟩: ∃m,9-k=m+1:=⟨8-k,by omega⟩;rw [hm,show 9-(k+1)=m by omega,sV,if_pos (by omega),dS,hm]
theorem amR (f c:Nat->Nat) (r q:Nat) (h:r=q+1) (hr:r<=9):dX (eU (iw (ah (dS f c (9-r)) (rk f r))))=dS f c (9-q):=by
 obtain⟨k,hk⟩: ∃k,9-q=k+1:=⟨8-q,by omega⟩;rw [hk,dS,show 9-r=k by omega,show 9-k=r by omega]
theorem amS (f c:Nat->Nat):ah (dS f c 9) (rk f 0)=pQ f c:=aee f c 9 (Nat.le_refl _)
noncomputable def amT:Code:=((Tryz.f167.body.bind (yB 3)).getD .skip)
theorem amU (f b K9:Nat->Nat) (gB gC gR gL:Nat) {Q0:Exit->Act->World->Prop} {t1 t2 t6 t7 t8 t9 t10 t11 t12 t13 t14 t15 t16 t17 t18 t19 t20 t21 t22 t23 t24 t25 t26 t27 t28 t29 t30 t31 t32 t33 t34 t35 t36 t37 t38 t39 t40 t41 t42 t43 t44 t45:Value} {w W:World} (hb:aj b) (hk:aj K9) (hlB:w.heap.size<=gB) (jD:gB<gR) (yM:gR<gL) (hrange: ∀W,Ci W gC f->W.rangeAt gC (16+10*4) (dA 4 (wd K9))) (hbW:Ar W gB 16 b) (hCW:Ci W gC f) (xE:Ar W gR 16 (λ_=>0)) (H5:Ar W gL 256 bk) (hBW:Below w.heap.size w W)
  (hQ: ∀(gT:Nat) (w9:World) (Ea X8 Ya Yb Yc u16 FJ Xf Yu u20 u21:Value),gL<gT->gC<gT->Aw w9 gT 4 (wd (dX (eU (ah b K9))))->Ar w9 gB 16 b->Ci w9 gC f->Ar w9 gR 16 (λ_=>0)->Ar w9 gL 256 bk->Below w.heap.size w w9->Q0 .normal ⟨(.pointer (some ⟨gC,0,none⟩)::t1::t2:: .pointer (some ⟨gB,0,none⟩):: .pointer (some ⟨gR,0,none⟩):: .pointer (some ⟨gL,0,none⟩):: .pointer (some ⟨gT,0,none⟩)::t7::t8::t9::t10::Ea::X8::Ya::Yb::Yc::u16::FJ::Xf::Yu::u20::u21::t22::t23::t24::t25::t26::t27::t28::t29::t30::t31::t32::t33::t34::t35::t36::t37::t38::t39::t40::t41::t42::t43::t44::t45:: []).toArray,[]⟩ w9):
  Code.wp Tryz.prog amT Q0 ⟨(.pointer (some ⟨gC,0,none⟩)::t1::t2:: .pointer (some ⟨gB,0,none⟩):: .pointer (some ⟨gR,0,none⟩):: .pointer (some ⟨gL,0,none⟩)::t6::t7::t8::t9::t10::t11::t12::t13::t14::t15::t16::t17::t18::t19::t20::t21::t22::t23::t24::t25::t26::t27::t28::t29::t30::t31::t32::t33::t34::t35::t36::t37::t38::t39::t40::t41::t42::t43::t44::t45:: []).toArray,[]⟩ W:=by
 have HQ:=Hi hQ;clear hQ;refine Code.wp_mono NoPanic.imp ?_
 conv=>arg 2;whnf
 refine wp_region_held_drew (S:=λW=>Ar W gB 16 (b)/\Ci W gC (f)/\Ar W gR 16 (λ_=>0)/\Ar W gL 256 (bk)/\Below w.heap.size w W) (by kernel_rfl) ⟨hbW,hCW.drew,xE,H5,hBW.drew⟩ (λaa=> ?_);clear hbW hCW xE H5 hBW;generalize World.drew W=V at*;refine tm 0 (λW hSw=>hSw.1.range) Tryz.aM rfl (ay _) ?_;refine ty 2 rfl ?_;refine ty 3 rfl ?_;refine ty 4 rfl ?_;refine ty 5 rfl ?_;refine tk 6 (.agg (dA 4 (wd K9)).toArray) rfl (yieldsIf_load_mid (by rfl) _ _ rfl gC (16+10*4) rfl (dA 4 (wd K9)) _ (λW hSw=>hrange _ (hSw.2.1)) Tryz.kG rfl (iR _)) ?_;simp only [nr];refine tm 9 (λW hSw=>hSw.2.2.2.1.range) Tryz.zY rfl (ug _) ?_;repeat' (first
  | (
    refine kc aN (XA b _ hb) aa ?_;clear aN K aa;intro V hq aa;try replace XV:=XV.t hq
    clear hq;try simp only [nr])
  | (
    refine kc jE (Nj b K9 _ hb hk) aa ?_;clear jE K aa;intro V hq aa;try replace XV:=XV.t hq
    clear hq;try simp only [nr])
  | (
    refine kc ja (aed (ah b K9) _ (dL hb hk)) aa ?_;clear ja K aa;intro V hq aa;try replace XV:=XV.t hq
    clear hq;try simp only [nr])
  | (
    refine kc wR (aeb (eU (ah b K9)) _ (AB (dL hb hk))) aa ?_;clear wR K aa;intro V hq aa;try replace XV:=XV.t hq
    clear hq;try simp only [nr])
  | (
    have hK:=AA;clear AA;obtain⟨gT,XW⟩:=Le (V.heap.size);have YE:gR<gT:=(by rw [<-XW];exact(aa.2.2.1).lt (by omega));have YS:gL<gT:=(by rw [<-XW];exact(aa.2.2.2.1).lt (by omega));have YF:gC<gT:=(by rw [<-XW];exact(aa.2.1).lt);have hq:=Ba V (.cells #[.int .u32 0,.int .u32 0,.int .u32 0,.int .u32 0] 137);try replace XV:=Aw.new V 4 (λ_=>0) 137
    rw [XW]at XV;try replace XV:=XV.t hq
    go_simp;obtain⟨V,iG⟩:=Lv (V.alloc (.cells #[.int .u32 0,.int .u32 0,.int .u32 0,.int .u32 0] 137));try replace XV:Aw V gT 4 (λ_=>0):=by rw [iG];exact XV
    try replace XV:Aw V gT 4 (wd (dX (eU (ah b K9)))):=by rw [iG];exact XV
    try rw [XW]
    rw [<-iG];refine hK.out _ _ (by rw [iG];exact⟨aa.1.t hq,aa.2.1.to hq,aa.2.2.1.t hq,aa.2.2.2.1.t hq,Tq aa.2.2.2.2 hq⟩) ?_;clear hK K aa hq iG XW;intro aa;try simp only [nr])
  | (
    have hK:=Yv;clear Yv;rw [if_pos (by rfl)];refine wp_store_mid _ _ _ rfl gT 0 (dA 4 (wd (dX (eU (ah b K9))))).toArray rfl rfl XV.there (iR _) (all_oneCell_toArray (Ig 4 (wd (dX (eU (ah b K9)))))) ?_;try replace XV:=XV.whole (wd (dX (eU (ah b K9))))
    dsimp only [List.toList_toArray];refine so hK (w:=V) (b:=gT) (o:=0) (vs:=(dA 4 (wd (dX (eU (ah b K9)))))) aa ?_;clear hK K aa;intro aa;generalize World.setCells V gT 0 (dA 4 (wd (dX (eU (ah b K9)))))=V at*;try simp only [Act.put])
  | (
    refine wpAnyH_ready (rs:= [10,11]) (by decide+kernel) (by simp) ?_;refine AllReadyH.cons rfl (λK wR=> ?_) (AllReadyH.cons rfl (λK AA=> ?_) AllReadyH.nil))
  | (
    refine wpAnyH_ready (rs:= [1,11]) (by decide+kernel) (by simp) ?_;refine AllReadyH.cons rfl (λK aN=> ?_) (AllReadyH.cons rfl (λK AA=> ?_) AllReadyH.nil))
  | (
    refine wpAnyH_ready (rs:= [7,11]) (by decide+kernel) (by simp) ?_;refine AllReadyH.cons rfl (λK jE=> ?_) (AllReadyH.cons rfl (λK AA=> ?_) AllReadyH.nil))
  | (
    refine wpAnyH_ready (rs:= [8,11]) (by decide+kernel) (by simp) ?_;refine AllReadyH.cons rfl (λK ja=> ?_) (AllReadyH.cons rfl (λK AA=> ?_) AllReadyH.nil))
  | (
    refine wpAnyH_ready (rs:= [12]) (by decide+kernel) (by simp) ?_;refine AllReadyH.cons rfl (λK Yv=> ?_) AllReadyH.nil)
  | (
    refine wpAnyH_ready (rs:= [11]) (by decide+kernel) (by simp) ?_;refine AllReadyH.cons rfl (λK AA=> ?_) AllReadyH.nil)
  | (
    refine wpAnyH_ready (rs:= [8]) (by decide+kernel) (by simp) ?_;refine AllReadyH.cons rfl (λK ja=> ?_) AllReadyH.nil)
  | (
    refine wpAnyH_ready (rs:= [1]) (by decide+kernel) (by simp) ?_;refine AllReadyH.cons rfl (λK aN=> ?_) AllReadyH.nil)
  | (
    refine wpAnyH_ready (rs:= [7]) (by decide+kernel) (by simp) ?_;refine AllReadyH.cons rfl (λK jE=> ?_) AllReadyH.nil)
  | (
    refine wpAnyH_ready (rs:= [10]) (by decide+kernel) (by simp) ?_;refine AllReadyH.cons rfl (λK wR=> ?_) AllReadyH.nil))
 all_goals refine wpAnyH_done (by kernel_rfl) ?_ _
 all_goals
  exact NoPanic.normal (HQ.out gT V _ _ _ _ _ _ _ _ _ _ _ (by omega) (by omega) XV aa.1 aa.2.1 aa.2.2.1 aa.2.2.2.1 aa.2.2.2.2)
theorem amV (v:Value) (f b:Nat->Nat) (w:World) (hf:aj f) (hb:aj b) (hv:Ei w v f) (h:eX w):
  Calls Tryz.prog 167 #[v,.agg (ae 16 b).toArray] w λe w'=>e= .returned (.agg (ae 16 (pQ f b)).toArray)/\Below w.heap.size w w':=by
 have hz:=jf;have YI:=EI;obtain⟨kB,hkB⟩:=Le ((ae 16 b).toArray);obtain⟨w1,af,ak,au,aN⟩:=nA w 16 b 22;obtain⟨w2,ag,-,ai,aA⟩:=fw ak au 16 (λ_=>0) 22;have aI:=bn ag aN;obtain⟨HF,jc,HX,eB⟩:=fU hf hb h (hv w2 ai);rw [hkB]at af;rw [hkB];clear au aN hkB hf hb h hv;go_enter Tryz.func167,Tryz.ntmps167;go_upto_region 1 with fail;rw [<-af,<-ag];clear af ag ak;obtain⟨gB,hgB⟩:=Le (w.heap.size);obtain⟨gR,hgR⟩:=Le (w.heap.size+1);have hlB:w.heap.size<=gB:=by omega
 have jD:gB<gR:=by omega
 rw [hgR]at aA;rw [hgB]at aI;try rw [hgR]
 try simp only [hgB]
 clear hgR;go_wp2_with fail;refine eB.out.mono ?_;rintro e w3 ⟨gC,rfl,lV,hor,hq⟩;have YG:gC≠gR:=by have hs:=aA.lt (by omega);omega
 have aL:=aA.t hq;have dw:=aI.t hq;have aS:=Tq ai hq;clear aA aI ai hq eB hor;go_wp2_with fail;refine(amF _ (HX.out.keep aS)).mono ?_;rintro e w4 ⟨rfl,hq⟩;have xu:=lV.to hq;have dO:=aL.t hq;have je:=dw.t hq;have fD:=Tq aS hq;clear lV aL dw aS hq;obtain⟨gL,jN⟩:=Le (w4.heap.size);have yM:gR<gL:=by rw [<-jN];exact dO.lt (by omega)
 have ve:gC<gL:=by rw [<-jN];exact xu.lt
 obtain⟨w5,eO⟩:=Lv (w4.alloc (.cells (ae 256 λ_=>0).toArray 33));have BB:=tF eO jN;have AV:Ci w5 gC f:=by rw [eO];exact Cx.alloc xu (by decide) _
 have eY:=bn eO dO;have fo:=bn eO je;have dY:=Bm eO fD;clear xu dO je fD;go_upto_region 3 with (first
  |(refine bC rfl _ _ _ rfl _ _ _ bk rfl rfl (by rw [<-eO];exact BB) (ug _) ?_;intro w6 Di dE qM oI)
  |fail)
 rw [<-eO]at dE qM oI;have zA:Ci w6 gC f:=Cx.keep AV ve dE;have dV:=eY.keep yM dE;have fV:=fo.keep (show gB<gL by omega) dE;have fK:=dY.trans (dE.mono (by omega));clear BB AV eY fo dY dE qM oI eO jN YI;try dsimp only [Act.put]
 obtain⟨qL,hel⟩:=aB (λr=>wB f HF.out r) (amQ HF.out jc.out);obtain⟨K9,dn⟩:=Le (rk f 10);refine amU f b K9 gB gC gR gL jc.out (by rw [<-dn];exact qL.out 10) hlB jD yM (λW h=>by rw [<-dn];exact h.there 10 (by decide)) fV zA dV Di fK ?_;intro gT w7 Ea X8 Ya Yb Yc u16 FJ Xf Yu u20 u21 Gt YH nu jE FT p9 Yw oJ;rw [<-dn,show dX (eU (ah b (rk f 10)))=dS f b (9-9)from rfl]at nu;clear fV zA dV Di fK jE dn K9;go_wp2_with fail;go_loopw [7] (λi wr=> ∃r:Nat,r<=9/\i= .int .i64 r/\Aw wr gT 4 (wd (dS f b (9-r)))/\Ci wr gC f/\Ar wr gR 16 (λ_=>0)/\Ar wr gL 256 bk/\Below w.heap.size w wr) (λi _=>(intOf i).toNat);case atStart=>exact⟨9,by omega,rfl,nu,FT,p9,Yw,oJ⟩
 case round=>
  clear nu FT p9 Yw oJ;obtain⟨r,hr,rfl,qz,mV,qV,Yx,jy⟩:=hrel;obtain⟨X9,pY⟩:=Le (dS f b (9-r));have hxl:=Hi (show aj X9 by rw [<-pY];exact hel.out _);by_cases h0:0<r
  ·have i1:(0:Int)<(r:Int):=(by omega);have i2:(r:Int)<11:=(by omega);obtain⟨q,hq⟩: ∃q:Nat,r=q+1:=⟨r-1,by omega⟩;have q1:(r:Int)-1=(q:Int):=(by omega);have q2:wrap64 (q:Int)=(q:Int):=IntWalk.wrap64_in _ (by omega);have q3:IntKind.i64.wrap (q:Int)=(q:Int):=fO _ (by omega) (by omega);obtain⟨K9,dn⟩:=Le (rk f r);obtain⟨hkl,hrange,hst,yf⟩:=fU (show aj K9 by rw [<-dn];exact qL.out r) (show∀W,Ci W gC f->W.rangeAt gC (16+r*4) (dA 4 (wd K9))from λW h=>by rw [<-dn];exact h.there r (by omega)) (show dX (eU (iw (ah X9 K9)))=dS f b (9-q)by rw [<-pY,<-dn];exact amR f b r q hq hr) hq;rw [pY]at qz;clear pY dn hq;go_upto_region 7 with fail;have Yd:=qz;clear qz;have XY:=Yd.drew;refine wp_region_held_drew (S:=λW=>Ci W gC (f)/\Ar W gR 16 (λ_=>0)/\Ar W gL 256 (bk)/\Below w.heap.size w W) (by kernel_rfl) ⟨mV.drew,qV.drew,Yx.drew,jy.drew⟩ (λaa=> ?_);clear mV qV Yx jy Yd;generalize World.drew wr=bd at*;refine ty 1 rfl ?_;refine ty 2 rfl ?_;refine ty 3 rfl ?_;refine ty 4 rfl ?_;refine ty 5 rfl ?_;refine tk 6 (.agg (dA 4 (wd K9)).toArray) rfl (yieldsIf_load_mid (by rfl) _ _ rfl gC (16+r*4) rfl (dA 4 (wd K9)) _ (λW hSw=>hrange.out _ (hSw.1)) Tryz.kG rfl (iR _)) ?_;simp only [nr];refine tm 10 (λW hSw=>hSw.2.2.1.range) Tryz.zY rfl (ug _) ?_;refine rd 0 rfl (λK hK=> ?_);rw [if_pos (by rfl)];refine wp_load_mid _ _ rfl gT 0 rfl (dA 4 (wd X9)) _ XY.range Tryz.kG rfl (iR _) ?_;refine hK.out _ _ aa ?_;clear hK K aa
   intro aa;try simp only [nr]
   refine rq 7 rfl (Nj X9 K9 _ hxl.out hkl.out) aa ?_;clear aa;intro b6 hq aa;have Ye:=XY.t hq;clear hq XY;try simp only [nr]
   refine rq 8 rfl (amD (ah X9 K9) _ (dL hxl.out hkl.out)) aa ?_;clear aa;intro b7 hq aa;have Yf:=Ye.t hq;clear hq Ye;try simp only [nr]
   refine rq 9 rfl (aed (iw (ah X9 K9)) _ (Hq _)) aa ?_;clear aa;intro b8 hq aa;have X0:=Yf.t hq;clear hq Yf;try simp only [nr]
   refine rq 11 rfl (aeb (eU (iw (ah X9 K9))) _ (AB (Hq _))) aa ?_;clear aa;intro b9 hq aa;have X3:=X0.t hq;clear hq X0;try simp only [nr]
   refine rd 12 rfl (λK hK=> ?_);rw [if_pos (by rfl)];refine wp_store_mid _ _ _ rfl gT 0 (dA 4 (wd (dX (eU (iw (ah X9 K9)))))).toArray rfl rfl X3.there (iR _) (all_oneCell_toArray (Ig 4 (wd (dX (eU (iw (ah X9 K9))))))) ?_;have Yy:=X3.whole (wd (dX (eU (iw (ah X9 K9)))));dsimp only [List.toList_toArray];refine so hK (w:=b9) (b:=gT) (o:=0) (vs:=(dA 4 (wd (dX (eU (iw (ah X9 K9))))))) aa ?_;clear hK K aa X3;intro aa;generalize World.setCells b9 gT 0 (dA 4 (wd (dX (eU (iw (ah X9 K9))))))=b10 at*;try simp only [Act.put]
   refine wpAnyH_done (by kernel_rfl) ?_ _;obtain⟨uy,bI,nY,bD⟩:=aa;have ig:=Yy;clear Yy;rw [hst.out]at ig;clear i2;go_wp2_with fail;go_roundw;case rel=>exact⟨q,by omega,by first|rfl|go_num,ig,uy,bI,nY,bD⟩
   case measure=>simp [intOf];omega
  ·obtain rfl:r=0:=by omega
   obtain⟨K9,dn⟩:=Le (rk f 0);obtain⟨hkl,hrange,hlast⟩:=dD (show aj K9 by rw [<-dn];exact qL.out 0) (show∀W,Ci W gC f->W.rangeAt gC 16 (dA 4 (wd K9))from λW h=>by rw [<-dn];exact h.there 0 (by decide)) (show ah X9 K9=pQ f b by rw [<-pY,<-dn];exact amS f b);rw [pY]at qz;clear pY dn;go_upto_region 8 with fail;have oK:=qV;clear qV;have Yg:=oK.drew;refine wp_region_held_drew (S:=λW=>Ci W gC (f)/\Aw W gT 4 (wd X9)/\Below w.heap.size w W) (by kernel_rfl) ⟨mV.drew,qz.drew,jy.drew⟩ (λaa=> ?_);clear mV qz jy oK;generalize World.drew wr=cd at*;refine tm 0 (λW hSw=>hSw.2.1.range) Tryz.kG rfl (iR _) ?_;refine ty 1 rfl ?_;refine ty 2 rfl ?_;refine ty 3 rfl ?_;refine ty 4 rfl ?_;refine tk 5 (.agg (dA 4 (wd K9)).toArray) rfl (yieldsIf_load_mid (by rfl) _ _ rfl gC (16) rfl (dA 4 (wd K9)) _ (λW hSw=>hrange.out _ (hSw.1)) Tryz.kG rfl (iR _)) ?_;simp only [nr];refine rq 6 rfl (Nj X9 K9 _ hxl.out hkl.out) aa ?_;clear aa;intro c5 hq aa;have Yh:=Yg.t hq;clear hq Yg;try simp only [nr]
   refine rq 7 rfl (fjoin (ah X9 K9) _ (dL hxl.out hkl.out)) aa ?_;clear aa;intro c6 hq aa;have X4:=Yh.t hq;clear hq Yh;try simp only [nr]
   refine rd 8 rfl (λK hK=> ?_);rw [if_pos (by rfl)];refine wp_store_mid _ _ _ rfl gR 0 (ae 16 (ah X9 K9)).toArray rfl rfl X4.there (ay _) (all_oneCell_toArray (dz 16 (ah X9 K9))) ?_;have Yi:=X4.whole (ah X9 K9);dsimp only [List.toList_toArray];refine so hK (w:=c6) (b:=gR) (o:=0) (vs:=(ae 16 (ah X9 K9))) aa ?_;clear hK K aa X4;intro aa;generalize World.setCells c6 gR 0 (ae 16 (ah X9 K9))=c7 at*;try simp only [Act.put]
   refine wpAnyH_done (by kernel_rfl) ?_ _;have bD:=aa.2.2;have bI:=Yi;clear aa Yi;rw [hlast.out]at bI;go_wp2_with fail;refine dU rfl rfl bI Tryz.aM (ay _) rfl ⟨rfl,bD⟩
end
end
end Go.Proofs.YtdaiacmneopkgaaGreatDoor
