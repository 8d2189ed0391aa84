/-
 Contracts of slices.Grow of a nil slice, and of slices.Concat, of bytes, by walks through the library's texts: a slice of the call's own; what was there stays as it was.
-/
import Derived.Test.YtdaiacmneopkgaaGreatDoorMea
import Derived.Test.YtdaiacmneopkgaaGreatDoorMaj
import Derived.Lib.AppendZeros
import Derived.Deep.Upon
namespace Go.Proofs.YtdaiacmneopkgaaGreatDoor
set_option linter.unusedSimpArgs false
set_option linter.unusedVariables false
set_option maxRecDepth 100000
set_option maxHeartbeats 4000000
open Go.RowKit
def qw (n:Nat->Nat):Nat->Nat
 |0=>0
 |k+1=>qw n k+n k
def Cq (L:Nat->List UInt8):Nat->List UInt8
 |0=> []
 |k+1=>Cq L k++L k
theorem ac4 {n:Nat->Nat} {m:Nat} (K:Nat): ∀k,k<=K->(∀j,j<K->n j<=m)->qw n k<=m*k
 |0,_,_=>Nat.zero_le _
 |k+1,hk,h=>by
  have h1:=ac4 K k (by omega) h;have h2:=h k (by omega)
  show qw n k+n k<=m*(k+1)
  rw [Nat.mul_succ];omega
theorem akx {s q r:Nat} (h:s+q=r) (hr:r<=1000000):wrap64 ((s:Int)+(q:Int))=(r:Int)/\IntKind.i64.wrap ((s:Int)+(q:Int))=(r:Int)/\(s:Int)+(q:Int)=(r:Int)/\IntKind.i64.wrap (r:Int)=(r:Int):=by
 refine⟨?_,?_,by omega,?_⟩
 ·rw [IntWalk.wrap64_in _ (by omega)];omega
 ·rw [IntKind.wrap_i64];omega
 ·rw [IntKind.wrap_i64];omega
theorem aky (w:World) (ty:TypeId) (b:Option Addr) (n cap:Nat) (h:n<=cap) (A:Option Addr) (c:Nat):(Builtin.append_ #[45,45] ty #[.slice b n cap,.slice A 0 c]).run Tryz.prog w= .ok (.slice b n cap) w:=by
 obtain⟨i0,cu,bJ,bE,dx⟩:=info_parts xW;exact run_append_nothing w 45 45 ty 5 i0 Tryz.underlying45 cu b n cap h _ (by
  cases A with
  |none=>exact Src.ofNil w Tryz.underlying45 c
  |some a=>exact Src.ofSlice w Tryz.underlying45 a 0 c [] (by simp) (by simp) (by simp))
theorem akz (k:Nat) (EW:0<k) (hk:k<=1000000) (w:World): ∃c W,(∀ty,(Builtin.append_ #[45,3] ty #[.slice none 0 0,.int .i64 (k:Int)]).run Tryz.prog w= .ok (.slice (some ⟨w.heap.size,0,none⟩) k c) W)/\k<=c/\jQ W w.heap.size (.slice (some ⟨w.heap.size,0,none⟩) 0 c) 0 []/\Below w.heap.size w W:=by
 obtain⟨i0,cu,bJ,bE,dx⟩:=info_parts xW;have hr:=λty=>Lib.run_append_nil_zeros (P:=Tryz.prog) w 45 3 ty 5 i0 (.int .u8 0) .i64 .i64 Tryz.underlying45 Tryz.underlying3 cu bJ k EW (by rw [bE];decide) (by omega) (by rw [dx];omega);have hge:=grownCap_ge w k 0 5;have hle:=grownCap_le_maxLen w k 0 5 (by unfold maxLen;omega);refine⟨_,_,hr,hge,⟨rfl,.inr ⟨w.heap.size,_,_,rfl,Nat.le_refl _,heap_alloc_new w.drew _,Nat.zero_le _,hle,?_,?_⟩⟩,((Below.refl _ _).drew).alloc (Nat.le_refl _) _⟩
 ·simp only [Array.size_append,size_zeroCells,show(Value.int .u8 0).cells.size=1 from rfl];omega
 ·simp
theorem akA (k:Nat) (w:World) (hk:k<=1000000):
  Calls Tryz.prog 119 #[.slice none 0 0,.int .i64 (k:Int)] w λe9 w'=> ∃A c,e9= .returned (.slice A 0 c)/\jQ w' w.heap.size (.slice A 0 c) 0 []/\Below w.heap.size w w':=by
 obtain⟨i0,cu,bJ,bE,dx⟩:=info_parts xW;have tJ:jQ w w.heap.size (.slice none 0 0) 0 []:=World.ownsRow_nil w _ _ _;have m1:wrap64 ((k:Int)-0)=(k:Int):=by rw [IntWalk.wrap64_in _ (by omega)];omega
 have m2:IntKind.i64.wrap (k:Int)=(k:Int):=by rw [IntKind.wrap_i64];omega
 have X7: ¬(k:Int)<0:=by omega
 by_cases h0:k=0
 ·subst h0;go_enter Tryz.func119,Tryz.ntmps119;go_wp2_with fail;go_ret;exact⟨none,0,rfl,tJ,Below.refl _ _⟩
 ·have i1:(k:Int)>0:=by omega
  obtain⟨c,W,happ,hkc,hO,hB⟩:=akz k (by omega) hk w;have hsl:=NI none 0 0 0 (Nat.le_refl _) (Nat.le_refl _);have ac5:=NI (some ⟨w.heap.size,0,none⟩) k c 0 (Nat.zero_le _) hkc;have X4:=Hi happ;clear happ tJ cu bJ bE dx h0 hk;go_enter Tryz.func119,Tryz.ntmps119;go_wp2_with (at_builtin;refine Lib.wpList_append_run _ rfl _ _ _ _ rfl _ _ rfl rfl _ _ (X4.out _) ?_);go_ret;exact⟨_,c,rfl,hO,hB⟩
theorem ac6 (g K C:Nat) (A:Nat->Option Addr) (n c:Nat->Nat) (L:Nat->List UInt8) (w:World) (hG:Cx w g K (λj=> .slice (A j) (n j) (c j))) (hS: ∀j,j<K->Sl w w.heap.size (A j) (n j) (L j)) (hK:K<=8) (hn: ∀j,j<K->n j<=10000):
  Calls Tryz.prog 82 #[.slice (some ⟨g,0,none⟩) K C] w λe9 w'=> ∃A2 c2,e9= .returned (.slice A2 (qw n K) c2)/\jQ w' w.heap.size (.slice A2 (qw n K) c2) (qw n K) (Cq L K)/\Below w.heap.size w w':=by
 obtain⟨i0,cu,bJ,bE,dx⟩:=info_parts xW;obtain⟨oL,qh,oM,tT⟩:=fU cu bJ bE dx;clear cu bJ bE dx;obtain⟨HG,HS,XX,HK⟩:=fU hG hS (λk (h:k<=K)=>ac4 (m:=10000) K k h hn) hK;clear hG hS hn hK;go_enter Tryz.func82,Tryz.ntmps82;go_wp2_with fail;go_loopw [3,11] (λv i wr=> ∃j:Nat,j<=K/\v= .int .i64 (qw n j:Nat)/\i= .int .i64 (j:Int)/\w=wr) (λ_ i _=>K-(intOf i).toNat);case atStart=>exact⟨0,Nat.zero_le _,rfl,rfl,rfl⟩
 case round=>
  obtain⟨j,hj,rfl,rfl,rfl⟩:=hrel;by_cases hlt:j<K
  ·have c9:w.cell? ⟨g,j,none⟩=some (.slice (A j) (n j) (c j)):=(HG.out j hlt).1;have hsm:=XX.out (j+1) hlt;have XV:=HK.out;obtain⟨r,hr⟩: ∃r,qw n (j+1)=r:=⟨_,rfl⟩;have kV:qw n j+n j=r:=hr;obtain⟨n1,uu⟩: ∃m,n j=m:=⟨_,rfl⟩;obtain⟨s0,vB⟩: ∃m,qw n j=m:=⟨_,rfl⟩;rw [uu]at c9;rw [uu,vB]at kV;rw [hr]at hsm;rw [vB];obtain⟨m1,m2,m3,m4⟩:=akx kV (by omega);have i2: ¬(r:Int)<0:=(by omega);have i1:(j:Int)<(K:Int):=(by omega);have HR:=Hi hr;have X5:j<8:=(by omega);clear hr kV hsm vB uu XV;go_wp2_with fail;go_roundw;case rel=>exact⟨j+1,hlt,by rw [HR.out],by go_num,trivial⟩
   case measure=>simp [intOf];omega
  ·obtain rfl:j=K:=by omega
   have i1: ¬(j:Int)<(j:Int):=(by omega);have hsm:=XX.out j (Nat.le_refl _);have XV:=HK.out;obtain⟨s0,vB⟩: ∃m,qw n j=m:=⟨_,rfl⟩;rw [vB];rw [vB]at hsm;have ak:s0<=1000000:=(by omega);have HT:=Hi vB;clear vB hlt hj hsm XV;go_wp2_with fail;refine(akA s0 _ ak).mono ?_;rintro e w1 ⟨A1,c1,rfl,Ga,eP⟩;go_wp2_with fail;go_loopw [6,27] (λv i wr=> ∃(k:Nat) (A2:Option Addr) (c2:Nat),k<=j/\v= .slice A2 (qw n k) c2/\i= .int .i64 (k:Int)/\jQ wr w.heap.size (.slice A2 (qw n k) c2) (qw n k) (Cq L k)/\Below w.heap.size w wr) (λ_ i _=>j-(intOf i).toNat);case atStart=>exact⟨0,A1,c1,Nat.zero_le _,rfl,rfl,Ga,eP⟩
   case round=>
    clear Ga eP;obtain⟨k,A2,c2,hk,rfl,rfl,hO,hB⟩:=hrel;by_cases hlt:k<j
    ·have c9:wr.cell? ⟨g,k,none⟩=some (.slice (A k) (n k) (c k)):=((HG.out.t hB (by omega)) k hlt).1;have hsl:=(HS.out k hlt).below hB;have hsm:=XX.out (k+1) hlt;have XV:=HK.out;have i1:(k:Int)<(j:Int):=(by omega);have X5:k<8:=(by omega);have hrs:qw n k+n k=qw n (k+1):=rfl;have hct:Cq L k++L k=Cq L (k+1):=rfl;obtain⟨r,hr⟩: ∃r,qw n (k+1)=r:=⟨_,rfl⟩;obtain⟨lr,hlr⟩: ∃r,Cq L (k+1)=r:=⟨_,rfl⟩;rw [hr]at hsm hrs;rw [hlr]at hct;obtain⟨HR,XZ⟩:=aB hr hlr;clear hr hlr;obtain⟨n1,uu⟩: ∃m,n k=m:=⟨_,rfl⟩;obtain⟨B1,eP⟩: ∃m,A k=m:=⟨_,rfl⟩;obtain⟨d1,jT⟩: ∃m,c k=m:=⟨_,rfl⟩;obtain⟨l1,O1⟩: ∃m,L k=m:=⟨_,rfl⟩;obtain⟨s1,ak⟩: ∃m,qw n k=m:=⟨_,rfl⟩;obtain⟨l0,XY⟩: ∃m,Cq L k=m:=⟨_,rfl⟩;rw [uu,eP,jT]at c9;rw [uu,eP,O1]at hsl;rw [ak,uu]at hrs;rw [XY,O1]at hct;rw [ak,XY]at hO;rw [ak];clear uu eP jT O1 ak XY;by_cases h0:n1=0
     ·subst h0;have hcap:=(Af hO).1;obtain rfl:l1= []:=List.eq_nil_of_length_eq_zero hsl.len;rw [List.append_nil]at hct;rw [Nat.add_zero]at hrs;subst hct;subst hrs;clear hsm XV hsl;go_wp2_with (at_builtin;refine Lib.wpList_append_run _ rfl _ _ _ _ rfl _ _ rfl rfl _ _ (aky _ _ _ _ _ hcap _ _) ?_);go_roundw;case rel=>exact⟨k+1,A2,c2,hlt,by rw [HR.out],by go_num,by rw [HR.out,XZ.out];exact hO,hB⟩
      case measure=>simp [intOf];omega
     ·obtain⟨ad,rfl,hsrc⟩:=hsl.src (by omega);have hll:l1.length=n1:=hsl.len;obtain⟨X6,Gf,X0,tX⟩:=fU (show(l1.map b8).length=n1*1 by rw [List.length_map,hll,Nat.mul_one]) hsrc hrs hct;have hbs:=hB.size;have X3:=Hi (show s1+n1<=1000000 by omega);clear hsrc hll hsl hsm XV hrs hct;go_wp2_with (at_builtin;refine wpList_append_own _ rfl _ _ 45 rfl w.heap.size 5 i0 (.int .u8 0) 1 1 Tryz.underlying45 oL.out qh.out oM.out tT.out (by decide) (by decide) _ _ _ rfl hO ad n1 d1 (l1.map b8) rfl X6.out Gf.out (KT _) (by have:=X3.out;unfold maxLen;omega) (by have:=X3.out;omega) hbs ?_;intro v3 w3 XW hgrow3 _;obtain⟨A3,c3,rfl⟩:=su XW;rw [X0.out]at XW;try rw [X0.out]);have aS:Below w.heap.size w w3:=hB.grown hgrow3 hbs (λg hg=>yg hO hg);have uJ:jQ w3 w.heap.size (.slice A3 r c3) r lr:=(by unfold jQ;rw [<-tX.out,List.map_append];exact XW);clear hO hB XW hgrow3;go_wp2_with fail;go_roundw;case rel=>exact⟨k+1,A3,c3,hlt,by rw [HR.out],by go_num,by rw [HR.out,XZ.out];exact uJ,aS⟩
      case measure=>simp [intOf];omega
    ·obtain rfl:k=j:=by omega
     have i1: ¬(k:Int)<(k:Int):=(by omega);clear hlt hk;rw [HT.out]at hO⊢;go_wp2_with fail;go_ret;exact⟨A2,c2,by rw [HT.out];rfl,by rw [HT.out];exact hO,hB⟩
theorem ac7:(Tryz.prog.info? 45).map (λi=>(i.zero,i.size,i.bytes))=some (some (.slice none 0 0),1,24):=by kernel_rfl
theorem acL {P:Program} {o:Oper} {a:Act} {w w':World} {K:Act->World->Prop} {Q:Exit->Act->World->Prop} (t:TypeId) (len:Nat) (parts:Array (Nat×Operand)) (ho:o.op= .buildSlice t len parts)
  (ps:List (Nat×Value)) (hps:parts.toList.map (λp=>(p.1,a.eval p.2))=ps) (v:Value) (hb:(Instr.buildSlice t len ps.toArray).run P w= .ok v w') (h:K (a.put o.dst v) w'):o.wp P a w K Q:=by
 have e:(parts.map fun(i,x)=>(i,a.eval x))=ps.toArray:=by rw [<-hps];apply Array.toList_inj.1;simp
 unfold Oper.wp execOp;simp only [ho,e,Sem.run_bind,hb,Result.andThen_ok];exact h
theorem ajJ (A1 A2 A3:Option Addr) (n1 c1 n2 c2 n3 c3:Nat) (V:World):(Instr.buildSlice 206 3 #[(0,.slice A1 n1 c1),(1,.slice A2 n2 c2),(2,.slice A3 n3 c3)]).run Tryz.prog V= .ok (.slice (some ⟨V.heap.size,0,none⟩) 3 3) (V.alloc (.cells #[.slice A1 n1 c1,.slice A2 n2 c2,.slice A3 n3 c3] 45)):=by
 obtain⟨i0,cu,bJ,bE,dx⟩:=info_parts ac7;exact run_buildSlice (P:=Tryz.prog) V 206 45 3 _ _ i0 _ Tryz.underlying206 cu bJ (by rw [bE];decide) (by rw [bE];decide) (by rw [bE];kernel_rfl)
theorem ajL (A1 A2:Option Addr) (n1 c1 n2 c2:Nat) (V:World):(Instr.buildSlice 206 2 #[(0,.slice A1 n1 c1),(1,.slice A2 n2 c2)]).run Tryz.prog V= .ok (.slice (some ⟨V.heap.size,0,none⟩) 2 2) (V.alloc (.cells #[.slice A1 n1 c1,.slice A2 n2 c2] 45)):=by
 obtain⟨i0,cu,bJ,bE,dx⟩:=info_parts ac7;exact run_buildSlice (P:=Tryz.prog) V 206 45 2 _ _ i0 _ Tryz.underlying206 cu bJ (by rw [bE];decide) (by rw [bE];decide) (by rw [bE];kernel_rfl)
def qp {α:Type} (a b c:α):Nat->α
 |0=>a|1=>b|_=>c
theorem MV {j:Nat} (h:j<3):j=0\/j=1\/j=2:=by omega
theorem ajK (g:Nat) (A1 A2 A3:Option Addr) (n1 c1 n2 c2 n3 c3:Nat) (l1 l2 l3:List UInt8) (w:World) (hG:Cx w g 3 (qp (.slice A1 n1 c1) (.slice A2 n2 c2) (.slice A3 n3 c3))) (h1:Sl w w.heap.size A1 n1 l1) (h2:Sl w w.heap.size A2 n2 l2) (h3:Sl w w.heap.size A3 n3 l3) (b1:n1<=10000) (b2:n2<=10000) (b3:n3<=10000):
  Calls Tryz.prog 82 #[.slice (some ⟨g,0,none⟩) 3 3] w λe9 w'=> ∃A c,e9= .returned (.slice A (n1+n2+n3) c)/\Sl w' w'.heap.size A (n1+n2+n3) (l1++l2++l3)/\n1+n2+n3<=c/\Below w.heap.size w w':=by
 have hc:=ac6 g 3 3 (qp A1 A2 A3) (qp n1 n2 n3) (qp c1 c2 c3) (qp l1 l2 l3) w (hG.ext λj hj=>by rcases MV hj with rfl|rfl|rfl<;>rfl)
  (λj hj=>by rcases MV hj with rfl|rfl|rfl<;>assumption) (by omega) (λj hj=>by rcases MV hj with rfl|rfl|rfl<;>assumption)
 have e1:qw (qp n1 n2 n3) 3=n1+n2+n3:=by simp [qw,qp]
 have e2:Cq (qp l1 l2 l3) 3=l1++l2++l3:=by simp [Cq,qp]
 rw [e1,e2]at hc;refine hc.mono ?_;rintro e9 w1 ⟨A,c,rfl,hO,hB⟩;exact⟨A,c,rfl,Sl.jk hO,(Af hO).1,hB⟩
theorem ajM (g:Nat) (A1 A2:Option Addr) (n1 c1 n2 c2:Nat) (l1 l2:List UInt8) (w:World) (hG:Cx w g 2 (qp (.slice A1 n1 c1) (.slice A2 n2 c2) (.slice A2 n2 c2))) (h1:Sl w w.heap.size A1 n1 l1) (h2:Sl w w.heap.size A2 n2 l2) (b1:n1<=10000) (b2:n2<=10000):
  Calls Tryz.prog 82 #[.slice (some ⟨g,0,none⟩) 2 2] w λe9 w'=> ∃A c,e9= .returned (.slice A (n1+n2) c)/\dC w w' A (n1+n2) (l1++l2)/\n1+n2<=c/\c<=maxLen/\Below w.heap.size w w':=by
 have hc:=ac6 g 2 2 (qp A1 A2 A2) (qp n1 n2 n2) (qp c1 c2 c2) (qp l1 l2 l2) w (hG.ext λj hj=>by rcases MV (show j<3 by omega)with rfl|rfl|rfl<;>rfl)
  (λj hj=>by rcases MV (show j<3 by omega)with rfl|rfl|rfl<;>assumption) (by omega) (λj hj=>by rcases MV (show j<3 by omega)with rfl|rfl|rfl<;>assumption)
 have e1:qw (qp n1 n2 n2) 2=n1+n2:=by simp [qw,qp]
 have e2:Cq (qp l1 l2 l2) 2=l1++l2:=by simp [Cq,qp]
 rw [e1,e2]at hc;refine hc.mono ?_;rintro e9 w1 ⟨A,c,rfl,hO,hB⟩;exact⟨A,c,rfl,dC.jk hO (Nat.le_refl _),(Af hO).1,(Af hO).2,hB⟩
end Go.Proofs.YtdaiacmneopkgaaGreatDoor
