/-
 Contract of New of the reference package of layer 22, by a walk through its text; what was there stays as it was.
-/
import Derived.Test.YtdaiacmneopkgaaGreatDoorMfa
import Derived.Test.YtdaiacmneopkgaaGreatDoorMdb
import Derived.Test.YtdaiacmneopkgaaGreatDoorPea
namespace Go.Proofs.YtdaiacmneopkgaaGreatDoor
set_option linter.unusedSimpArgs false
set_option linter.unusedVariables false
set_option maxRecDepth 100000
set_option maxHeartbeats 4000000
open Go.RowKit
def dG:bZ:=⟨λ_=>0,0,0,0,none,0,0,0,false,0,0,none,0,0,⟨#[]⟩,0,false⟩
def E5 (K:Nat->Nat) (d x:Nat) (s:ByteArray):bZ:=⟨K,d,x,0,none,0,0,0,false,0,0,none,0,0,s,0,false⟩
theorem aiI:(Tryz.prog.info? 43).map (λi=>(i.zero,i.size))=some (some (.agg (aH dG)),445):=by kernel_rfl
theorem EB (w:World):(zeroValue 43).run Tryz.prog w= .ok (.agg (aH dG)) w:=(zero_of_info aiI).1 w
theorem Bj: ∃d,Tryz.prog.underlying 43=some d/\d.isRow=true:=row_of (show(Tryz.prog.underlying 43).map (·.isRow)=some true by kernel_rfl)
theorem aiJ (K:Nat->Nat) (d x:Nat) (s:ByteArray):Tryz.prog.built 43 [(0,.agg (ae 432 K).toArray),(1,.int .i64 (d:Int)),(2,.agg #[.int .u64 (x:Int),.int .u64 0,.bool false]),(7,.string s)]=some (aH (E5 K d x s)):=by kernel_rfl
theorem acb (K:Nat->Nat) (d x:Nat) (s:ByteArray) (w:World):(Instr.build 43 #[(0,.agg (ae 432 K).toArray),(1,.int .i64 (d:Int)),(2,.agg #[.int .u64 (x:Int),.int .u64 0,.bool false]),(7,.string s)]).run Tryz.prog w= .ok (.agg (aH (E5 K d x s))) w:=
 run_build w _ _ _ (aiJ K d x s)
theorem V6 (f:Nat->Nat) (d x:Nat) (s:ByteArray) (w:World) (hf:aj f) (hx:x<18446744073709551616) (hs:s.size<=9223372036854775807):
  Calls Tryz.prog 11 #[.agg (ae 16 f).toArray,.int .i64 (d:Int),.string s,.int .u64 (x:Int)] w λe w'=>e= .returned (.agg (aH (E5 (aX (ek f) sb) d (min x 9223372036854775807) (lN s))))/\Below w.heap.size w w':=by
 have hz:=EB;obtain⟨kA,aR⟩:=Le ((ae 16 f).toArray);obtain⟨kZ,lI⟩:=Le (aH dG);obtain⟨w1,af,ak,au,aN⟩:=nA w 16 f 22;obtain⟨w2,ag⟩:=Lv (w1.alloc (.cells (aH dG) 43));have ai:=Bm ag au;have aA:Se w2 (w.heap.size+1) dG:=by rw [ag,<-ak];exact Se.new w1 dG _
 have aI:=bn ag aN;obtain⟨HF,HX,HL⟩:=dD hf hx hs;rw [aR]at af;rw [lI]at ag hz;rw [aR];clear au aN hf aR lI hx hs;go_enter Tryz.func11,Tryz.ntmps11;go_upto_region 1 with fail;rw [<-af,<-ag];clear af ag ak hz;go_wp2_with (refine bB rfl _ _ rfl _ _ _ rfl aI Tryz.aM (ay _) ?_);refine(aiK f _ HF.out).mono ?_;rintro e w3 ⟨rfl,hq⟩;have aL:=aA.to hq;have aS:=Tq ai hq;clear aA ai aI hq;obtain⟨K,hK⟩: ∃K,aX (ek f) sb=K:=⟨_,rfl⟩;obtain⟨kK,bO⟩:=Le ((ae 432 K).toArray);rw [hK,bO];have HKK:=Hi hK;clear hK;go_wp2_with fail;refine(We x _ HX.out).mono ?_;rintro e w4 ⟨rfl,hq⟩;have dO:=aL.to hq;have fD:=Tq aS hq;clear aL aS hq;obtain⟨m,hm⟩: ∃m,min x 9223372036854775807=m:=⟨_,rfl⟩;rw [hm];have HM:=Hi hm;clear hm;go_wp2_with fail;refine(afo s _ HL.out).mono ?_;rintro e w5 ⟨rfl,hq⟩;have eY:=dO.to hq;have dY:=Tq fD hq;clear dO fD hq;obtain⟨S,hS⟩: ∃S,lN s=S:=⟨_,rfl⟩;rw [hS];have HS:=Hi hS;clear hS;obtain⟨q,dH⟩: ∃q:bZ,E5 K d m S=q:=⟨_,rfl⟩;have hbd:=Hi (λV=>acb K d m S V);rw [dH,bO]at hbd;obtain⟨kQ,iV⟩:=Le (aH q);have HQ:=Hi iV;rw [iV]at hbd;have lZ:=Hi dH;clear dH iV bO;obtain⟨dK,hu,hrow⟩:=Bj;have HU:=Hi hu;clear hu;go_wp2_with (first
  |(refine oH rfl _ _ rfl [(0,.agg kK),(1,.int .i64 (d:Int)),(2,.agg #[.int .u64 (m:Int),.int .u64 0,.bool false]),(7,.string S)] rfl _ (hbd.out _) ?_)
  |(refine si rfl _ _ _ rfl (w.heap.size+1) dG q rfl (by rw [HQ.out];rfl) eY (bW _) ?_;intro w6 dV jJ))
 have fK:=dY.trans (jJ.on dY.size (by omega));refine bodyPost_ret (v:= .agg (aH q)) (Dn rfl rfl dV HU.out hrow (bW _)) rfl ⟨?_,fK⟩;rw [<-lZ.out,<-HKK.out,<-HM.out,<-HS.out]
end Go.Proofs.YtdaiacmneopkgaaGreatDoor
