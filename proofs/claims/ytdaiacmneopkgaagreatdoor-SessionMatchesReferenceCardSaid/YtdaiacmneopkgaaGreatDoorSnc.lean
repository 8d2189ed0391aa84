/-
 Contract of Send of the reference package of layer 22 where it has an error, by a walk through its text; what was there stays as it was.
-/
import Derived.Test.YtdaiacmneopkgaaGreatDoorSnb
import Derived.Test.YtdaiacmneopkgaaGreatDoorMla
namespace Go.Proofs.YtdaiacmneopkgaaGreatDoor
set_option linter.unusedSimpArgs false
set_option linter.unusedVariables false
set_option maxRecDepth 100000
set_option maxHeartbeats 8000000
open Go.RowKit
def mr (cl:Bool) (n:Nat) (em:Bool) (C:Nat):Nat:=if cl then 7 else if 1200<n then 2 else if em then 12 else C
theorem aff (r:bZ) (x:Nat) (A:Option Addr) (n c:Nat) (aV:Nat) (w:World) (hx:r.fi+r.gv=x) (hxl:x<=9223372036854775807) (he:mr r.cl n (kg r.ad) (fG x false)≠0):
  Calls Tryz.prog 13 #[.agg (aH r),.slice A n c,.int .u64 (aV:Int)] w λe w'=>e= .returned (.tuple #[.agg (aH r),.slice none 0 0,.string ⟨#[]⟩,.int .i64 ((mr r.cl n (kg r.ad) (fG x false):Nat):Int)])/\Below w.heap.size w w':=by
 have hz:=EB;obtain⟨kS,bV⟩:=Le (aH r);obtain⟨kZ,lI⟩:=Le (aH dG);obtain⟨w1,af⟩:=Lv (w.alloc (.cells (aH r) 43));have ak:=lh af;have au:=Bl af;have kJ:Se w1 w.heap.size r:=by rw [af];exact Se.new w r _
 obtain⟨w2,ag⟩:=Lv (w1.alloc (.cells (aH dG) 43));have aF:=Bm ag au;have aA:Se w2 (w.heap.size+1) dG:=by rw [ag,<-ak];exact Se.new w1 dG _
 have eu:Se w2 w.heap.size r:=by rw [ag];exact kJ.to ((Below.refl _ _).alloc (Nat.le_refl _) _)
 have IV:=Hi bV;rw [bV]at af;rw [lI]at ag hz;rw [bV];clear au kJ bV lI;obtain⟨dK,hu,hrow⟩:=Bj;obtain⟨HU,HRW⟩:=aB hu hrow;clear hu hrow;obtain⟨z,hcl⟩: ∃z,r.cl=z:=⟨_,rfl⟩;obtain⟨ad,had⟩: ∃s,r.ad=s:=⟨_,rfl⟩;obtain⟨C,hC⟩: ∃C,fG x false=C:=⟨_,rfl⟩;obtain⟨V,hV⟩: ∃C,vD x false=C:=⟨_,rfl⟩;rw [hcl,had,hC]at he⊢;obtain⟨HC,HV,HX,CX⟩:=fU hC hV hx hxl;have c1:=eu.c 1;have c2:=eu.c 2;have c3:=eu.c 3;simp only [df]at c1 c2 c3;obtain⟨pF,HAD⟩:=aB hcl had;clear hcl had hC hV hx hxl;obtain⟨E,hE⟩: ∃E,mr z n (kg ad) C=E:=⟨_,rfl⟩;rw [hE]at he⊢;have zA:C=0\/C=6:=by rw [<-HC.out];unfold fG;split;(next h=>cases h);split;right;rfl;left;rfl
 have HN:=Hi he;clear he;have hem:(kg ad=true/\ad.toList= []/\ad.toList.isEmpty=true)\/(kg ad=false/\ ¬ad.toList= []/\ad.toList.isEmpty=false):=by
  by_cases h:ad.size=0
  ·exact .inl ⟨decide_eq_true h,Oa h⟩
  ·exact .inr ⟨decide_eq_false h,KJ h⟩
 have h2:(1200<n/\(n:Int)>1200)\/(¬1200<n/\ ¬(n:Int)>1200):=by omega
 rcases zA with rfl|rfl<;>cases z<;>rcases h2 with ⟨h2,i2⟩|⟨h2,i2⟩<;>rcases hem with ⟨hem,e0,e1⟩|⟨hem,e0,e1⟩;all_goals try (exfalso;exact HN.out (by rw [<-hE];unfold mr;rw [if_neg (by decide),if_neg h2,hem];rfl))
 all_goals
  obtain⟨HE,H2,XV⟩:=dD hE h2 hem;clear hE h2 hem;go_enter Tryz.func13,Tryz.ntmps13;go_upto_region 1 with fail;rw [<-af,<-ag];clear af ag ak hz;go_wp2_with fail;refine(aap r.fi r.gv x false _ HX.out CX.out).mono ?_;rintro e w3 ⟨rfl,hq⟩;rw [HC.out,HV.out];have AZ:=eu.to hq;have aL:=aA.to hq;have aS:=Tq aF hq;clear eu aA aF hq c1 c2 c3;have c10:=AZ.c 10;have c12:=AZ.c 12;simp only [df]at c10 c12;rw [HAD.out]at c10;rw [pF.out]at c12;go_wp2_with (first
   |(refine wN rfl _ _ rfl (w.heap.size) r rfl AZ HU.out HRW.out (bW _) ?_)
   |(refine si rfl _ _ _ rfl (w.heap.size+1) dG r rfl rfl aL (bW _) ?_;intro w6 dV jJ))
  refine bodyPost_ret (v:= .tuple #[.agg (aH r),_,_,_]) (UZ rfl rfl rfl rfl rfl dV HU.out HRW.out (bW _)) rfl ⟨?_,aS.trans (jJ.on aS.size (by omega))⟩;rw [<-IV.out,<-HE.out];simp [mr,H2.out,XV.out]
end Go.Proofs.YtdaiacmneopkgaaGreatDoor
