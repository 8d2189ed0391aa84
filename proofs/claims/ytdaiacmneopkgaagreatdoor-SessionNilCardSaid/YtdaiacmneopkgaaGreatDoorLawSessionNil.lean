/-
 For every key, every direction and all bytes, the law SessionNil of layer 22 returns true and leaves its arguments as they were. Condition: none but the form's own reach and the package-level variables that are listed, which the card ties to the program's text.
-/
import Derived.Test.YtdaiacmneopkgaaGreatDoorMac
import Derived.Test.YtdaiacmneopkgaaGreatDoorSsm
import Derived.Test.YtdaiacmneopkgaaGreatDoorCards
import Derived.Test.YtdaiacmneopkgaaGreatDoorTie
import Derived.RowKitTokens
namespace Go.Proofs.YtdaiacmneopkgaaGreatDoor.sessionNil
set_option linter.unusedVariables false
set_option maxRecDepth 100000
open Go.ChangeShapes Go.WideShapes Go.RowKit
theorem lifted (os:Os) (started:os.Started) (H:Type) (enc:TypeId×Value->H):
  ReturnsInHanded {} Tryz.checked os 6 .any (λw args=>(Rows.sessionNilSpec.pre enc Tryz.prog Tryz.f6 [] false w args/\laidMetH Tryz.prog wy w)/\sizedMet enc Tryz.prog Tryz.f6 (OpenSpec.ofChange Rows.sessionNilSpec) false w args)
   (Rows.sessionNilSpec.post enc Tryz.prog Tryz.f6 false true false false):=by
 refine returnsInHanded_of_change_and (C:=Tryz.checked) (X:=λw _=>laidMetH Tryz.prog wy w) (λ_ _ _ hh h=>h.of_heap hh) own started (by kernel_rfl) Tryz.func6
  (ChangeSpec.witness_at (enc:=enc) (C:=Tryz.checked) (os:=os) (X:=λw _=>laidMetH Tryz.prog wy w) false (MJ os) #[.agg #[.int .u8 0,.int .u8 0,.int .u8 0,.int .u8 0,.int .u8 0,.int .u8 0,.int .u8 0,.int .u8 0,.int .u8 0,.int .u8 0,.int .u8 0,.int .u8 0,.int .u8 0,.int .u8 0,.int .u8 0,.int .u8 0],.int .i64 0,.slice none 0 0] 8 (World.layVars_os _ _ _) (by kernel_rfl) (by kernel_rfl) (by kernel_rfl) (by kernel_rfl) (by kernel_rfl) (TC os _)) ?_
 intro W base args ds gs before Cj hW _ _ hL _;have hval: ∀(j:Nat) t v,Tryz.f6.params[j]?=some t->args[j]?=some v->Value.okWide Tryz.prog W .any base t v:=Cj;have hW':=hW;obtain⟨p,q,sG,hV,rfl,hfz,hnd⟩:=hW;have hA:DataW.TrodAll enc Tryz.prog W 0 (λ_=>true) true Tryz.f6.params.toList args.toList ds p:=sG;rw [Tryz.params6]at hA hval;obtain⟨v0,WI,d0,ds0,p0,q0,hargs,rfl,rfl,h0,r0⟩:=trodAll_cons hA;obtain⟨v1,vs1,d1,ds1,p1,q1,rfl,rfl,rfl,h1,r1⟩:=trodAll_cons r0;obtain⟨v2,vs2,d2,ds2,p2,q2,rfl,rfl,rfl,h2,r2⟩:=trodAll_cons r1;obtain⟨rfl,rfl,rfl⟩:=trodAll_nil r2;obtain rfl:args= #[v0,v1,v2]:=by cases args;simp_all
 obtain⟨rfl,rfl⟩:=trodVars_none hV;have k0:=h0;have JY: ∀x∈p0,x.block<W.heap.size:=by obtain⟨m,hm⟩:=k0;exact DataW.trod_lt m _ _ _ hm
 have k1:=h1;have JZ: ∀x∈p1,x.block<W.heap.size:=by obtain⟨m,hm⟩:=k1;exact DataW.trod_lt m _ _ _ hm
 have k2:=h2;have Qp: ∀x∈p2,x.block<W.heap.size:=by obtain⟨m,hm⟩:=k2;exact DataW.trod_lt m _ _ _ hm
 obtain⟨f0,uh,rfl⟩:=TD Tryz.underlying22 Tryz.underlying5 (by kernel_rfl) (by kernel_rfl) (hval 0 22 v0 rfl rfl) h0;obtain⟨z1,rfl,rfl,rfl,af⟩:=open_int Tryz.underlying3 (hval 1 3 v1 rfl rfl) h1;have bE: -9223372036854775808<=z1/\z1<=9223372036854775807:=by simpa [Lit.wf,IntKind.min,IntKind.max,IntKind.signed,IntKind.bits]using af
 obtain⟨a2,XV,cap2,rfl⟩:=okWide_slice Tryz.underlying45 (hval 2 45 v2 rfl rfl);obtain⟨l2,ac5,XW,Eb⟩: ∃l:List UInt8,Sl W W.heap.size a2 XV l/\XV<=cap2/\cap2<=maxLen:=by
  obtain⟨fuel,hf⟩:=h2;rcases open_ints Tryz.underlying45 Tryz.underlying5 (by kernel_rfl) hf with ⟨hcs,_⟩|⟨x,l,c,zs,hcs,_,hl,hm,hz,_,hcell,hwz⟩
  ·simp [Value.cells]at hcs;obtain⟨rfl,rfl,rfl⟩:=hcs;exact Sl.Mw (zs:= []) (.inl ⟨rfl,rfl,rfl,rfl⟩)
  ·simp [Value.cells]at hcs;obtain⟨rfl,rfl,rfl⟩:=hcs;exact Sl.Mw (zs:=zs) (.inr ⟨_,rfl,hl,hm,by simpa using hz,hcell,hwz⟩)
 have g:=TE hL;clear sG Cj;refine(alc f0 z1 a2 XV cap2 l2 W uh bE ac5 XW Eb g).mono λe W' ⟨he,dE⟩=> ?_;subst he;exact⟨_,rfl,_,_,_,[],_,[],hW',trodAll_mk1 (shut_bool Tryz.underlying4 _),(trodAll_cons_mk (Below.trod laidOut (by kernel_rfl) (of_decide_eq_true (by kernel_rfl)) k0 dE JY) (trodAll_cons_mk (Below.trod laidOut (by kernel_rfl) (of_decide_eq_true (by kernel_rfl)) k1 dE JZ) (trodAll_cons_mk (Below.trod laidOut (by kernel_rfl) (of_decide_eq_true (by kernel_rfl)) k2 dE Qp) trodAll_mk0))),rfl,dE.frame _,λh=>by cases h⟩
theorem row_holds:Rows.SessionNilSaid:=
 OpenClaim.holds_of_wide 6 Tryz.f6 rfl rfl rfl rfl rfl rfl rfl ⟨rfl,rfl,rfl,rfl,rfl⟩ rfl rfl rfl rfl rfl (by kernel_rfl) Tryz.func6 (by kernel_rfl)
  (of_decide_eq_true (by kernel_rfl)) (by unfold Func.isWrapper;first|(rw [if_pos (by decide+kernel)];kernel_rfl)|(rw [if_neg (by decide+kernel)];exact⟨rfl,rfl⟩))
  (λos started H enc _=>lifted os started H enc)
theorem proved:Rows.SessionNilCardSaid:=
 Claim7.holds_tied_plain_at .later [] [.data] true Rows.sessionNilCard.stood.harness Rows.sessionNilCard.stood.looks
  row_holds (λ_ h=>by cases h) (by kernel_rfl) (λ_ h=>by cases h) sessionNil_row_tie rfl ⟨rfl,rfl⟩ (by kernel_rfl) rfl
  (λf fn hf hfn => by
   obtain rfl:f=6:=Option.some.inj ((show Tryz.prog.funcNamed "mooring/mooringlaw22.SessionNil" =some 6 by kernel_rfl).symm.trans hf)|>.symm
   obtain rfl:fn=Tryz.f6:=(Option.some.inj (Tryz.func6.symm.trans hfn)).symm;exact⟨by kernel_rfl,λj t ht=>by
    rw [Tryz.params6]at ht;have h3:t∈ [22,3,45]:=by
     have:=List.mem_iff_getElem?.2 ⟨j,by simpa using ht⟩
     simpa using this
    have h4: ∀t∈ [22,3,45],Tryz.prog.wantsStandIn t=false:=by
     intro t ht;simp only [List.mem_cons,List.not_mem_nil,or_false]at ht;rcases ht with rfl|rfl|rfl<;>kernel_rfl
    exact h4 t h3⟩)
  (by kernel_rfl)
#print axioms proved
end Go.Proofs.YtdaiacmneopkgaaGreatDoor.sessionNil
