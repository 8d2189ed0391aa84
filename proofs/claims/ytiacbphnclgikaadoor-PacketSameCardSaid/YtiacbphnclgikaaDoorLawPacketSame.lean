/-
 For any two packets, the law PacketSame of layer 17 returns true and leaves its arguments as they were. Condition: none but the form's own reach and the package-level variables that are listed, which the card ties to the program's text.
-/
import Derived.Test.YtiacbphnclgikaaDoorPcx
import Derived.Test.YtiacbphnclgikaaDoorPcg
import Derived.Test.YtiacbphnclgikaaDoorCards
import Derived.Test.YtiacbphnclgikaaDoorTie
import Derived.SevenTiedAt
import Derived.RowKitTokens
namespace Go.Proofs.YtiacbphnclgikaaDoor.packetSame
open Go.ChangeShapes Go.WideShapes Go.RowKit
set_option linter.unusedVariables false
set_option maxRecDepth 100000 in
theorem lifted (os:Os) (started:os.Started) (H:Type) (enc:TypeId×Value→H):
  ReturnsInHanded {} Tryd.checked os 4 .any (fun w args=>(Rows.packetSameSpec.pre enc Tryd.prog Tryd.f4 [] false w args∧laidMetH Tryd.prog laidL w)∧sizedMet enc Tryd.prog Tryd.f4 (OpenSpec.ofChange Rows.packetSameSpec) false w args)
   (Rows.packetSameSpec.post enc Tryd.prog Tryd.f4 false true false false):=by
 refine returnsInHanded_of_change_and (C:=Tryd.checked) (X:=fun w _=>laidMetH Tryd.prog laidL w) (fun _ _ _ hh h=>h.of_heap hh) own started (by kernel_rfl) Tryd.func4
  (ChangeSpec.witness_at (enc:=enc) (C:=Tryd.checked) (os:=os) (X:=fun w _=>laidMetH Tryd.prog laidL w) false (laidWorld os) #[.agg #[.int .i64 0,.int .u64 0,.int .u16 0,.int .u16 0,.slice none 0 0],.agg #[.int .i64 0,.int .u64 0,.int .u16 0,.int .u16 0,.slice none 0 0]] 8 (World.layVars_os _ _ _) (by kernel_rfl) (by kernel_rfl) (by kernel_rfl) (by kernel_rfl) (by kernel_rfl) (laidWorld_met os _)) ?_
 intro W base args ds gs before hval0 hW _ _ hL _
 have hval: ∀(j:Nat) t v,Tryd.f4.params[j]?=some t→args[j]?=some v→Value.okWide Tryd.prog W .any base t v:=hval0
 have hW':=hW
 obtain⟨p,q,hA0,hV,rfl,hfz,hnd⟩:=hW
 have hA:DataW.TrodAll enc Tryd.prog W 0 (fun _=>true) true Tryd.f4.params.toList args.toList ds p:=hA0
 rw [Tryd.params4]at hA hval
 obtain⟨v0,vs0,d0,ds0,p0,q0,hargs,rfl,rfl,h0,r0⟩:=trodAll_cons hA
 obtain⟨v1,vs1,d1,ds1,p1,q1,rfl,rfl,rfl,h1,r1⟩:=trodAll_cons r0
 obtain⟨rfl,rfl,rfl⟩:=trodAll_nil r1
 obtain rfl:args= #[v0,v1]:=by cases args;simp_all
 obtain⟨rfl,rfl⟩:=trodVars_none hV
 have k0:=h0
 have lt0: ∀x∈p0,x.block<W.heap.size:=by obtain⟨m,hm⟩:=k0;exact DataW.trod_lt m _ _ _ hm
 have k1:=h1
 have lt1: ∀x∈p1,x.block<W.heap.size:=by obtain⟨m,hm⟩:=k1;exact DataW.trod_lt m _ _ _ hm
 obtain⟨pD0,pX0,pT0,pE0,pA0,pn0,pc0,pl0,rfl,hpD0,hpX0,hpT0,hpE0,hpS0,hpn0,hpc0⟩:=open_packet (hval 0 33 v0 rfl rfl) h0
 obtain⟨pD1,pX1,pT1,pE1,pA1,pn1,pc1,pl1,rfl,hpD1,hpX1,hpT1,hpE1,hpS1,hpn1,hpc1⟩:=open_packet (hval 1 33 v1 rfl rfl) h1
 have g:=boxes_of hL
 clear hA0 hval0
 refine(psames pD0 pX0 pT0 pE0 pA0 pn0 pc0 pl0 pD1 pX1 pT1 pE1 pA1 pn1 pc1 pl1 W hpD0 hpX0 hpT0 hpE0 hpS0 hpn0 hpc0 hpD1 hpX1 hpT1 hpE1 hpS1 hpn1 hpc1 g).mono fun e W' ⟨he,bel⟩=> ?_
 subst he
 exact⟨_,rfl,_,_,_,[],_,[],hW',trodAll_mk1 (shut_bool Tryd.underlying4 _),(trodAll_cons_mk (Below.trod laidOut (by kernel_rfl) (of_decide_eq_true (by kernel_rfl)) k0 bel lt0) (trodAll_cons_mk (Below.trod laidOut (by kernel_rfl) (of_decide_eq_true (by kernel_rfl)) k1 bel lt1) trodAll_mk0)),rfl,bel.frame _,fun h=>by cases h⟩
theorem row_holds:Rows.PacketSameSaid:=
 OpenClaim.holds_of_wide 4 Tryd.f4 rfl rfl rfl rfl rfl rfl rfl ⟨rfl,rfl,rfl,rfl,rfl⟩ rfl rfl rfl rfl rfl (by kernel_rfl) Tryd.func4 (by kernel_rfl)
  (of_decide_eq_true (by kernel_rfl)) (by unfold Func.isWrapper;first|(rw [if_pos (by decide+kernel)];kernel_rfl)|(rw [if_neg (by decide+kernel)];exact⟨rfl,rfl⟩))
  (fun os started H enc _=>lifted os started H enc)
theorem proved:Rows.PacketSameCardSaid:=
 Claim7.holds_tied_plain_at .later [] [.data] true Rows.packetSameCard.stood.harness Rows.packetSameCard.stood.looks
  row_holds (fun _ h=>by cases h) (by kernel_rfl) (fun _ h=>by cases h) packetSame_row_tie rfl ⟨rfl,rfl⟩ (by kernel_rfl) rfl
  (fun f fn hf hfn => by
   obtain rfl:f=4:=Option.some.inj ((show Tryd.prog.funcNamed "mooring/mooringlaw17.PacketSame" =some 4 by kernel_rfl).symm.trans hf)|>.symm
   obtain rfl:fn=Tryd.f4:=(Option.some.inj (Tryd.func4.symm.trans hfn)).symm
   exact⟨by kernel_rfl,fun j t ht=>by
    rw [Tryd.params4]at ht
    have h3:t∈ [33,33]:=by
     have:=List.mem_iff_getElem?.2 ⟨j,by simpa using ht⟩
     simpa using this
    have h4: ∀t∈ [33,33],Tryd.prog.wantsStandIn t=false:=by
     intro t ht
     simp only [List.mem_cons,List.not_mem_nil,or_false]at ht
     rcases ht with rfl|rfl<;>kernel_rfl
    exact h4 t h3⟩)
  (by kernel_rfl)
#print axioms proved
end Go.Proofs.YtiacbphnclgikaaDoor.packetSame
