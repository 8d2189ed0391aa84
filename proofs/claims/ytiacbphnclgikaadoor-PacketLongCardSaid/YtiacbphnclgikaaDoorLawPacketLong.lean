/-
 For every key, every number and every packet, the law PacketLong of layer 17 returns true and leaves its arguments as they were. Condition: none but the form's own reach and the package-level variables that are listed, which the card ties to the program's text.
-/
import Derived.Test.YtiacbphnclgikaaDoorPcx
import Derived.Test.YtiacbphnclgikaaDoorPch
import Derived.Test.YtiacbphnclgikaaDoorFre
import Derived.Test.YtiacbphnclgikaaDoorCards
import Derived.Test.YtiacbphnclgikaaDoorTie
import Derived.SevenTiedAt
import Derived.RowKitTokens
namespace Go.Proofs.YtiacbphnclgikaaDoor.packetLong
open Go.ChangeShapes Go.WideShapes Go.RowKit
set_option linter.unusedVariables false
set_option maxRecDepth 100000 in
theorem lifted (os:Os) (started:os.Started) (H:Type) (enc:TypeId×Value→H):
  ReturnsInHanded {} Tryd.checked os 5 .any (fun w args=>(Rows.packetLongSpec.pre enc Tryd.prog Tryd.f5 [] false w args∧laidMetH Tryd.prog laidL w)∧sizedMet enc Tryd.prog Tryd.f5 (OpenSpec.ofChange Rows.packetLongSpec) false w args)
   (Rows.packetLongSpec.post enc Tryd.prog Tryd.f5 false true false false):=by
 refine returnsInHanded_of_change_and (C:=Tryd.checked) (X:=fun w _=>laidMetH Tryd.prog laidL w) (fun _ _ _ hh h=>h.of_heap hh) own started (by kernel_rfl) Tryd.func5
  (ChangeSpec.witness_at (enc:=enc) (C:=Tryd.checked) (os:=os) (X:=fun w _=>laidMetH Tryd.prog laidL w) false (laidWorld os) #[.agg #[.int .u8 0,.int .u8 0,.int .u8 0,.int .u8 0,.int .u8 0,.int .u8 0,.int .u8 0,.int .u8 0,.int .u8 0,.int .u8 0,.int .u8 0,.int .u8 0,.int .u8 0,.int .u8 0,.int .u8 0,.int .u8 0],.int .u16 0,.agg #[.int .i64 0,.int .u64 0,.int .u16 0,.int .u16 0,.slice none 0 0]] 8 (World.layVars_os _ _ _) (by kernel_rfl) (by kernel_rfl) (by kernel_rfl) (by kernel_rfl) (by kernel_rfl) (laidWorld_met os _)) ?_
 intro W base args ds gs before hval0 hW _ _ hL _
 have hval: ∀(j:Nat) t v,Tryd.f5.params[j]?=some t→args[j]?=some v→Value.okWide Tryd.prog W .any base t v:=hval0
 have hW':=hW
 obtain⟨p,q,hA0,hV,rfl,hfz,hnd⟩:=hW
 have hA:DataW.TrodAll enc Tryd.prog W 0 (fun _=>true) true Tryd.f5.params.toList args.toList ds p:=hA0
 rw [Tryd.params5]at hA hval
 obtain⟨v0,vs0,d0,ds0,p0,q0,hargs,rfl,rfl,h0,r0⟩:=trodAll_cons hA
 obtain⟨v1,vs1,d1,ds1,p1,q1,rfl,rfl,rfl,h1,r1⟩:=trodAll_cons r0
 obtain⟨v2,vs2,d2,ds2,p2,q2,rfl,rfl,rfl,h2,r2⟩:=trodAll_cons r1
 obtain⟨rfl,rfl,rfl⟩:=trodAll_nil r2
 obtain rfl:args= #[v0,v1,v2]:=by cases args;simp_all
 obtain⟨rfl,rfl⟩:=trodVars_none hV
 have k0:=h0
 have lt0: ∀x∈p0,x.block<W.heap.size:=by obtain⟨m,hm⟩:=k0;exact DataW.trod_lt m _ _ _ hm
 have k1:=h1
 have lt1: ∀x∈p1,x.block<W.heap.size:=by obtain⟨m,hm⟩:=k1;exact DataW.trod_lt m _ _ _ hm
 have k2:=h2
 have lt2: ∀x∈p2,x.block<W.heap.size:=by obtain⟨m,hm⟩:=k2;exact DataW.trod_lt m _ _ _ hm
 obtain⟨f0,hf0,rfl⟩:=open_arrF Tryd.underlying35 Tryd.underlying5 (by kernel_rfl) (by kernel_rfl) (hval 0 35 v0 rfl rfl) h0
 obtain⟨z1,rfl,rfl,rfl,hw1⟩:=open_int Tryd.underlying31 (hval 1 31 v1 rfl rfl) h1
 have hz1:0≤z1∧z1≤65535:=by simpa [Lit.wf,IntKind.min,IntKind.max,IntKind.signed,IntKind.bits]using hw1
 obtain⟨a1,rfl⟩:=Int.eq_ofNat_of_zero_le hz1.1
 obtain⟨pD2,pX2,pT2,pE2,pA2,pn2,pc2,pl2,rfl,hpD2,hpX2,hpT2,hpE2,hpS2,hpn2,hpc2⟩:=open_packet (hval 2 33 v2 rfl rfl) h2
 have g:=boxes_of hL
 clear hA0 hval0
 refine(plongs f0 a1 pD2 pX2 pT2 pE2 pA2 pn2 pc2 pl2 W hf0 (by omega) hpD2 hpX2 hpT2 hpE2 hpS2 hpn2 hpc2 g).mono fun e W' ⟨he,bel⟩=> ?_
 subst he
 exact⟨_,rfl,_,_,_,[],_,[],hW',trodAll_mk1 (shut_bool Tryd.underlying4 _),(trodAll_cons_mk (Below.trod laidOut (by kernel_rfl) (of_decide_eq_true (by kernel_rfl)) k0 bel lt0) (trodAll_cons_mk (Below.trod laidOut (by kernel_rfl) (of_decide_eq_true (by kernel_rfl)) k1 bel lt1) (trodAll_cons_mk (Below.trod laidOut (by kernel_rfl) (of_decide_eq_true (by kernel_rfl)) k2 bel lt2) trodAll_mk0))),rfl,bel.frame _,fun h=>by cases h⟩
theorem row_holds:Rows.PacketLongSaid:=
 OpenClaim.holds_of_wide 5 Tryd.f5 rfl rfl rfl rfl rfl rfl rfl ⟨rfl,rfl,rfl,rfl,rfl⟩ rfl rfl rfl rfl rfl (by kernel_rfl) Tryd.func5 (by kernel_rfl)
  (of_decide_eq_true (by kernel_rfl)) (by unfold Func.isWrapper;first|(rw [if_pos (by decide+kernel)];kernel_rfl)|(rw [if_neg (by decide+kernel)];exact⟨rfl,rfl⟩))
  (fun os started H enc _=>lifted os started H enc)
theorem proved:Rows.PacketLongCardSaid:=
 Claim7.holds_tied_plain_at .later [] [.data] true Rows.packetLongCard.stood.harness Rows.packetLongCard.stood.looks
  row_holds (fun _ h=>by cases h) (by kernel_rfl) (fun _ h=>by cases h) packetLong_row_tie rfl ⟨rfl,rfl⟩ (by kernel_rfl) rfl
  (fun f fn hf hfn => by
   obtain rfl:f=5:=Option.some.inj ((show Tryd.prog.funcNamed "mooring/mooringlaw17.PacketLong" =some 5 by kernel_rfl).symm.trans hf)|>.symm
   obtain rfl:fn=Tryd.f5:=(Option.some.inj (Tryd.func5.symm.trans hfn)).symm
   exact⟨by kernel_rfl,fun j t ht=>by
    rw [Tryd.params5]at ht
    have h3:t∈ [35,31,33]:=by
     have:=List.mem_iff_getElem?.2 ⟨j,by simpa using ht⟩
     simpa using this
    have h4: ∀t∈ [35,31,33],Tryd.prog.wantsStandIn t=false:=by
     intro t ht
     simp only [List.mem_cons,List.not_mem_nil,or_false]at ht
     rcases ht with rfl|rfl|rfl<;>kernel_rfl
    exact h4 t h3⟩)
  (by kernel_rfl)
#print axioms proved
end Go.Proofs.YtiacbphnclgikaaDoor.packetLong
