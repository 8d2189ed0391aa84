/-
 Contracts of package peer and of its reference, by walks through their texts; what was there stays as it was.
-/
import Derived.Test.YtdaiacmneopkgaaGreatDoorPeb
import Derived.Laws.Cover3
namespace Go.Proofs.YtdaiacmneopkgaaGreatDoor
set_option linter.unusedSimpArgs false
set_option linter.unusedVariables false
set_option maxRecDepth 100000
set_option maxHeartbeats 4000000
section
open Go.RowKit Go.MapKept
def um (A:ByteArray) (k:Nat) (q:Option Nat):Nat->Value
 |0=> .string A|1=> .int .i64 (k:Int)|_=> .map q
structure Pe (w:World) (g m:Nat) (A:ByteArray) (k n:Nat) (c:ByteArray->Nat) (z:Bool):Prop where
 cx:Cx w g 3 (um A k (if z then some m else none))
 mp:z=true->Mp w m c
 few:k<=n/\ ∀s,c s<=n
 len:A.size<=9223372036854775807
def kg (A:ByteArray):Bool:=decide (A.size=0)
def isM (A s:ByteArray):Bool:=lM s && !decide (s=A)
def kP (A s:ByteArray) (k:Nat):Nat:=if isM A s then k+1 else k
def cP (c:ByteArray->Nat) (s:ByteArray):ByteArray->Nat:=if lM s then xS c s else c
section
variable {w w':World} {g m k n:Nat} {A:ByteArray} {c:ByteArray->Nat} {z:Bool} {S:Nat->Prop}
theorem Pe.lt (h:Pe w g m A k n c z):g<w.heap.size:=h.cx.lt (by omega)
theorem Pe.VV (h:Pe w g m A k n c true):m<w.heap.size:=(h.mp rfl).lt
theorem Pe.c0 (h:Pe w g m A k n c z):w.cell? ⟨g,0,none⟩=some (.string A):=(h.cx 0 (by omega)).1
theorem Pe.c1 (h:Pe w g m A k n c z):w.cell? ⟨g,1,none⟩=some (.int .i64 (k:Int)):=(h.cx 1 (by omega)).1
theorem Pe.c2 (h:Pe w g m A k n c z):w.cell? ⟨g,2,none⟩=some (.map (if z then some m else none)):=(h.cx 2 (by omega)).1
theorem Pe.z0 (h:Pe w g m A k n c z):w.frozen? ⟨g,0,none⟩=false:=(h.cx 0 (by omega)).2
theorem Pe.z1 (h:Pe w g m A k n c z):w.frozen? ⟨g,1,none⟩=false:=(h.cx 1 (by omega)).2
theorem Pe.ne (h:Pe w g m A k n c true):m≠g:=by
 rintro rfl;have h1:=h.c0;obtain⟨es,clock,hb,_⟩:=h.mp rfl;simp [World.cell?,hb]at h1
theorem Pe.but (h:Pe w g m A k n c z) (hb:bT S w w') (hs: ¬S g) (hm:z=true-> ¬S m):Pe w' g m A k n c z:=⟨h.cx.aG hb hs,λe=>(h.mp e).blk (hb.block m (h.mp e).lt (hm e)),h.few,h.len⟩
theorem Pe.to (h:Pe w g m A k n c z) (hb:Below w.heap.size w w'):Pe w' g m A k n c z:=⟨h.cx.to (by omega) hb,λe=>(h.mp e).blk (hb.block m (h.mp e).lt),h.few,h.len⟩
theorem Pe.drew (h:Pe w g m A k n c z):Pe w.drew g m A k n c z:=⟨h.cx,λe=>(h.mp e).blk rfl,h.few,h.len⟩
theorem Pe.more (h:Pe w g m A k n c z) {n':Nat} (hn:n<=n'):Pe w g m A k n' c z:=⟨h.cx,h.mp,⟨Nat.le_trans h.few.1 hn,λs=>Nat.le_trans (h.few.2 s) hn⟩,h.len⟩
end
theorem aiY (w:World) (q:Option Nat):(binOp .eql 158 (.map q) (.map none)).run Tryz.prog w= .ok (.bool q.isNone) w:=by
 simp only [binOp];simp [run_equal_map_nil w _ _ _ q Tryz.underlying158]
theorem ack {s:ByteArray} :(lN s).size<=9223372036854775807:=by
 cases h:lM s with
 |false=>rw [Oh h];decide
 |true=>rw [Gb h];have:=Og h;omega
theorem aiZ (s:ByteArray) (w:World) (h:s.size<=281474976710656):
  Calls Tryz.prog 135 #[.string s] w λe w'=>e= .returned (.string s)/\Below w.heap.size w w':=by
 have H:=Hi h;clear h;go_enter Tryz.func135,Tryz.ntmps135;go_wp2_with fail;refine(Tryz.stringslite_Clone s _ H.out).mono ?_;rintro e w1 ⟨rfl,hB⟩;go_wp2_with fail;go_ret;exact⟨rfl,hB⟩
theorem SC (A:ByteArray) (w:World):
  Calls Tryz.prog 79 #[.agg #[.string A]] w λe w'=>e= .returned (.bool (kg A))/\Below w.heap.size w w':=by
 by_cases h:A.size=0
 ·obtain⟨e0,e1⟩:=Oa h;rw [show kg A=true from decide_eq_true h];clear h;go_enter Tryz.func79,Tryz.ntmps79;go_wp2_with fail;go_ret;exact⟨rfl,(Below.refl _ _).alloc (Nat.le_refl _) _⟩
 ·obtain⟨e0,e1⟩:=KJ h;rw [show kg A=false from decide_eq_false h];clear h;go_enter Tryz.func79,Tryz.ntmps79;go_wp2_with fail;go_ret;exact⟨rfl,(Below.refl _ _).alloc (Nat.le_refl _) _⟩
theorem LP (s:ByteArray) (w:World):
  Calls Tryz.prog 105 #[.string s] w λe w'=>e= .returned (.agg #[.string (lN s)])/\Below w.heap.size w w':=by
 obtain⟨dK,hu,hd⟩:=row_of (show(Tryz.prog.underlying 157).map (·.isRow)=some true by kernel_rfl);have HU:=Hi hu;clear hu;obtain⟨w1,af⟩:=Lv (w.alloc (.cells #[.string ⟨#[]⟩] 157));have eP:=Bl af;have uK:Cx w1 w.heap.size 1 (λ_=> .string ⟨#[]⟩):=by rw [af];exact Cx.new w 1 (λ_=> .string ⟨#[]⟩) _
 obtain⟨z,hz⟩: ∃z,lM s=z:=⟨_,rfl⟩;have HZ:=Hi hz;clear hz;cases z with
 |false=>
  rw [Oh HZ.out];go_enter Tryz.func105,Tryz.ntmps105;go_wp2_with fail;rw [<-af];clear af;refine(aaz s _).mono ?_;rintro e w2 ⟨rfl,hq⟩;have aF:=Tq eP hq;have eD:=uK.t hq;clear eP uK hq;rw [HZ.out];have HL:=Hi eD;have k0:=(eD 0 (by omega)).1;have k1:=(eD 0 (by omega)).2;clear eD;go_wp2_with fail;refine bodyPost_ret (v:= .agg #[.string ⟨#[]⟩]) (Dn (n:=1) rfl rfl (c:=λ_=> .string (⟨#[]⟩)) ?_ HU.out hd (by rw [dB];kernel_rfl)) rfl ⟨rfl,aF.setCell (Nat.le_refl _) _⟩;exact(HL.out.set _ (by omega)).ext (λj hj=>by obtain rfl:j=0:=(by omega);rfl)
 |true=>
  rw [Gb HZ.out];go_enter Tryz.func105,Tryz.ntmps105;go_wp2_with fail;rw [<-af];clear af;refine(aaz s _).mono ?_;rintro e w2 ⟨rfl,hq⟩;have aF:=Tq eP hq;have eD:=uK.t hq;clear eP uK hq;rw [HZ.out];have HL:=Hi eD;have k0:=(eD 0 (by omega)).1;have k1:=(eD 0 (by omega)).2;clear eD;go_wp2_with fail;refine(aiZ s _ (by have:=Og HZ.out;omega)).mono ?_;rintro e w3 ⟨rfl,hq⟩;have aS:=Tq aF hq;have lV:=HL.out.to (by omega) hq;clear k0 k1;have k0:=(lV 0 (by omega)).1;have k1:=(lV 0 (by omega)).2;go_wp2_with fail;refine bodyPost_ret (v:= .agg #[.string s]) (Dn (n:=1) rfl rfl (c:=λ_=> .string (s)) ?_ HU.out hd (by rw [dB];kernel_rfl)) rfl ⟨rfl,aS.setCell (Nat.le_refl _) _⟩;exact(lV.set _ (by omega)).ext (λj hj=>by obtain rfl:j=0:=(by omega);rfl)
theorem SB (g m:Nat) (A:ByteArray) (k n:Nat) (c:ByteArray->Nat) (z:Bool) (w:World) (h:Pe w g m A k n c z):
  Calls Tryz.prog 132 #[.pointer (some ⟨g,0,none⟩)] w λe w'=>e= .returned (.bool (!z))/\w'=w:=by
 have c2:=h.c2;have Gz:=λV=>aiY V (if z then some m else none);clear h;cases z with
 |false=>
  simp only [if_true,Bool.false_eq_true,if_false]at c2 Gz;go_enter Tryz.func132,Tryz.ntmps132;go_wp2_with fail;go_ret;exact⟨rfl,rfl⟩
 |true=>
  simp only [if_true,Bool.false_eq_true,if_false]at c2 Gz;go_enter Tryz.func132,Tryz.ntmps132;go_wp2_with fail;go_ret;exact⟨rfl,rfl⟩
theorem ai0 (s:ByteArray) (w:World):
  Calls Tryz.prog 71 #[.string s] w λe w'=> ∃g m,e= .returned (.pointer (some ⟨g,0,none⟩))/\w.heap.size<=g/\w.heap.size<=m/\Pe w' g m (lN s) 0 0 (λ_=>0) true/\Below w.heap.size w w':=by
 have hmm:= @run_makeMap Tryz.prog;go_enter Tryz.func71,Tryz.ntmps71;go_wp2_with fail;refine(LP s _).mono ?_;rintro e w1 ⟨rfl,hB⟩;obtain⟨X,hX⟩: ∃X,lN s=X:=⟨_,rfl⟩;have HX:=Hi (show X.size<=9223372036854775807 by rw [<-hX];exact ack);rw [hX];have Jm:=Hi hX;clear hX;go_wp2_with fail;go_ret;have aF:=hB.alloc hB.size (.map #[] 0);have h9:w.heap.size<=(w1.alloc (.map #[] 0)).heap.size:=aF.size;have zk:(w1.alloc (.map #[] 0)).heap.size=w1.heap.size+1:=by simp
 refine⟨_,w1.heap.size,rfl,(by omega),hB.size,⟨?_,λ_=> ?_,⟨Nat.le_refl _,λ_=>Nat.le_refl _⟩,by rw [Jm.out];exact HX.out⟩,aF.alloc h9 _⟩
 ·rw [Jm.out];have hC:=Cx.new (w1.alloc (.map #[] 0)) 3 (um X 0 (some w1.heap.size)) 160;rw [zk]at hC;exact hC
 ·exact(Mp.new w1).blk (Below.heap_alloc _ _ _ (by omega))
theorem ai1 (s:ByteArray) (w:World):
  Calls Tryz.prog 70 #[.string s] w λe w'=> ∃g,e= .returned (.pointer (some ⟨g,0,none⟩))/\w.heap.size<=g/\Pe w' g 0 (lN s) 0 0 (λ_=>0) false/\Below w.heap.size w w':=by
 go_enter Tryz.func70,Tryz.ntmps70;go_wp2_with fail;refine(LP s _).mono ?_;rintro e w1 ⟨rfl,hB⟩;obtain⟨X,hX⟩: ∃X,lN s=X:=⟨_,rfl⟩;have HX:=Hi (show X.size<=9223372036854775807 by rw [<-hX];exact ack);rw [hX];have Jm:=Hi hX;clear hX;go_wp2_with fail;go_ret;refine⟨_,rfl,hB.size,⟨?_,λe=>(by cases e),⟨Nat.le_refl _,λ_=>Nat.le_refl _⟩,by rw [Jm.out];exact HX.out⟩,hB.alloc hB.size _⟩;rw [Jm.out];exact Cx.new _ 3 (um X 0 none) _
theorem Wm (g m:Nat) (A:ByteArray) (k n:Nat) (c:ByteArray->Nat) (z:Bool) (w:World) (h:Pe w g m A k n c z):
  Calls Tryz.prog 64 #[.pointer (some ⟨g,0,none⟩)] w λe w'=>e= .returned (.int .i64 (k:Int))/\w'=w:=by
 have c1:=h.c1;clear h;go_enter Tryz.func64,Tryz.ntmps64;go_wp2_with fail;go_ret;exact⟨rfl,rfl⟩
theorem MB (g m:Nat) (A:ByteArray) (k n:Nat) (c:ByteArray->Nat) (z:Bool) (w:World) (h:Pe w g m A k n c z):
  Calls Tryz.prog 41 #[.pointer (some ⟨g,0,none⟩)] w λe w'=>e= .returned (.tuple #[.string A,.bool (!kg A)])/\Below w.heap.size w w':=by
 obtain⟨q,dH⟩: ∃q,(if z=true then some m else none)=q:=⟨_,rfl⟩;have HC:=Hi h.cx;rw [dH]at HC;clear dH h;go_enter Tryz.func41,Tryz.ntmps41;go_wp2_with fail;refine wp_region_held_drew (S:=λW=>Cx W g 3 (um A k q)/\Below w.heap.size w W) (by kernel_rfl) ⟨HC.out.drew,(Below.refl w.heap.size w).drew⟩ (λaa=> ?_);generalize World.drew w=ad at*;refine ty 0 rfl ?_;refine ty 1 rfl ?_;refine ty 2 rfl ?_;refine ty 3 rfl ?_;refine ty 4 rfl ?_ (λW hSw=>by have c0:W.cell? ⟨g,0,none⟩=some (.string A):=(hSw.1 0 (by omega)).1;go_simp;try with_reducible rfl);refine ty 5 rfl ?_;refine ty 6 rfl ?_;refine ty 7 rfl ?_;refine ty 8 rfl ?_ (λW hSw=>by have c0:W.cell? ⟨g,0,none⟩=some (.string A):=(hSw.1 0 (by omega)).1;go_simp;try with_reducible rfl);refine rq 9 rfl (SC A _) aa ?_;clear aa;intro a10 hq aa;clear hq;try simp only [nr]
 refine ty 10 rfl ?_;refine ty 11 rfl ?_;refine ty 12 rfl ?_;refine wpAnyH_done (by kernel_rfl) ?_ _;have XV:=aa.2;clear aa;go_wp2_with fail;go_ret2;exact⟨rfl,XV⟩
end
section
open Go.RowKit Go.MapKept
theorem Sw {P:Program} {o:Oper} {a:Act} {w:World} {K:Act->World->Prop} {Q:Exit->Act->World->Prop} (t:TypeId) (m x:Operand) (ho:o.op= .lookup t m x false) (mv xv v:Value) (hm:a.eval m=mv) (hx:a.eval x=xv)
  (hr:(Instr.lookup t mv xv false).run P w= .ok v w) (h:K (a.put o.dst v) w):o.wp P a w K Q:=by
 unfold Oper.wp execOp;simp only [ho,hm,hx,Sem.run_bind,hr,Result.andThen_ok];exact h
theorem Sz {P:Program} {o:Oper} {a:Act} {w W:World} {K:Act->World->Prop} {Q:Exit->Act->World->Prop} (t:TypeId) (m x:Operand) (ho:o.op= .mapEntry t m x) (mv xv v:Value) (hm:a.eval m=mv) (hx:a.eval x=xv)
  (hr:(Instr.mapEntry t mv xv).run P w= .ok v W) (h:K (a.put o.dst v) W):o.wp P a w K Q:=by
 unfold Oper.wp execOp;simp only [ho,hm,hx,Sem.run_bind,hr,Result.andThen_ok];exact h
theorem SA {P:Program} {o:Oper} {a:Act} {w W:World} {K:Act->World->Prop} {Q:Exit->Act->World->Prop} (t:TypeId) (m s x:Operand) (ho:o.op= .entryStore t m s x) (mv sv xv:Value) (hm:a.eval m=mv) (hs:a.eval s=sv) (hx:a.eval x=xv)
  (hr:(Instr.entryStore t mv sv xv).run P w= .ok () W) (h:K (a.put o.dst undef) W):o.wp P a w K Q:=by
 unfold Oper.wp execOp;simp only [ho,hm,hs,hx,Sem.run_bind,hr,Result.andThen_ok];exact h
theorem Mp.drew {w:World} {m:Nat} {c:ByteArray->Nat} (h:Mp w m c):Mp w.drew m c:=h.blk rfl
theorem Ms.blk {w W:World} {m st:Nat} {c:ByteArray->Nat} {s:ByteArray} (h:Ms w m c s st) (he:W.heap[m]?=w.heap[m]?):Ms W m c s st:=by obtain⟨es,k,h1,h2⟩:=h;exact⟨es,k,he.trans h1,h2⟩
theorem bT.GI {g m:Nat} {w W W':World} (h:bT (Tw g m) w W) (k:bT (On m) W W'):bT (Tw g m) w W':=h.trans ⟨k.os,k.tape,k.output,k.size,λi hi hs=>k.block i hi (λe=>hs (.inr e))⟩
theorem eqT {a b:ByteArray} (h:a=b):(a.toList==b.toList)=true:=by rw [RI];exact decide_eq_true h
theorem eqF {a b:ByteArray} (h: ¬a=b):(a.toList==b.toList)=false:=by rw [RI];exact decide_eq_false h
theorem abR {s:ByteArray} (h:lM s=true):kg s=false:=decide_eq_false (by have:=Og h;omega)
theorem ah9 (g m:Nat) (A:ByteArray) (k n:Nat) (c:ByteArray->Nat) (s:ByteArray) (w:World) (h:Pe w g m A k n c false):
  Calls Tryz.prog 101 #[.pointer (some ⟨g,0,none⟩),.string s] w λe w'=>e= .returned (.bool false)/\Below w.heap.size w w':=by
 obtain⟨X,hX⟩: ∃X,lN s=X:=⟨_,rfl⟩;have HX:=Hi hX;go_enter Tryz.func101,Tryz.ntmps101;go_wp2_with fail;refine(LP s _).mono ?_;rintro e w1 ⟨rfl,hq⟩;rw [hX];clear hX;obtain⟨w2,ag⟩:=Lv (w1.alloc (.cells #[.string X] 157));obtain⟨p,hp⟩:=Le (w1.heap.size);have bG:Cx w2 p 1 (λ_=> .string X):=by rw [ag,<-hp];exact Cx.new w1 1 (λ_=> .string X) _
 have hlt:w.heap.size<=p:=by rw [<-hp];exact hq.size
 have iX:=Bm ag hq;have h2:=h.to iX;go_upto_region 2 with fail;rw [<-ag];try rw [hp]
 clear ag hp hq;go_wp2_with fail;refine(SB g m A k n c false _ h2).mono ?_;rintro e w9 ⟨rfl,cz⟩;rw [cz];clear cz w9;simp only [Bool.not_false];go_wp2_with fail;go_ret;exact⟨rfl,iX⟩
theorem aia (g m:Nat) (A:ByteArray) (k n:Nat) (c:ByteArray->Nat) (s:ByteArray) (w:World) (h:Pe w g m A k n c true) (hs:lM s=false):
  Calls Tryz.prog 101 #[.pointer (some ⟨g,0,none⟩),.string s] w λe w'=>e= .returned (.bool false)/\Below w.heap.size w w':=by
 have HS:=Hi hs;clear hs;obtain⟨X,hX⟩: ∃X,lN s=X:=⟨_,rfl⟩;have HX:=Hi hX;go_enter Tryz.func101,Tryz.ntmps101;go_wp2_with fail;refine(LP s _).mono ?_;rintro e w1 ⟨rfl,hq⟩;rw [hX];clear hX;obtain⟨w2,ag⟩:=Lv (w1.alloc (.cells #[.string X] 157));obtain⟨p,hp⟩:=Le (w1.heap.size);have bG:Cx w2 p 1 (λ_=> .string X):=by rw [ag,<-hp];exact Cx.new w1 1 (λ_=> .string X) _
 have hlt:w.heap.size<=p:=by rw [<-hp];exact hq.size
 have iX:=Bm ag hq;have h2:=h.to iX;go_upto_region 2 with fail;rw [<-ag];try rw [hp]
 clear ag hp hq;go_wp2_with fail;refine(SB g m A k n c true _ h2).mono ?_;rintro e w9 ⟨rfl,cz⟩;rw [cz];clear cz w9;simp only [Bool.not_true];have k0:=(bG 0 (by omega)).1;go_wp2_with fail;refine(SC X _).mono ?_;rintro e w3 ⟨rfl,pV⟩;rw [show kg X=true by rw [<-HX.out,Oh HS.out];rfl];go_wp2_with fail;go_ret;exact⟨rfl,iX.trans (pV.mono iX.size)⟩
theorem Mp.cell {w:World} {m:Nat} {c:ByteArray->Nat} (h:Mp w m c) {p:Addr} {u:Value} (hp:p.block≠m):Mp (w.setCell p u) m c:=h.blk (Below.heap_setCell w p u m (λe=>hp e.symm))
theorem aib (g m:Nat) (A:ByteArray) (k n:Nat) (c:ByteArray->Nat) (s:ByteArray) (w:World) (h:Pe w g m A k n c true) (hs:lM s=true) (he:s=A) (hn:n<4611686018427387904):
  Calls Tryz.prog 101 #[.pointer (some ⟨g,0,none⟩),.string s] w λe w'=>e= .returned (.bool false)/\Pe w' g m A (k) (n+1) (xS c s) true/\bT (Tw g m) w w':=by
 obtain⟨HS,HL,HA,HE,Yk⟩:=jX hs (show s.size<=9223372036854775807 by have:=Og hs;omega) h.len (eqT he) he;clear hs he;obtain⟨y,hy⟩: ∃y,c s=y:=⟨_,rfl⟩;obtain⟨x,hx⟩: ∃x,y+1=x:=⟨_,rfl⟩;have hyn:y<=n:=by rw [<-hy];exact h.few.2 s
 obtain⟨HF,XW,HY,Jy,PH⟩:=jX (show k<=n+1/\ ∀t,xS c s t<=n+1 from⟨by have:=h.few.1;omega,λt=>by unfold xS;split;have:=h.few.2 s;omega;have:=h.few.2 t;omega⟩) (show wrap64 ((y:Int)+1)=(x:Int)/\IntKind.i64.wrap ((y:Int)+1)=(x:Int)by refine⟨?_,?_⟩;rw [IntWalk.wrap64_in _ (by omega)];omega;rw [IntKind.wrap_i64];omega) hy hx (show wrap64 ((k:Int)+1)=((k+1:Nat):Int)by have:=h.few.1;rw [IntWalk.wrap64_in _ (by omega)];omega);clear hy hx hyn hn;have XZ:=h.ne;have VC:=h.lt;have hlm:=h.VV;obtain⟨X,hX⟩: ∃X,lN s=X:=⟨_,rfl⟩;have HX:=Hi hX;go_enter Tryz.func101,Tryz.ntmps101;go_wp2_with fail;refine(LP s _).mono ?_;rintro e w1 ⟨rfl,hq⟩;rw [hX];clear hX;obtain⟨w2,ag⟩:=Lv (w1.alloc (.cells #[.string X] 157));obtain⟨p,hp⟩:=Le (w1.heap.size);have bG:Cx w2 p 1 (λ_=> .string X):=by rw [ag,<-hp];exact Cx.new w1 1 (λ_=> .string X) _
 have hlt:w.heap.size<=p:=by rw [<-hp];exact hq.size
 have iX:=Bm ag hq;have h2:=h.to iX;go_upto_region 2 with fail;rw [<-ag];try rw [hp]
 clear ag hp hq;go_wp2_with fail;refine(SB g m A k n c true _ h2).mono ?_;rintro e w9 ⟨rfl,cz⟩;rw [cz];clear cz w9;simp only [Bool.not_true];have k0:=(bG 0 (by omega)).1;go_wp2_with fail;refine(SC X _).mono ?_;rintro e w3 ⟨rfl,pV⟩;rw [show kg X=false by rw [<-HX.out,Gb HS.out];exact abR HS.out];have h3:=h2.to pV;have BM:=bG.to (by omega) pV;rw [show X=s by rw [<-HX.out,Gb HS.out]]at BM;have Dl:=h3.cx;have X0:=h3.mp rfl;simp only [if_true]at Dl;have X3:bT (Tw g m) w w3:=bT.of (iX.trans (pV.mono iX.size));clear h h2 h3 bG iX pV k0;go_wp2_with fail;have XV:=X0.drew;refine wp_region_held_drew (S:=λW=>Cx W p 1 (λ_=> .string s)/\Cx W g 3 (um A k (some m))/\bT (Tw g m) w W) (by kernel_rfl) ⟨BM.drew,Dl.drew,X3.drew⟩ (λaa=> ?_);clear BM Dl X3 X0;generalize World.drew w3=Yl at*;refine ty 0 rfl ?_;refine ty 1 rfl ?_;refine ty 2 rfl ?_;refine ty 3 rfl ?_ (λW hSw=>by have c2:=(hSw.2.1 2 (by omega)).1;simp only [um]at c2;go_simp;try with_reducible rfl);refine ty 4 rfl ?_ (λW hSw=>by have k0:=(hSw.1 0 (by omega)).1;go_simp;try with_reducible rfl);refine uO 5 7 rfl rfl (λK hK=> ?_) (λK hK=> ?_)
 ·rw [if_pos (by rfl)];refine Sw _ _ _ rfl (.map (some m)) (lJ s) (.int .i64 (y:Int)) rfl rfl (by rw [<-HY.out];exact RD XV HL.out) ?_;refine hK.out _ _ aa ?_;clear hK K aa;intro aa;try simp only [nr]
  refine ty 6 rfl ?_ (λW hSw=>by have i8:=XW.out.1;have i9:=XW.out.2;go_simp;try with_reducible rfl);refine rd 7 rfl (λK hK=> ?_);rw [if_pos (by rfl)];obtain⟨st,r7,hr,XX,hq⟩:=RF XV HL.out;rw [HY.out]at hr;have Ye:=XX.mp;refine Sz _ _ _ rfl (.map (some m)) (lJ s) (.tuple #[.int .i64 (y:Int),.int .i64 (st:Int)]) rfl rfl hr ?_;refine hK.out _ _ ⟨(aa.1).aG hq (On.ne (by omega)),(aa.2.1).aG hq (On.ne (by omega)),(aa.2.2).GI hq⟩ ?_;clear hK K aa hr hq XV;intro aa;try simp only [nr]
  refine ty 8 rfl ?_;refine rd 9 rfl (λK hK=> ?_);rw [if_pos (by rfl)];obtain⟨r9,hr,X4,hq⟩:=RG XX x (by rw [HY.out];exact Jy.out);refine SA _ _ _ _ rfl (.map (some m)) (.int .i64 (st:Int)) (.int .i64 (x:Int)) rfl rfl rfl hr ?_;refine hK.out _ _ ⟨(aa.1).aG hq (On.ne (by omega)),(aa.2.1).aG hq (On.ne (by omega)),(aa.2.2).GI hq⟩ ?_;clear hK K aa hr hq Ye XX;intro aa;try simp only [Act.put]
  refine wpAnyH_done (by kernel_rfl) ?_ _;have X5:=aa.1;have X6:=aa.2.1;have X7:=aa.2.2;clear aa;go_wp2_with fail;have Yf:=X4.drew;refine wp_region_held_drew (S:=λW=>Cx W p 1 (λ_=> .string s)/\Cx W g 3 (um A k (some m))/\bT (Tw g m) w W) (by kernel_rfl) ⟨X5.drew,X6.drew,X7.drew⟩ (λaa=> ?_);clear X5 X6 X7 X4;generalize World.drew r9=Ym at*;refine ty 0 rfl ?_ (λW hSw=>by have k0:=(hSw.1 0 (by omega)).1;go_simp;try with_reducible rfl);refine ty 1 rfl ?_;refine ty 2 rfl ?_;refine ty 3 rfl ?_;refine ty 4 rfl ?_ (λW hSw=>by have c0:=(hSw.2.1 0 (by omega)).1;simp only [um]at c0;go_simp;try with_reducible rfl);refine tw 5 (.bool true) rfl ?Yg ?Yn;case Yg=>
   intro W hSw;have e9:=HE.out;go_simp;try with_reducible rfl
  simp only [nr];refine wpAnyH_done (by kernel_rfl) ?_ _;have hT:=aa.1;have hG:=aa.2.1;have hU:=aa.2.2;clear aa;go_wp2_with fail;go_ret;exact⟨rfl,⟨hG,λ_=>Yf,HF.out,HA.out⟩,hU⟩
 ·rw [if_pos (by rfl)];obtain⟨st,Yo,hr,XY,hq⟩:=RF XV HL.out;rw [HY.out]at hr;have X8:=XY.mp;refine Sz _ _ _ rfl (.map (some m)) (lJ s) (.tuple #[.int .i64 (y:Int),.int .i64 (st:Int)]) rfl rfl hr ?_;refine hK.out _ _ ⟨(aa.1).aG hq (On.ne (by omega)),(aa.2.1).aG hq (On.ne (by omega)),(aa.2.2).GI hq⟩ ?_;clear hK K aa hr hq XV;intro aa;try simp only [nr]
  refine ty 8 rfl ?_;refine rd 5 rfl (λK hK=> ?_);rw [if_pos (by rfl)];refine Sw _ _ _ rfl (.map (some m)) (lJ s) (.int .i64 (y:Int)) rfl rfl (by rw [<-HY.out];exact RD X8 HL.out) ?_;refine hK.out _ _ aa ?_;clear hK K aa;intro aa;try simp only [nr]
  refine ty 6 rfl ?_ (λW hSw=>by have i8:=XW.out.1;have i9:=XW.out.2;go_simp;try with_reducible rfl);refine rd 9 rfl (λK hK=> ?_);rw [if_pos (by rfl)];obtain⟨Yh,hr,Ya,hq⟩:=RG XY x (by rw [HY.out];exact Jy.out);refine SA _ _ _ _ rfl (.map (some m)) (.int .i64 (st:Int)) (.int .i64 (x:Int)) rfl rfl rfl hr ?_;refine hK.out _ _ ⟨(aa.1).aG hq (On.ne (by omega)),(aa.2.1).aG hq (On.ne (by omega)),(aa.2.2).GI hq⟩ ?_;clear hK K aa hr hq X8 XY;intro aa;try simp only [Act.put]
  refine wpAnyH_done (by kernel_rfl) ?_ _;have Yb:=aa.1;have Yc:=aa.2.1;have Yd:=aa.2.2;clear aa;go_wp2_with fail;have Yi:=Ya.drew;refine wp_region_held_drew (S:=λW=>Cx W p 1 (λ_=> .string s)/\Cx W g 3 (um A k (some m))/\bT (Tw g m) w W) (by kernel_rfl) ⟨Yb.drew,Yc.drew,Yd.drew⟩ (λaa=> ?_);clear Yb Yc Yd Ya;generalize World.drew Yh=Yp at*;refine ty 0 rfl ?_ (λW hSw=>by have k0:=(hSw.1 0 (by omega)).1;go_simp;try with_reducible rfl);refine ty 1 rfl ?_;refine ty 2 rfl ?_;refine ty 3 rfl ?_;refine ty 4 rfl ?_ (λW hSw=>by have c0:=(hSw.2.1 0 (by omega)).1;simp only [um]at c0;go_simp;try with_reducible rfl);refine tw 5 (.bool true) rfl ?Yj ?Yq;case Yj=>
   intro W hSw;have e9:=HE.out;go_simp;try with_reducible rfl
  simp only [nr];refine wpAnyH_done (by kernel_rfl) ?_ _;have hT:=aa.1;have hG:=aa.2.1;have hU:=aa.2.2;clear aa;go_wp2_with fail;go_ret;exact⟨rfl,⟨hG,λ_=>Yi,HF.out,HA.out⟩,hU⟩
theorem aic (g m:Nat) (A:ByteArray) (k n:Nat) (c:ByteArray->Nat) (s:ByteArray) (w:World) (h:Pe w g m A k n c true) (hs:lM s=true) (he: ¬s=A) (hn:n<4611686018427387904):
  Calls Tryz.prog 101 #[.pointer (some ⟨g,0,none⟩),.string s] w λe w'=>e= .returned (.bool true)/\Pe w' g m s (k+1) (n+1) (xS c s) true/\bT (Tw g m) w w':=by
 obtain⟨HS,HL,HA,HE,Yk⟩:=jX hs (show s.size<=9223372036854775807 by have:=Og hs;omega) h.len (eqF he) he;clear hs he;obtain⟨y,hy⟩: ∃y,c s=y:=⟨_,rfl⟩;obtain⟨x,hx⟩: ∃x,y+1=x:=⟨_,rfl⟩;have hyn:y<=n:=by rw [<-hy];exact h.few.2 s
 obtain⟨HF,XW,HY,Jy,PH⟩:=jX (show k+1<=n+1/\ ∀t,xS c s t<=n+1 from⟨by have:=h.few.1;omega,λt=>by unfold xS;split;have:=h.few.2 s;omega;have:=h.few.2 t;omega⟩) (show wrap64 ((y:Int)+1)=(x:Int)/\IntKind.i64.wrap ((y:Int)+1)=(x:Int)by refine⟨?_,?_⟩;rw [IntWalk.wrap64_in _ (by omega)];omega;rw [IntKind.wrap_i64];omega) hy hx (show wrap64 ((k:Int)+1)=((k+1:Nat):Int)by have:=h.few.1;rw [IntWalk.wrap64_in _ (by omega)];omega);clear hy hx hyn hn;have XZ:=h.ne;have VC:=h.lt;have hlm:=h.VV;obtain⟨X,hX⟩: ∃X,lN s=X:=⟨_,rfl⟩;have HX:=Hi hX;go_enter Tryz.func101,Tryz.ntmps101;go_wp2_with fail;refine(LP s _).mono ?_;rintro e w1 ⟨rfl,hq⟩;rw [hX];clear hX;obtain⟨w2,ag⟩:=Lv (w1.alloc (.cells #[.string X] 157));obtain⟨p,hp⟩:=Le (w1.heap.size);have bG:Cx w2 p 1 (λ_=> .string X):=by rw [ag,<-hp];exact Cx.new w1 1 (λ_=> .string X) _
 have hlt:w.heap.size<=p:=by rw [<-hp];exact hq.size
 have iX:=Bm ag hq;have h2:=h.to iX;go_upto_region 2 with fail;rw [<-ag];try rw [hp]
 clear ag hp hq;go_wp2_with fail;refine(SB g m A k n c true _ h2).mono ?_;rintro e w9 ⟨rfl,cz⟩;rw [cz];clear cz w9;simp only [Bool.not_true];have k0:=(bG 0 (by omega)).1;go_wp2_with fail;refine(SC X _).mono ?_;rintro e w3 ⟨rfl,pV⟩;rw [show kg X=false by rw [<-HX.out,Gb HS.out];exact abR HS.out];have h3:=h2.to pV;have BM:=bG.to (by omega) pV;rw [show X=s by rw [<-HX.out,Gb HS.out]]at BM;have Dl:=h3.cx;have X0:=h3.mp rfl;simp only [if_true]at Dl;have X3:bT (Tw g m) w w3:=bT.of (iX.trans (pV.mono iX.size));clear h h2 h3 bG iX pV k0;go_wp2_with fail;have XV:=X0.drew;refine wp_region_held_drew (S:=λW=>Cx W p 1 (λ_=> .string s)/\Cx W g 3 (um A k (some m))/\bT (Tw g m) w W) (by kernel_rfl) ⟨BM.drew,Dl.drew,X3.drew⟩ (λaa=> ?_);clear BM Dl X3 X0;generalize World.drew w3=Yl at*;refine ty 0 rfl ?_;refine ty 1 rfl ?_;refine ty 2 rfl ?_;refine ty 3 rfl ?_ (λW hSw=>by have c2:=(hSw.2.1 2 (by omega)).1;simp only [um]at c2;go_simp;try with_reducible rfl);refine ty 4 rfl ?_ (λW hSw=>by have k0:=(hSw.1 0 (by omega)).1;go_simp;try with_reducible rfl);refine uO 5 7 rfl rfl (λK hK=> ?_) (λK hK=> ?_)
 ·rw [if_pos (by rfl)];refine Sw _ _ _ rfl (.map (some m)) (lJ s) (.int .i64 (y:Int)) rfl rfl (by rw [<-HY.out];exact RD XV HL.out) ?_;refine hK.out _ _ aa ?_;clear hK K aa;intro aa;try simp only [nr]
  refine ty 6 rfl ?_ (λW hSw=>by have i8:=XW.out.1;have i9:=XW.out.2;go_simp;try with_reducible rfl);refine rd 7 rfl (λK hK=> ?_);rw [if_pos (by rfl)];obtain⟨st,r7,hr,XX,hq⟩:=RF XV HL.out;rw [HY.out]at hr;have Ye:=XX.mp;refine Sz _ _ _ rfl (.map (some m)) (lJ s) (.tuple #[.int .i64 (y:Int),.int .i64 (st:Int)]) rfl rfl hr ?_;refine hK.out _ _ ⟨(aa.1).aG hq (On.ne (by omega)),(aa.2.1).aG hq (On.ne (by omega)),(aa.2.2).GI hq⟩ ?_;clear hK K aa hr hq XV;intro aa;try simp only [nr]
  refine ty 8 rfl ?_;refine rd 9 rfl (λK hK=> ?_);rw [if_pos (by rfl)];obtain⟨r9,hr,X4,hq⟩:=RG XX x (by rw [HY.out];exact Jy.out);refine SA _ _ _ _ rfl (.map (some m)) (.int .i64 (st:Int)) (.int .i64 (x:Int)) rfl rfl rfl hr ?_;refine hK.out _ _ ⟨(aa.1).aG hq (On.ne (by omega)),(aa.2.1).aG hq (On.ne (by omega)),(aa.2.2).GI hq⟩ ?_;clear hK K aa hr hq Ye XX;intro aa;try simp only [Act.put]
  refine wpAnyH_done (by kernel_rfl) ?_ _;have X5:=aa.1;have X6:=aa.2.1;have X7:=aa.2.2;clear aa;go_wp2_with fail;have Yf:=X4.drew;refine wp_region_held_drew (S:=λW=>Cx W p 1 (λ_=> .string s)/\Cx W g 3 (um A k (some m))/\bT (Tw g m) w W) (by kernel_rfl) ⟨X5.drew,X6.drew,X7.drew⟩ (λaa=> ?_);clear X5 X6 X7 X4;generalize World.drew r9=Ym at*;refine ty 0 rfl ?_ (λW hSw=>by have k0:=(hSw.1 0 (by omega)).1;go_simp;try with_reducible rfl);refine ty 1 rfl ?_;refine ty 2 rfl ?_;refine ty 3 rfl ?_;refine ty 4 rfl ?_ (λW hSw=>by have c0:=(hSw.2.1 0 (by omega)).1;simp only [um]at c0;go_simp;try with_reducible rfl);refine tw 5 (.bool false) rfl ?Yg ?Yn;case Yg=>
   intro W hSw;have e9:=HE.out;go_simp;try with_reducible rfl
  simp only [nr];refine wpAnyH_done (by kernel_rfl) ?_ _;have hT:=aa.1;have hG:=aa.2.1;have hU:=aa.2.2;clear aa;have k0:=(hT 0 (by omega)).1;have c0:=(hG 0 (by omega)).1;have z0:=(hG 0 (by omega)).2;have c1:=(hG 1 (by omega)).1;have z1:=(hG 1 (by omega)).2;simp only [um]at c0 c1;have HG:=Hi hG;clear hG hT;go_wp2_with fail;try rw [PH.out]
  go_ret;refine⟨rfl,⟨((HG.out.set _ (by omega)).set _ (by omega)).ext (λj hj=> ?_),λ_=>((Yf.cell (show g≠m from λe=>XZ e.symm)).cell (show g≠m from λe=>XZ e.symm)),HF.out,HL.out⟩,(hU.set (.inl rfl) _).set (.inl rfl) _⟩;have PI:j=0\/j=1\/j=2:=by omega
  rcases PI with rfl|rfl|rfl<;>rfl
 ·rw [if_pos (by rfl)];obtain⟨st,Yo,hr,XY,hq⟩:=RF XV HL.out;rw [HY.out]at hr;have X8:=XY.mp;refine Sz _ _ _ rfl (.map (some m)) (lJ s) (.tuple #[.int .i64 (y:Int),.int .i64 (st:Int)]) rfl rfl hr ?_;refine hK.out _ _ ⟨(aa.1).aG hq (On.ne (by omega)),(aa.2.1).aG hq (On.ne (by omega)),(aa.2.2).GI hq⟩ ?_;clear hK K aa hr hq XV;intro aa;try simp only [nr]
  refine ty 8 rfl ?_;refine rd 5 rfl (λK hK=> ?_);rw [if_pos (by rfl)];refine Sw _ _ _ rfl (.map (some m)) (lJ s) (.int .i64 (y:Int)) rfl rfl (by rw [<-HY.out];exact RD X8 HL.out) ?_;refine hK.out _ _ aa ?_;clear hK K aa;intro aa;try simp only [nr]
  refine ty 6 rfl ?_ (λW hSw=>by have i8:=XW.out.1;have i9:=XW.out.2;go_simp;try with_reducible rfl);refine rd 9 rfl (λK hK=> ?_);rw [if_pos (by rfl)];obtain⟨Yh,hr,Ya,hq⟩:=RG XY x (by rw [HY.out];exact Jy.out);refine SA _ _ _ _ rfl (.map (some m)) (.int .i64 (st:Int)) (.int .i64 (x:Int)) rfl rfl rfl hr ?_;refine hK.out _ _ ⟨(aa.1).aG hq (On.ne (by omega)),(aa.2.1).aG hq (On.ne (by omega)),(aa.2.2).GI hq⟩ ?_;clear hK K aa hr hq X8 XY;intro aa;try simp only [Act.put]
  refine wpAnyH_done (by kernel_rfl) ?_ _;have Yb:=aa.1;have Yc:=aa.2.1;have Yd:=aa.2.2;clear aa;go_wp2_with fail;have Yi:=Ya.drew;refine wp_region_held_drew (S:=λW=>Cx W p 1 (λ_=> .string s)/\Cx W g 3 (um A k (some m))/\bT (Tw g m) w W) (by kernel_rfl) ⟨Yb.drew,Yc.drew,Yd.drew⟩ (λaa=> ?_);clear Yb Yc Yd Ya;generalize World.drew Yh=Yp at*;refine ty 0 rfl ?_ (λW hSw=>by have k0:=(hSw.1 0 (by omega)).1;go_simp;try with_reducible rfl);refine ty 1 rfl ?_;refine ty 2 rfl ?_;refine ty 3 rfl ?_;refine ty 4 rfl ?_ (λW hSw=>by have c0:=(hSw.2.1 0 (by omega)).1;simp only [um]at c0;go_simp;try with_reducible rfl);refine tw 5 (.bool false) rfl ?Yj ?Yq;case Yj=>
   intro W hSw;have e9:=HE.out;go_simp;try with_reducible rfl
  simp only [nr];refine wpAnyH_done (by kernel_rfl) ?_ _;have hT:=aa.1;have hG:=aa.2.1;have hU:=aa.2.2;clear aa;have k0:=(hT 0 (by omega)).1;have c0:=(hG 0 (by omega)).1;have z0:=(hG 0 (by omega)).2;have c1:=(hG 1 (by omega)).1;have z1:=(hG 1 (by omega)).2;simp only [um]at c0 c1;have HG:=Hi hG;clear hG hT;go_wp2_with fail;try rw [PH.out]
  go_ret;refine⟨rfl,⟨((HG.out.set _ (by omega)).set _ (by omega)).ext (λj hj=> ?_),λ_=>((Yi.cell (show g≠m from λe=>XZ e.symm)).cell (show g≠m from λe=>XZ e.symm)),HF.out,HL.out⟩,(hU.set (.inl rfl) _).set (.inl rfl) _⟩;have PI:j=0\/j=1\/j=2:=by omega
  rcases PI with rfl|rfl|rfl<;>rfl
end
end Go.Proofs.YtdaiacmneopkgaaGreatDoor
