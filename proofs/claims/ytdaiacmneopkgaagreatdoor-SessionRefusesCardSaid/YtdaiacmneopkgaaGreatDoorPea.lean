/-
 Addresses as strings: which are right (okA); which string is before another one (lessA). Contracts of what package peer and the reference package of layer 21 ask of strings, each by a walk through its text; of strings.ContainsRune for every rune that a string may give. What was there stays as it was.
-/
import Derived.Test.YtdaiacmneopkgaaGreatDoorShelf
import Derived.Test.YtdaiacmneopkgaaGreatDoorMbb
import Derived.Laws.IdiomStrings
import Derived.Laws.Concat
import Derived.Laws.Runes
import Derived.Laws.RangeAny
import Derived.Lib.OthersKept
import Derived.WalkSmall
namespace Go.Proofs.YtdaiacmneopkgaaGreatDoor
set_option linter.unusedSimpArgs false
set_option linter.unusedVariables false
set_option maxRecDepth 100000
set_option maxHeartbeats 4000000
open Go.RowKit
theorem CY {a b:Bool} (h:a=b):Ending.returned (.bool a)= .returned (.bool b):=by rw [h]
def iE (s:ByteArray) (i:Nat):Nat:=(s.data.toList.getD i 0).toNat
theorem Od (s:ByteArray) (i:Nat):iE s i<256:=UInt8.toNat_lt _
theorem Oe (s:ByteArray) (i:Nat) (h:i<s.size):(s[i]'h).toNat=iE s i:=by
 unfold iE;have h2:i<s.data.toList.length:=by simpa using h
 rw [List.getD_eq_getElem?_getD,List.getElem?_eq_getElem h2];simp [ByteArray.getElem_eq_getElem_data]
theorem KM (s:ByteArray) (i:Nat) (h:i<s.size) (w:World):(Instr.index 9 (.string s) (.int .i64 (i:Int))).run Tryz.prog w= .ok (.int .u8 (iE s i:Nat)) w:=by
 rw [run_index_string w 9 s .i64 (i:Int) Tryz.underlying9];have h1:(0:Int)<=(i:Int)/\(i:Int)<(s.size:Int):=⟨by omega,by omega⟩;rw [dif_pos h1];simp only [Int.toNat_natCast];rw [Oe s i h]
theorem RI (a b:ByteArray):(a.toList==b.toList)=decide (a=b):=by
 rw [Lib.toList_data,Lib.toList_data];by_cases h:a=b
 ·subst h;simp
 ·rw [decide_eq_false h,beq_eq_false_iff_ne];intro e;exact h (by cases a;cases b;simp at e;rw [ByteArray.mk.injEq];exact e)
theorem afh {a:ByteArray} (h:a.size=0):a=⟨#[]⟩:=by
 cases a with|mk d=>rw [ByteArray.mk.injEq];exact Array.eq_empty_of_size_eq_zero h
theorem Oa {a:ByteArray} (h:a.size=0):a.toList= []/\a.toList.isEmpty=true:=by
 rw [afh h];exact⟨ByteArray.toList_mk [],by rw [show(⟨#[]⟩:ByteArray).toList= []from ByteArray.toList_mk []];rfl⟩
theorem KJ {a:ByteArray} (h: ¬a.size=0): ¬a.toList= []/\a.toList.isEmpty=false:=by
 have e: ¬a.toList= []:=λe=>by
  rw [Lib.toList_data]at e;have h2:a.data.toList.length=0:=by rw [e];rfl
  exact h (by simpa using h2)
 exact⟨e,by rw [List.isEmpty_eq_false_iff];exact e⟩
def iM (c:Nat):Bool:=(decide (65<=c) && decide (c<=90))||(decide (97<=c) && decide (c<=122))||(decide (48<=c) && decide (c<=57))||decide (c=46)||decide (c=58)||decide (c=45)
def lM (s:ByteArray):Bool:=decide (1<=s.size) && (decide (s.size<=100) && decide (∀i,i<s.size->iM (iE s i)=true))
theorem Og {s:ByteArray} (h:lM s=true):1<=s.size/\s.size<=100:=by
 unfold lM at h;simp only [Bool.and_eq_true,decide_eq_true_eq]at h;exact⟨h.1,h.2.1⟩
theorem aat {s:ByteArray} (h:s.size=0):lM s=false:=by unfold lM;rw [decide_eq_false (show¬1<=s.size by omega)];rfl
theorem aau {s:ByteArray} (h:100<s.size):lM s=false:=by unfold lM;rw [decide_eq_false (show¬s.size<=100 by omega)];simp
theorem aav {s:ByteArray} (h1:1<=s.size) (h2:s.size<=100) (h: ∀i,i<s.size->iM (iE s i)=true):lM s=true:=by unfold lM;rw [decide_eq_true h1,decide_eq_true h2,decide_eq_true h];rfl
theorem KN {s:ByteArray} {i:Nat} (hi:i<s.size) (h:iM (iE s i)=false):lM s=false:=by
 unfold lM;rw [decide_eq_false (show¬ ∀i,i<s.size->iM (iE s i)=true from λk=>by rw [k i hi]at h;cases h)];simp
def lN (s:ByteArray):ByteArray:=if lM s then s else⟨#[]⟩
theorem Gb {s:ByteArray} (h:lM s=true):lN s=s:=if_pos h
theorem Oh {s:ByteArray} (h:lM s=false):lN s=⟨#[]⟩:=if_neg (by rw [h];decide)
theorem afi (s:ByteArray) (pos:Nat) (h:pos<s.size) (hc:iE s pos<128):Utf8.decode s pos=(iE s pos,1):=by
 rw [decode_ascii s pos h (by rw [Oe];exact hc),Oe]
theorem afj (s:ByteArray) (pos:Nat) (h:pos<s.size) (hc:128<=iE s pos):128<=(Utf8.decode s pos).1/\(Utf8.decode s pos).1<=1114111/\Utf8.valid ((Utf8.decode s pos).1:Nat)=true:=by
 have h0:=(decode_high s pos h (by rw [Oe];exact hc)).1;have hb: ∀k,(s.get! (pos+k)).toNat<256:=λk=>(s.get! (pos+k)).toNat_lt;refine⟨h0,?_⟩;have h1:=hb 0;have h2:=hb 1;have h3:=hb 2;have h4:=hb 3;simp only [Utf8.decode]at h0⊢;split
 ·rename_i h5;rw [if_pos h5]at h0;simp at h0 h5;omega
 ·split
  ·split
   ·simp only [Utf8.valid,Bool.or_eq_true,Bool.and_eq_true,decide_eq_true_eq];omega
   ·exact⟨by decide,by decide⟩
  ·split
   ·split
    ·rename_i h6;simp only [Bool.and_eq_true,decide_eq_true_eq]at h6;refine⟨?_,h6.2⟩;simp only;omega
    ·exact⟨by decide,by decide⟩
   ·split
    ·split
     ·rename_i h6;simp only [Bool.and_eq_true,decide_eq_true_eq,Utf8.valid,Bool.or_eq_true]at h6⊢;omega
     ·exact⟨by decide,by decide⟩
    ·exact⟨by decide,by decide⟩
theorem zR (a b r:Int) (p:Nat) (z:Bool) (w:World) (hp:w.cell? ⟨p,0,none⟩=some (.int .i32 r)) (hz:(decide (a<=r) && decide (r<=b))=z):
  Calls Tryz.prog 169 #[.int .i32 a,.int .i32 b,.pointer (some ⟨p,0,none⟩)] w λe w'=>e= .returned (.bool z)/\w'=w:=by
 by_cases h1:a<=r
 ·by_cases h2:r<=b
  ·obtain rfl:z=true:=by rw [<-hz,decide_eq_true h1,decide_eq_true h2];rfl
   clear hz;go_enter Tryz.func169,Tryz.ntmps169;go_wp2_with fail;go_ret;exact⟨rfl,rfl⟩
  ·obtain rfl:z=false:=by rw [<-hz,decide_eq_false h2];simp
   clear hz;go_enter Tryz.func169,Tryz.ntmps169;go_wp2_with fail;go_ret;exact⟨rfl,rfl⟩
 ·obtain rfl:z=false:=by rw [<-hz,decide_eq_false h1];rfl
  clear hz;go_enter Tryz.func169,Tryz.ntmps169;go_wp2_with fail;go_ret;exact⟨rfl,rfl⟩
def vE:ByteArray:=⟨#[46,58,45]⟩
theorem afk: ∀c,c<128->decide (0<=Lib.indexByte vE.data.toList ((c:Nat):Int).toNat.toUInt8)=(decide (c=46)||decide (c=58)||decide (c=45)):=by decide+kernel
theorem aaw: ∀i,i<3->Utf8.decode vE i=(iE vE i,1)/\iE vE i≠65533:=by decide+kernel
theorem aax (x:Nat) (h1:128<=x) (h2:x<256):Lib.indexByte [45] (x:Int).toNat.toUInt8= -1/\Lib.indexByte [] (x:Int).toNat.toUInt8= -1:=by
 refine⟨?_,rfl⟩;have: ∀x,x<256->128<=x->Lib.indexByte [45] ((x:Nat):Int).toNat.toUInt8= -1:=by decide+kernel
 exact this x h2 h1
theorem afl (r:Nat) (w:World) (h0:128<=r) (h1:r<=1114111) (hv:Utf8.valid (r:Int)=true):
  Calls Tryz.prog 209 #[.string ⟨#[46,58,45]⟩,.int .i32 (r:Int)] w λe w'=>e= .returned (.int .i64 (-1))/\Below w.heap.size w w':=by
 have i1: ¬(r:Int)<128:=by omega
 have X5:decide ((r:Int)<128)=false:=decide_eq_false i1;have i0:(0:Int)<=(r:Int):=by omega
 by_cases he:r=65533
 ·subst he;clear h0 h1 hv i1 i0 X5;go_enter Tryz.func209,Tryz.ntmps209;go_wp2_with fail;go_loopw [5] (λ_ wr=> ∃pos:Nat,pos<=3/\wr.heap[w.heap.size]?=some (.stringIter vE pos)/\Below w.heap.size w wr) (λ_ wr=>3-wr.iterPos w.heap.size);case atStart=>exact⟨0,by omega,World.iter_heap w vE 0,(Below.refl _ _).alloc (Nat.le_refl _) _⟩
  case round=>
   obtain⟨pos,hpos,hit,hB⟩:=hrel;have X4:=iterPos_of hit;by_cases hlt:pos<3
   ·have hnx: ∀ty,(Instr.next (.pointer (some ⟨w.heap.size,0,none⟩)) true ty).run Tryz.prog wr=_:=λty=>Lib.run_next_any_at wr w.heap.size vE pos ty hit hlt;rw [(aaw pos hlt).1]at hnx;have hne:(((iE vE pos:Nat):Int)==65533)=false:=(by have:=(aaw pos hlt).2;simp;omega);have XV:=Lib.iterAt_heap wr w.heap.size vE pos (pos+1) hit;have aF:=Lib.below_iterAt hB (k:=w.heap.size) (Nat.le_refl _) vE (pos+1);obtain⟨c,hc⟩: ∃c,iE vE pos=c:=⟨_,rfl⟩;rw [hc]at hnx hne;dsimp only at hnx;obtain⟨W1,nX⟩:=Lv (wr.iterAt w.heap.size vE (pos+1));rw [<-nX]at hnx XV aF;clear nX hit hB hc;go_wp2_with fail;go_roundw;case rel=>exact⟨pos+1,by omega,XV,aF⟩
    case measure=>rw [iterPos_of XV,X4];omega
   ·have hnx: ∀ty,(Instr.next (.pointer (some ⟨w.heap.size,0,none⟩)) true ty).run Tryz.prog wr=_:=λty=>Lib.run_next_end_at wr w.heap.size vE pos ty hit hlt;go_wp2_with fail;go_ret;exact⟨rfl,hB⟩
 ·have i2:((r:Int)==65533)=false:=by simp;omega
  obtain⟨aD,rW,X6⟩:=encode_facts (r:Int) hv (by omega);have X7:=Hi (show Lib.validRune (r:Int)=true by unfold Lib.validRune;unfold Utf8.valid at hv;simp only [Bool.or_eq_true,Bool.and_eq_true,decide_eq_true_eq]at hv;exact decide_eq_true (by omega));have Yd: ∀V,(convert 21 9 (.int .i32 (r:Int))).run Tryz.prog V= .ok (.string (Utf8.encode (r:Int))) V:=λV=>run_convert_int_string V _ _ _ _ (by rw [Tryz.underlying21];rfl) Tryz.underlying9;obtain⟨E,hE⟩: ∃E,Utf8.encode (r:Int)=E:=⟨_,rfl⟩;rw [hE]at Yd aD rW X6;have hlast: ∀k,k+1=E.size->128<=iE E k:=λk hk=>by
   have e:=X6 (by omega);rw [Oe E (E.size-1) (by omega)]at e;rw [show k=E.size-1 by omega];exact e
  clear X6 hE hv he h0 h1;have Ye:E.size=2\/E.size=3\/E.size=4:=by omega
  rcases Ye with h2|h3|h4
  ·have hsz:E.size=2:=h2;have hx:=Hi (hlast 1 (by omega));obtain⟨x,pG⟩: ∃x,iE E 1=x:=⟨_,rfl⟩;have hxl:x<256:=(by rw [<-pG];exact Od _ _);have Ya: ∀V,(Instr.index 9 (.string E) (.int .i64 1)).run Tryz.prog V= .ok (.int .u8 (x:Int)) V:=λV=>by rw [<-pG];exact KM E 1 (by omega) V
   rw [pG]at hx;clear pG;have HL:=Hi hxl;have Yf: ∀V,(Instr.index 9 (.string ⟨#[46,58,45]⟩) (.int .i64 1)).run Tryz.prog V= .ok (.int .u8 58) V:=λV=>KM vE 1 (by decide) V;have hne:((58:Int) !=(x:Int))=true:=(by have:=hx.out;simp;omega);have hsl: ∀V,(Instr.sliceAt 9 (.string ⟨#[46,58,45]⟩) (some (.int .i64 2)) none none).run Tryz.prog V= .ok (.string ⟨#[45]⟩) V:=λV=>by rw [run_sliceAt_string V 9 _ _ _ _ Tryz.underlying9,run_slice_string_l V 9 _ Tryz.underlying9 .i64 2 (by decide) (by decide)];rfl
   clear hlast aD rW h2 hxl;go_enter Tryz.func209,Tryz.ntmps209;go_wp2_with fail;refine(Tryz.utf8_ValidRune _ _).mono ?_;rintro e w1 ⟨rfl,rfl⟩;rw [X7.out];go_wp2_with fail
   go_step3
   go_wp2_with fail;go_loopw [9] (λi wr=>i= .int .i64 1/\wr=w1) (λ_ _=>0);case atStart=>exact⟨rfl,rfl⟩
   case round=>
    obtain⟨rfl,rfl⟩:=hrel;have HI:=Hi (λV:World=>(Tryz.strings_IndexByte ⟨#[45]⟩ (x:Int) V).mono λe w' h=>(by rw [show Lib.indexByte (⟨#[45]⟩:ByteArray).data.toList (x:Int).toNat.toUInt8= -1 from(aax x hx.out HL.out).1]at h;exact h:e= .returned (.int .i64 (-1))/\w'=V));have ag:IntKind.i64.wrap 2=2:=(by decide+kernel);have HB:=Hi (Below.refl wr.heap.size wr);go_wp2_with fail
    go_step3
    go_wp2_with fail
    go_quiet (fail)
    have X8:=Hi (below_drewN HB.out nq);generalize wr.drewN nq=W2 at*;go_wp2_with fail
    go_quiet ((exact Calls.quiet_of_same (HI.out _)))
    go_wp2_with fail;dsimp+zetaDelta only [Exit.inBlock,Exit.noGoto,Exit.then];go_ret;exact⟨rfl,by have:=X8.out;exact below_drewN this _⟩
  ·have hsz:E.size=3:=h3;have hx:=Hi (hlast 2 (by omega));obtain⟨x,pG⟩: ∃x,iE E 2=x:=⟨_,rfl⟩;have hxl:x<256:=(by rw [<-pG];exact Od _ _);have Ya: ∀V,(Instr.index 9 (.string E) (.int .i64 2)).run Tryz.prog V= .ok (.int .u8 (x:Int)) V:=λV=>by rw [<-pG];exact KM E 2 (by omega) V
   rw [pG]at hx;clear pG;have HL:=Hi hxl;have Yf: ∀V,(Instr.index 9 (.string ⟨#[46,58,45]⟩) (.int .i64 2)).run Tryz.prog V= .ok (.int .u8 45) V:=λV=>KM vE 2 (by decide) V;have hne:((45:Int) !=(x:Int))=true:=(by have:=hx.out;simp;omega);have hsl: ∀V,(Instr.sliceAt 9 (.string ⟨#[46,58,45]⟩) (some (.int .i64 3)) none none).run Tryz.prog V= .ok (.string ⟨#[]⟩) V:=λV=>by rw [run_sliceAt_string V 9 _ _ _ _ Tryz.underlying9,run_slice_string_l V 9 _ Tryz.underlying9 .i64 3 (by decide) (by decide)];rfl
   clear hlast aD rW h3 hxl;go_enter Tryz.func209,Tryz.ntmps209;go_wp2_with fail;refine(Tryz.utf8_ValidRune _ _).mono ?_;rintro e w1 ⟨rfl,rfl⟩;rw [X7.out];go_wp2_with fail
   go_step3
   go_wp2_with fail;go_loopw [9] (λi wr=>i= .int .i64 2/\wr=w1) (λ_ _=>0);case atStart=>exact⟨rfl,rfl⟩
   case round=>
    obtain⟨rfl,rfl⟩:=hrel;have HI:=Hi (λV:World=>(Tryz.strings_IndexByte ⟨#[]⟩ (x:Int) V).mono λe w' h=>(by rw [show Lib.indexByte (⟨#[]⟩:ByteArray).data.toList (x:Int).toNat.toUInt8= -1 from(aax x hx.out HL.out).2]at h;exact h:e= .returned (.int .i64 (-1))/\w'=V));have ag:IntKind.i64.wrap 3=3:=(by decide+kernel);have HB:=Hi (Below.refl wr.heap.size wr);go_wp2_with fail
    go_step3
    go_wp2_with fail
    go_quiet (fail)
    have X8:=Hi (below_drewN HB.out nq);generalize wr.drewN nq=W2 at*;go_wp2_with fail
    go_quiet ((exact Calls.quiet_of_same (HI.out _)))
    go_wp2_with fail;dsimp+zetaDelta only [Exit.inBlock,Exit.noGoto,Exit.then];go_ret;exact⟨rfl,by have:=X8.out;exact below_drewN this _⟩
  ·have hsz:E.size=4:=h4;have hx:=Hi (hlast 3 (by omega));obtain⟨x,pG⟩: ∃x,iE E 3=x:=⟨_,rfl⟩;have hxl:x<256:=(by rw [<-pG];exact Od _ _);have Ya: ∀V,(Instr.index 9 (.string E) (.int .i64 3)).run Tryz.prog V= .ok (.int .u8 (x:Int)) V:=λV=>by rw [<-pG];exact KM E 3 (by omega) V
   rw [pG]at hx;clear pG;have HL:=Hi hxl;clear hlast aD rW h4 hxl;go_enter Tryz.func209,Tryz.ntmps209;go_wp2_with fail;refine(Tryz.utf8_ValidRune _ _).mono ?_;rintro e w1 ⟨rfl,rfl⟩;rw [X7.out];go_wp2_with fail
   go_step3
   go_wp2_with fail;go_loopw [9] (λi wr=>i= .int .i64 3/\wr=w1) (λ_ _=>0);case atStart=>exact⟨rfl,rfl⟩
   case round=>
    obtain⟨rfl,rfl⟩:=hrel;go_wp2_with fail;rw [Exit.noGoto_ret];go_ret;exact⟨rfl,Below.refl _ _⟩
theorem afm (r:Nat) (w:World) (h0:128<=r) (h1:r<=1114111) (hv:Utf8.valid (r:Int)=true):
  Calls Tryz.prog 170 #[.string ⟨#[46,58,45]⟩,.int .i32 (r:Int)] w λe w'=>e= .returned (.bool false)/\Below w.heap.size w w':=by
 go_enter Tryz.func170,Tryz.ntmps170;go_wp2_with fail;refine(afl r _ h0 h1 hv).mono ?_;rintro e w1 ⟨rfl,hB⟩;go_wp2_with fail;go_ret;exact⟨rfl,hB⟩
theorem slow (r:Nat) (w:World) (h1:r<128):
  Calls Tryz.prog 170 #[.string ⟨#[46,58,45]⟩,.int .i32 (r:Int)] w λe w'=>e= .returned (.bool (decide (r=46)||decide (r=58)||decide (r=45)))/\Below w.heap.size w w':=by
 refine(Tryz.strings_ContainsRune_ascii vE (r:Int) w (by omega) (by omega)).mono ?_;rintro e w1 ⟨rfl,rfl⟩;rw [afk r h1];exact⟨rfl,Below.refl _ _⟩
theorem aay (r:Nat) (z:Bool) (w:World) (h:r<128\/128<=r/\r<=1114111/\Utf8.valid (r:Int)=true) (hz:(decide (r=46)||decide (r=58)||decide (r=45))=z):
  Calls Tryz.prog 170 #[.string ⟨#[46,58,45]⟩,.int .i32 (r:Int)] w λe w'=>e= .returned (.bool z)/\Below w.heap.size w w':=by
 rcases h with h|⟨h0,h1,hv⟩
 ·exact hz▸slow r w h
 ·have e:z=false:=by rw [<-hz,decide_eq_false (show¬r=46 by omega),decide_eq_false (show¬r=58 by omega),decide_eq_false (show¬r=45 by omega)];rfl
  rw [e];exact afm r w h0 h1 hv
theorem afn (s:ByteArray) (pos:Nat) (h:pos<s.size): ∃r k,Utf8.decode s pos=(r,k)/\(r<128\/128<=r/\r<=1114111/\Utf8.valid (r:Int)=true)/\(r<128->r=iE s pos/\k=1)/\(128<=r->iM (iE s pos)=false):=by
 rcases Nat.lt_or_ge (iE s pos) 128 with hc|hc
 ·exact⟨_,_,afi s pos h hc,.inl hc,λ_=>⟨rfl,rfl⟩,λh2=>absurd hc (by omega)⟩
 ·have h2:=afj s pos h hc;obtain⟨⟨r,k⟩,hd⟩: ∃d,Utf8.decode s pos=d:=⟨_,rfl⟩;rw [hd]at h2⊢;dsimp only at h2;refine⟨r,k,rfl,.inr h2,λh3=>absurd h2.1 (by omega),λ_=> ?_⟩;have: ∀c,c<256->128<=c->iM c=false:=by decide+kernel
  exact this _ (Od _ _) hc
theorem five (r:Nat):(65<=r/\r<=90)\/(¬(65<=r/\r<=90)/\(97<=r/\r<=122))\/(¬(65<=r/\r<=90)/\ ¬(97<=r/\r<=122)/\(48<=r/\r<=57))\/(¬(65<=r/\r<=90)/\ ¬(97<=r/\r<=122)/\ ¬(48<=r/\r<=57)/\(r=46\/r=58\/r=45))\/(¬(65<=r/\r<=90)/\ ¬(97<=r/\r<=122)/\ ¬(48<=r/\r<=57)/\ ¬(r=46\/r=58\/r=45)):=by omega
theorem zS {a b r:Nat} {z:Bool} (h:if z=true then a<=r/\r<=b else¬(a<=r/\r<=b)):(decide ((a:Int)<=(r:Int)) && decide ((r:Int)<=(b:Int)))=z:=by
 cases z with
 |true=>simp only [if_true]at h;rw [decide_eq_true (by omega),decide_eq_true (by omega)];rfl
 |false=>
  simp only [Bool.false_eq_true,if_false]at h;by_cases h1:a<=r
  ·rw [decide_eq_false (show¬(r:Int)<=(b:Int)by omega)];simp
  ·rw [decide_eq_false (show¬(a:Int)<=(r:Int)by omega)];rfl
theorem aaz (s:ByteArray) (w:World):
  Calls Tryz.prog 134 #[.string s] w λe w'=>e= .returned (.bool (lM s))/\Below w.heap.size w w':=by
 by_cases h0:s.size=0
 ·rw [aat h0];obtain⟨e0,e1⟩:=Oa h0;clear h0;go_enter Tryz.func134,Tryz.ntmps134;go_wp2_with fail;go_ret;exact⟨rfl,Below.refl _ _⟩
 obtain⟨e0,e1⟩:=KJ h0;by_cases h1:100<s.size
 ·rw [aau h1];have i1:(s.size:Int)>100:=by omega
  clear h0 h1;go_enter Tryz.func134,Tryz.ntmps134;go_wp2_with fail;go_ret;exact⟨rfl,Below.refl _ _⟩
 have i1: ¬(s.size:Int)>100:=by omega
 have X5:decide ((s.size:Int)>100)=false:=decide_eq_false i1;obtain⟨H0,H1⟩:=aB (show 1<=s.size by omega) (show s.size<=100 by omega);clear h0 h1;go_enter Tryz.func134,Tryz.ntmps134;go_wp2_with fail;clear e0 e1 i1 X5;go_loopw [4] (λ_ wr=> ∃pos:Nat,pos<=s.size/\wr.heap[w.heap.size]?=some (.stringIter s pos)/\Hid (∀i,i<pos->iM (iE s i)=true)/\Below w.heap.size w wr) (λ_ wr=>s.size-wr.iterPos w.heap.size);case atStart=>exact⟨0,by omega,World.iter_heap w s 0,Hi (λi hi=>by omega),(Below.refl _ _).alloc (Nat.le_refl _) _⟩
 case round=>
  obtain⟨pos,hpos,hit,HA,hB⟩:=hrel;have X4:=iterPos_of hit;by_cases hlt:pos<s.size
  ·obtain⟨r,k,hdec,hR,uK,eD⟩:=afn s pos hlt;obtain⟨HR,HC⟩:=aB hR (And.intro uK eD);clear hR uK eD;have HP:=Hi hlt;have hnx: ∀ty,(Instr.next (.pointer (some ⟨w.heap.size,0,none⟩)) true ty).run Tryz.prog wr=_:=λty=>Lib.run_next_any_at wr w.heap.size s pos ty hit hlt;rw [hdec]at hnx;dsimp only at hnx;clear hdec;have XV:=Lib.iterAt_heap wr w.heap.size s pos (pos+k) hit;have aF:=Lib.below_iterAt hB (k:=w.heap.size) (Nat.le_refl _) s (pos+k);obtain⟨W1,nX⟩:=Lv (wr.iterAt w.heap.size s (pos+k));rw [<-nX]at hnx XV aF;have Yb:=Hi (Array.getElem?_eq_some_iff.1 XV).1;obtain⟨W2,fC⟩:=Lv (W1.alloc (.cells #[.int .i32 (r:Int)] 21));obtain⟨p,qF⟩: ∃p,W1.heap.size=p:=⟨_,rfl⟩;have hp:W2.cell? ⟨p,0,none⟩=some (.int .i32 (r:Int)):=(by rw [fC,<-qF];exact World.cell?_alloc_at _ _ _ _ rfl);have cB:=Bl fC;replace XV:=(cB.block _ Yb.out).trans XV;replace aF:=aF.trans (cB.mono aF.size);have wO:=Hi (Array.getElem?_eq_some_iff.1 XV).1;clear nX hit hB hlt cB Yb;go_wp2_with fail;try rw [<-fC]
   try rw [qF]
   clear qF;rcases five r with hA|⟨hA,hC⟩|⟨hA,hC,hE⟩|⟨hA,hC,hE,hF⟩|⟨hA,hC,hE,hF⟩
   ·go_wp2_with fail;try rw [<-fC]
    try clear fC
    refine(zR 65 90 (r:Int) p true W2 hp (zS (a:=65) (b:=90) (z:=true) (by simp;omega))).mono ?_;rintro e w9 ⟨rfl,cz⟩;rw [cz];clear cz w9;have hk:W2.heap[w.heap.size]?=some (.stringIter s (pos+k))/\Below w.heap.size w W2:=⟨XV,aF⟩;have hlr:r<128:=(by omega);obtain⟨hrc,rfl⟩:=HC.out.1 hlr;have om:=Hi (show∀i,i<pos+1->iM (iE s i)=true from λi hi=>by
     rcases Nat.lt_or_ge i pos with h|h
     ·exact HA.out i h
     ·obtain rfl:i=pos:=by omega
      rw [<-hrc];unfold iM;simp;omega)
    clear hrc HA;go_wp2_with fail;go_roundw;case rel=>exact⟨pos+1,by have:=HP.out;omega,hk.1,Hi om.out,hk.2⟩
    case measure=>rw [iterPos_of hk.1,X4];have:=HP.out;omega
   ·go_wp2_with fail;try rw [<-fC]
    try clear fC
    refine(zR 65 90 (r:Int) p false W2 hp (zS (a:=65) (b:=90) (z:=false) (by simp;omega))).mono ?_;rintro e w9 ⟨rfl,cz⟩;rw [cz];clear cz w9;go_wp2_with fail;try rw [<-fC]
    try clear fC
    refine(zR 97 122 (r:Int) p true W2 hp (zS (a:=97) (b:=122) (z:=true) (by simp;omega))).mono ?_;rintro e w9 ⟨rfl,cz⟩;rw [cz];clear cz w9;have hk:W2.heap[w.heap.size]?=some (.stringIter s (pos+k))/\Below w.heap.size w W2:=⟨XV,aF⟩;have hlr:r<128:=(by omega);obtain⟨hrc,rfl⟩:=HC.out.1 hlr;have om:=Hi (show∀i,i<pos+1->iM (iE s i)=true from λi hi=>by
     rcases Nat.lt_or_ge i pos with h|h
     ·exact HA.out i h
     ·obtain rfl:i=pos:=by omega
      rw [<-hrc];unfold iM;simp;omega)
    clear hrc HA;go_wp2_with fail;go_roundw;case rel=>exact⟨pos+1,by have:=HP.out;omega,hk.1,Hi om.out,hk.2⟩
    case measure=>rw [iterPos_of hk.1,X4];have:=HP.out;omega
   ·go_wp2_with fail;try rw [<-fC]
    try clear fC
    refine(zR 65 90 (r:Int) p false W2 hp (zS (a:=65) (b:=90) (z:=false) (by simp;omega))).mono ?_;rintro e w9 ⟨rfl,cz⟩;rw [cz];clear cz w9;go_wp2_with fail;try rw [<-fC]
    try clear fC
    refine(zR 97 122 (r:Int) p false W2 hp (zS (a:=97) (b:=122) (z:=false) (by simp;omega))).mono ?_;rintro e w9 ⟨rfl,cz⟩;rw [cz];clear cz w9;go_wp2_with fail;try rw [<-fC]
    try clear fC
    refine(zR 48 57 (r:Int) p true W2 hp (zS (a:=48) (b:=57) (z:=true) (by simp;omega))).mono ?_;rintro e w9 ⟨rfl,cz⟩;rw [cz];clear cz w9;have hk:W2.heap[w.heap.size]?=some (.stringIter s (pos+k))/\Below w.heap.size w W2:=⟨XV,aF⟩;have hlr:r<128:=(by omega);obtain⟨hrc,rfl⟩:=HC.out.1 hlr;have om:=Hi (show∀i,i<pos+1->iM (iE s i)=true from λi hi=>by
     rcases Nat.lt_or_ge i pos with h|h
     ·exact HA.out i h
     ·obtain rfl:i=pos:=by omega
      rw [<-hrc];unfold iM;simp;omega)
    clear hrc HA;go_wp2_with fail;go_roundw;case rel=>exact⟨pos+1,by have:=HP.out;omega,hk.1,Hi om.out,hk.2⟩
    case measure=>rw [iterPos_of hk.1,X4];have:=HP.out;omega
   ·go_wp2_with fail;try rw [<-fC]
    try clear fC
    refine(zR 65 90 (r:Int) p false W2 hp (zS (a:=65) (b:=90) (z:=false) (by simp;omega))).mono ?_;rintro e w9 ⟨rfl,cz⟩;rw [cz];clear cz w9;go_wp2_with fail;try rw [<-fC]
    try clear fC
    refine(zR 97 122 (r:Int) p false W2 hp (zS (a:=97) (b:=122) (z:=false) (by simp;omega))).mono ?_;rintro e w9 ⟨rfl,cz⟩;rw [cz];clear cz w9;go_wp2_with fail;try rw [<-fC]
    try clear fC
    refine(zR 48 57 (r:Int) p false W2 hp (zS (a:=48) (b:=57) (z:=false) (by simp;omega))).mono ?_;rintro e w9 ⟨rfl,cz⟩;rw [cz];clear cz w9;go_wp2_with fail;refine(aay r true W2 HR.out (by rcases hF with rfl|rfl|rfl<;>rfl)).mono ?_;rintro e W3 ⟨rfl,hq⟩;have hk:W3.heap[w.heap.size]?=some (.stringIter s (pos+k))/\Below w.heap.size w W3:=⟨(hq.block _ wO.out).trans XV,Tq aF hq⟩;clear hq;have hlr:r<128:=(by omega);obtain⟨hrc,rfl⟩:=HC.out.1 hlr;have om:=Hi (show∀i,i<pos+1->iM (iE s i)=true from λi hi=>by
     rcases Nat.lt_or_ge i pos with h|h
     ·exact HA.out i h
     ·obtain rfl:i=pos:=by omega
      rw [<-hrc];unfold iM;simp;omega)
    clear hrc HA;go_wp2_with fail;go_roundw;case rel=>exact⟨pos+1,by have:=HP.out;omega,hk.1,Hi om.out,hk.2⟩
    case measure=>rw [iterPos_of hk.1,X4];have:=HP.out;omega
   ·go_wp2_with fail;try rw [<-fC]
    try clear fC
    refine(zR 65 90 (r:Int) p false W2 hp (zS (a:=65) (b:=90) (z:=false) (by simp;omega))).mono ?_;rintro e w9 ⟨rfl,cz⟩;rw [cz];clear cz w9;go_wp2_with fail;try rw [<-fC]
    try clear fC
    refine(zR 97 122 (r:Int) p false W2 hp (zS (a:=97) (b:=122) (z:=false) (by simp;omega))).mono ?_;rintro e w9 ⟨rfl,cz⟩;rw [cz];clear cz w9;go_wp2_with fail;try rw [<-fC]
    try clear fC
    refine(zR 48 57 (r:Int) p false W2 hp (zS (a:=48) (b:=57) (z:=false) (by simp;omega))).mono ?_;rintro e w9 ⟨rfl,cz⟩;rw [cz];clear cz w9;go_wp2_with fail;refine(aay r false W2 HR.out (by rw [decide_eq_false (by omega),decide_eq_false (by omega),decide_eq_false (by omega)];rfl)).mono ?_;rintro e W3 ⟨rfl,hq⟩;have hk:W3.heap[w.heap.size]?=some (.stringIter s (pos+k))/\Below w.heap.size w W3:=⟨(hq.block _ wO.out).trans XV,Tq aF hq⟩;clear hq;have HN:=Hi (show iM (iE s pos)=false from by
     rcases Nat.lt_or_ge r 128 with h|h
     ·rw [<-(HC.out.1 h).1];unfold iM;simp;omega
     ·exact HC.out.2 h)
    go_wp2_with fail;go_ret;exact⟨CY (KN HP.out HN.out).symm,hk.2⟩
  ·have hnx: ∀ty,(Instr.next (.pointer (some ⟨w.heap.size,0,none⟩)) true ty).run Tryz.prog wr=_:=λty=>Lib.run_next_end_at wr w.heap.size s pos ty hit hlt;go_wp2_with fail;go_ret;exact⟨CY (aav H0.out H1.out (λi hi=>HA.out i (by omega))).symm,hB⟩
theorem KO (s:ByteArray) (w:World) (hlen:s.size<=9223372036854775807):
  Calls Tryz.prog 59 #[.string s] w λe w'=>e= .returned (.bool (lM s))/\Below w.heap.size w w':=by
 go_enter Tryz.func59,Tryz.ntmps59;go_wp2_with fail;go_loopw [3] (λi wr=> ∃k:Nat,k<=s.size/\i= .int .i64 k/\Hid (∀i,i<k->iM (iE s i)=true)/\Below w.heap.size w wr) (λi _=>s.size-(intOf i).toNat);case atStart=>exact⟨0,Nat.zero_le _,rfl,Hi (λi hi=>by omega),Below.refl _ _⟩
 case round=>
  obtain⟨k,hk,rfl,HA,hB⟩:=hrel;by_cases hlt:k<s.size
  ·have i1:(k:Int)<(s.size:Int):=(by omega);have hix:=KM s k hlt;obtain⟨c,hc⟩: ∃c,iE s k=c:=⟨_,rfl⟩;have hcl:=Od s k;rw [hc]at hix hcl;have HP:=Hi hlt;clear hlt hk;have bH:(0<=c/\c<45)\/(45<=c/\c<46)\/(46<=c/\c<47)\/(47<=c/\c<48)\/(48<=c/\c<58)\/(58<=c/\c<59)\/(59<=c/\c<65)\/(65<=c/\c<91)\/(91<=c/\c<97)\/(97<=c/\c<123)\/(123<=c/\c<256):=(by omega);rcases bH with hv|hv|hv|hv|hv|hv|hv|hv|hv|hv|hv
   ·obtain⟨iq,eB⟩:=hv;have HN:=Hi (KN HP.out (show iM (iE s k)=false by rw [hc];unfold iM;simp;omega));have XW:decide ((c:Int)>=97)=false:=decide_eq_false (by omega);have XX:decide ((c:Int)<=122)=true:=decide_eq_true (by omega);have XY:decide ((c:Int)>=65)=false:=decide_eq_false (by omega);have XZ:decide ((c:Int)<=90)=true:=decide_eq_true (by omega);have X0:decide ((c:Int)<48)=true:=decide_eq_true (by omega);have X3:decide ((c:Int)>57)=false:=decide_eq_false (by omega);have e46:((c:Int) !=46)=true:=(by simp;omega);have e58:((c:Int) !=58)=true:=(by simp;omega);have e45:((c:Int) !=45)=true:=(by simp;omega);clear hc iq eB;go_wp2_with fail;go_ret;exact⟨CY HN.out.symm,hB⟩
   ·obtain⟨iq,eB⟩:=hv;have om:=Hi (show∀i,i<k+1->iM (iE s i)=true from λi hi=>by
     rcases Nat.lt_or_ge i k with h|h
     ·exact HA.out i h
     ·obtain rfl:i=k:=by omega
      rw [hc];unfold iM;simp;omega)
    have XW:decide ((c:Int)>=97)=false:=decide_eq_false (by omega);have XX:decide ((c:Int)<=122)=true:=decide_eq_true (by omega);have XY:decide ((c:Int)>=65)=false:=decide_eq_false (by omega);have XZ:decide ((c:Int)<=90)=true:=decide_eq_true (by omega);have X0:decide ((c:Int)<48)=true:=decide_eq_true (by omega);have X3:decide ((c:Int)>57)=false:=decide_eq_false (by omega);have e46:((c:Int) !=46)=true:=(by simp;omega);have e58:((c:Int) !=58)=true:=(by simp;omega);have e45:((c:Int) !=45)=false:=(by rw [show(c:Int)=45 by omega];rfl);clear hc iq eB;go_wp2_with fail;go_roundw;case rel=>exact⟨k+1,by have:=HP.out;omega,by go_num,om,hB⟩
    case measure=>have:=HP.out;simp [intOf];omega
   ·obtain⟨iq,eB⟩:=hv;have om:=Hi (show∀i,i<k+1->iM (iE s i)=true from λi hi=>by
     rcases Nat.lt_or_ge i k with h|h
     ·exact HA.out i h
     ·obtain rfl:i=k:=by omega
      rw [hc];unfold iM;simp;omega)
    have XW:decide ((c:Int)>=97)=false:=decide_eq_false (by omega);have XX:decide ((c:Int)<=122)=true:=decide_eq_true (by omega);have XY:decide ((c:Int)>=65)=false:=decide_eq_false (by omega);have XZ:decide ((c:Int)<=90)=true:=decide_eq_true (by omega);have X0:decide ((c:Int)<48)=true:=decide_eq_true (by omega);have X3:decide ((c:Int)>57)=false:=decide_eq_false (by omega);have e46:((c:Int) !=46)=false:=(by rw [show(c:Int)=46 by omega];rfl);have e58:((c:Int) !=58)=true:=(by simp;omega);have e45:((c:Int) !=45)=true:=(by simp;omega);clear hc iq eB;go_wp2_with fail;go_roundw;case rel=>exact⟨k+1,by have:=HP.out;omega,by go_num,om,hB⟩
    case measure=>have:=HP.out;simp [intOf];omega
   ·obtain⟨iq,eB⟩:=hv;have HN:=Hi (KN HP.out (show iM (iE s k)=false by rw [hc];unfold iM;simp;omega));have XW:decide ((c:Int)>=97)=false:=decide_eq_false (by omega);have XX:decide ((c:Int)<=122)=true:=decide_eq_true (by omega);have XY:decide ((c:Int)>=65)=false:=decide_eq_false (by omega);have XZ:decide ((c:Int)<=90)=true:=decide_eq_true (by omega);have X0:decide ((c:Int)<48)=true:=decide_eq_true (by omega);have X3:decide ((c:Int)>57)=false:=decide_eq_false (by omega);have e46:((c:Int) !=46)=true:=(by simp;omega);have e58:((c:Int) !=58)=true:=(by simp;omega);have e45:((c:Int) !=45)=true:=(by simp;omega);clear hc iq eB;go_wp2_with fail;go_ret;exact⟨CY HN.out.symm,hB⟩
   ·obtain⟨iq,eB⟩:=hv;have om:=Hi (show∀i,i<k+1->iM (iE s i)=true from λi hi=>by
     rcases Nat.lt_or_ge i k with h|h
     ·exact HA.out i h
     ·obtain rfl:i=k:=by omega
      rw [hc];unfold iM;simp;omega)
    have XW:decide ((c:Int)>=97)=false:=decide_eq_false (by omega);have XX:decide ((c:Int)<=122)=true:=decide_eq_true (by omega);have XY:decide ((c:Int)>=65)=false:=decide_eq_false (by omega);have XZ:decide ((c:Int)<=90)=true:=decide_eq_true (by omega);have X0:decide ((c:Int)<48)=false:=decide_eq_false (by omega);have X3:decide ((c:Int)>57)=false:=decide_eq_false (by omega);have e46:((c:Int) !=46)=true:=(by simp;omega);have e58:((c:Int) !=58)=true:=(by simp;omega);have e45:((c:Int) !=45)=true:=(by simp;omega);clear hc iq eB;go_wp2_with fail;go_roundw;case rel=>exact⟨k+1,by have:=HP.out;omega,by go_num,om,hB⟩
    case measure=>have:=HP.out;simp [intOf];omega
   ·obtain⟨iq,eB⟩:=hv;have om:=Hi (show∀i,i<k+1->iM (iE s i)=true from λi hi=>by
     rcases Nat.lt_or_ge i k with h|h
     ·exact HA.out i h
     ·obtain rfl:i=k:=by omega
      rw [hc];unfold iM;simp;omega)
    have XW:decide ((c:Int)>=97)=false:=decide_eq_false (by omega);have XX:decide ((c:Int)<=122)=true:=decide_eq_true (by omega);have XY:decide ((c:Int)>=65)=false:=decide_eq_false (by omega);have XZ:decide ((c:Int)<=90)=true:=decide_eq_true (by omega);have X0:decide ((c:Int)<48)=false:=decide_eq_false (by omega);have X3:decide ((c:Int)>57)=true:=decide_eq_true (by omega);have e46:((c:Int) !=46)=true:=(by simp;omega);have e58:((c:Int) !=58)=false:=(by rw [show(c:Int)=58 by omega];rfl);have e45:((c:Int) !=45)=true:=(by simp;omega);clear hc iq eB;go_wp2_with fail;go_roundw;case rel=>exact⟨k+1,by have:=HP.out;omega,by go_num,om,hB⟩
    case measure=>have:=HP.out;simp [intOf];omega
   ·obtain⟨iq,eB⟩:=hv;have HN:=Hi (KN HP.out (show iM (iE s k)=false by rw [hc];unfold iM;simp;omega));have XW:decide ((c:Int)>=97)=false:=decide_eq_false (by omega);have XX:decide ((c:Int)<=122)=true:=decide_eq_true (by omega);have XY:decide ((c:Int)>=65)=false:=decide_eq_false (by omega);have XZ:decide ((c:Int)<=90)=true:=decide_eq_true (by omega);have X0:decide ((c:Int)<48)=false:=decide_eq_false (by omega);have X3:decide ((c:Int)>57)=true:=decide_eq_true (by omega);have e46:((c:Int) !=46)=true:=(by simp;omega);have e58:((c:Int) !=58)=true:=(by simp;omega);have e45:((c:Int) !=45)=true:=(by simp;omega);clear hc iq eB;go_wp2_with fail;go_ret;exact⟨CY HN.out.symm,hB⟩
   ·obtain⟨iq,eB⟩:=hv;have om:=Hi (show∀i,i<k+1->iM (iE s i)=true from λi hi=>by
     rcases Nat.lt_or_ge i k with h|h
     ·exact HA.out i h
     ·obtain rfl:i=k:=by omega
      rw [hc];unfold iM;simp;omega)
    have XW:decide ((c:Int)>=97)=false:=decide_eq_false (by omega);have XX:decide ((c:Int)<=122)=true:=decide_eq_true (by omega);have XY:decide ((c:Int)>=65)=true:=decide_eq_true (by omega);have XZ:decide ((c:Int)<=90)=true:=decide_eq_true (by omega);have X0:decide ((c:Int)<48)=false:=decide_eq_false (by omega);have X3:decide ((c:Int)>57)=true:=decide_eq_true (by omega);have e46:((c:Int) !=46)=true:=(by simp;omega);have e58:((c:Int) !=58)=true:=(by simp;omega);have e45:((c:Int) !=45)=true:=(by simp;omega);clear hc iq eB;go_wp2_with fail;go_roundw;case rel=>exact⟨k+1,by have:=HP.out;omega,by go_num,om,hB⟩
    case measure=>have:=HP.out;simp [intOf];omega
   ·obtain⟨iq,eB⟩:=hv;have HN:=Hi (KN HP.out (show iM (iE s k)=false by rw [hc];unfold iM;simp;omega));have XW:decide ((c:Int)>=97)=false:=decide_eq_false (by omega);have XX:decide ((c:Int)<=122)=true:=decide_eq_true (by omega);have XY:decide ((c:Int)>=65)=true:=decide_eq_true (by omega);have XZ:decide ((c:Int)<=90)=false:=decide_eq_false (by omega);have X0:decide ((c:Int)<48)=false:=decide_eq_false (by omega);have X3:decide ((c:Int)>57)=true:=decide_eq_true (by omega);have e46:((c:Int) !=46)=true:=(by simp;omega);have e58:((c:Int) !=58)=true:=(by simp;omega);have e45:((c:Int) !=45)=true:=(by simp;omega);clear hc iq eB;go_wp2_with fail;go_ret;exact⟨CY HN.out.symm,hB⟩
   ·obtain⟨iq,eB⟩:=hv;have om:=Hi (show∀i,i<k+1->iM (iE s i)=true from λi hi=>by
     rcases Nat.lt_or_ge i k with h|h
     ·exact HA.out i h
     ·obtain rfl:i=k:=by omega
      rw [hc];unfold iM;simp;omega)
    have XW:decide ((c:Int)>=97)=true:=decide_eq_true (by omega);have XX:decide ((c:Int)<=122)=true:=decide_eq_true (by omega);have XY:decide ((c:Int)>=65)=true:=decide_eq_true (by omega);have XZ:decide ((c:Int)<=90)=false:=decide_eq_false (by omega);have X0:decide ((c:Int)<48)=false:=decide_eq_false (by omega);have X3:decide ((c:Int)>57)=true:=decide_eq_true (by omega);have e46:((c:Int) !=46)=true:=(by simp;omega);have e58:((c:Int) !=58)=true:=(by simp;omega);have e45:((c:Int) !=45)=true:=(by simp;omega);clear hc iq eB;go_wp2_with fail;go_roundw;case rel=>exact⟨k+1,by have:=HP.out;omega,by go_num,om,hB⟩
    case measure=>have:=HP.out;simp [intOf];omega
   ·obtain⟨iq,eB⟩:=hv;have HN:=Hi (KN HP.out (show iM (iE s k)=false by rw [hc];unfold iM;simp;omega));have XW:decide ((c:Int)>=97)=true:=decide_eq_true (by omega);have XX:decide ((c:Int)<=122)=false:=decide_eq_false (by omega);have XY:decide ((c:Int)>=65)=true:=decide_eq_true (by omega);have XZ:decide ((c:Int)<=90)=false:=decide_eq_false (by omega);have X0:decide ((c:Int)<48)=false:=decide_eq_false (by omega);have X3:decide ((c:Int)>57)=true:=decide_eq_true (by omega);have e46:((c:Int) !=46)=true:=(by simp;omega);have e58:((c:Int) !=58)=true:=(by simp;omega);have e45:((c:Int) !=45)=true:=(by simp;omega);clear hc iq eB;go_wp2_with fail;go_ret;exact⟨CY HN.out.symm,hB⟩
  ·have i1: ¬(k:Int)<(s.size:Int):=(by omega);have HD:=Hi (show∀i,i<s.size->iM (iE s i)=true from λi hi=>HA.out i (by omega));clear hlt hk HA;by_cases h1:1<=s.size
   ·have j1:(s.size:Int)>=1:=(by omega);by_cases h2:s.size<=100
    ·have j2:(s.size:Int)<=100:=(by omega);have HN:=Hi (aav h1 h2 HD.out);clear h1 h2;go_wp2_with fail;go_ret;exact⟨CY HN.out.symm,hB⟩
    ·have j2: ¬(s.size:Int)<=100:=(by omega);have HN:=Hi (aau (show 100<s.size by omega));clear h1 h2;go_wp2_with fail;go_ret;exact⟨CY HN.out.symm,hB⟩
   ·have j1: ¬(s.size:Int)>=1:=(by omega);have HN:=Hi (aat (show s.size=0 by omega));clear h1;go_wp2_with fail;go_ret;exact⟨CY HN.out.symm,hB⟩
theorem afo (s:ByteArray) (w:World) (hlen:s.size<=9223372036854775807):
  Calls Tryz.prog 32 #[.string s] w λe w'=>e= .returned (.string (lN s))/\Below w.heap.size w w':=by
 have Yc:=Hi hlen;obtain⟨z,hz⟩: ∃z,lM s=z:=⟨_,rfl⟩;have HZ:=Hi hz;clear hz hlen;cases z with
 |true=>
  rw [Gb HZ.out];go_enter Tryz.func32,Tryz.ntmps32;go_wp2_with fail;refine(KO s _ Yc.out).mono ?_;rintro e w1 ⟨rfl,hB⟩;rw [HZ.out];go_wp2_with fail;go_ret;exact⟨rfl,hB⟩
 |false=>
  rw [Oh HZ.out];go_enter Tryz.func32,Tryz.ntmps32;go_wp2_with fail;refine(KO s _ Yc.out).mono ?_;rintro e w1 ⟨rfl,hB⟩;rw [HZ.out];go_wp2_with fail;go_ret;exact⟨rfl,hB⟩
def anF (a b:ByteArray):Bool:=decide (Lib.compareBytes a.data.toList b.data.toList<0)
end Go.Proofs.YtdaiacmneopkgaaGreatDoor
