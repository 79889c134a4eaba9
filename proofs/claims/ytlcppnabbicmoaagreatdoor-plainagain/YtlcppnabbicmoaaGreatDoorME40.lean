import Derived.Test.YtlcppnabbicmoaaGreatDoorME39
set_option maxHeartbeats 8000000
set_option maxRecDepth 1000000
namespace Go.Proofs.YtlcppnabbicmoaaGreatDoor
section
open Go.RowKit
open Tr
namespace Lx
def aheadN (E:List Bool):List Nat->Nat
 | []=>0
 | s::r=>if at? E s=true then 1+aheadN E r else 0
theorem aheadN_le (E:List Bool):∀ r:List Nat,aheadN E r<=r.length
 | []=>Nat.le_refl _
 | s::r=>by
  have:=aheadN_le E r;rw[aheadN]
  split
  ·rw[List.length_cons];omega
  ·exact Nat.zero_le _
def stepE (E:List Bool)(p:Pd):List Bool:=if at? E p.left=false/\aheadN E p.right=p.right.length then E.set p.left true else E
def passE (P:List Pd)(E:List Bool):List Bool:=P.foldl stepE E
def itr {α:Type} (f:α->α):Nat->α->α
 | 0,x=>x
 | k+1,x=>f (itr f k x)
theorem itr_fix {α:Type} {f:α->α} {x:α} {k:Nat} (h:f (itr f k x)=itr f k x):∀ m,itr f (k+m) x=itr f k x
 | 0=>rfl
 | m+1=>by
  show f (itr f (k+m) x)=_;rw[itr_fix h m,h]
theorem itr_same {α:Type}{f:α->α}{x:α}{k m:Nat}(hk:f (itr f k x)=itr f k x)(hm:f (itr f m x)=itr f m x):itr f k x=itr f m x:=by
 rw[<-itr_fix hk m,Nat.add_comm,itr_fix hm k]
def PdOk (n:Nat)(P:List Pd):Prop:=∀ p∈P,p.left<n/\∀ s∈p.right,s<n
end Lx
theorem emptyAhead_any {w:World}{v:Value}{r:List Nat}{E:List Bool}{g:Nat}(hr:IR 0 w v r)(hE:Blk w g (boolsV E) 4)(hs:∀ s∈r,s<E.length):Calls Tryz.prog 71 #[v,.slice (some ⟨g,0,none⟩) E.length E.length] w fun e w'=>e=.returned (.int .i64 (Lx.aheadN E r:Int))/\w'=w:=by
 obtain⟨a,c,rfl,hm⟩:=own_len hr;unfold maxLen at hm;go_enter Tryz.func71,Tryz.ntmps71;go_wp2_with fail;have H0:Hid (Lx.aheadN E r=0+Lx.aheadN E (r.drop 0)):=by show _=_;simp
 go_loopg [9] r.length (fun k i wr=>∃ j:Nat,j+k=r.length/\i=.int .i64 j/\wr=w/\Hid (Lx.aheadN E r=j+Lx.aheadN E (r.drop j)))
 case atStart=>exact⟨0,by omega,rfl,rfl,H0⟩
 case round =>
  obtain⟨j,hk,rfl,hww,HD⟩:=hrel;subst hww
  by_cases hlt:j<r.length
  ·obtain⟨gR,cap,hv,-,c1⟩:=hr.at hlt
   cases hv;have hd:=HD.out;rw[List.drop_eq_getElem_cons hlt,Lx.aheadN]at hd;have hsj:=hs r[j] (List.getElem_mem hlt);have hb:=bools_get E hsj;generalize r[j]=s at c1 hd hsj hb;have cb:wr.cell? ⟨g,s,none⟩=some (.bool (Lx.at? E s)):=(hE.cell s).trans hb;have i1:(0:Int)<=(s:Int):=by omega
   have i2:(s:Int)<(E.length:Int):=by omega
   cases hat:Lx.at? E s with
   | true =>
    rw[hat]at cb;rw[if_pos hat]at hd;have HD2:Hid (Lx.aheadN E r=(j+1)+Lx.aheadN E (r.drop (j+1))):=by show _=_;omega
    clear hd HD hat hb;go_wp2_with fail;go_roundg (r.length - (j+1))
    case measure=>omega
    case rel=>exact⟨j+1,by omega,by go_num,rfl,HD2⟩
   | false =>
    rw[hat]at cb;rw[if_neg (by rw[hat];decide)]at hd;have HD2:Hid (Lx.aheadN E r=j):=by show _=_;omega
    clear hd HD hat hb;go_wp2_with fail;go_ret;exact⟨by rw[HD2.out];rfl,rfl⟩
  ·have:j=r.length:=by omega
   subst this;have hd:=HD.out;rw[List.drop_length]at hd;have HD2:Hid (Lx.aheadN E r=r.length):=hd;clear hd HD;go_wp2_with fail;go_ret;exact⟨by rw[HD2.out];rfl,rfl⟩
theorem make_boolsL {n:Nat}(hn:n<=100000)(w:World):(Instr.makeSlice 39 (.int .i64 (n:Int)) (.int .i64 (n:Int))).run Tryz.prog w=.ok (.slice (some ⟨w.heap.size,0,none⟩) n n) (w.alloc (.cells (boolsV (List.replicate n false)) 4)):=by
 obtain⟨i0,hi,hz0,hz1,hz2⟩:=info_parts Tryz.info4;have h:=run_make (P:=Tryz.prog) w 39 4 i0 _ (by kernel_rfl) hi hz0 .i64 .i64 (n:Int) (n:Int) (by omega) (Int.le_refl _) (by rw[hz2];omega) (by omega);rw[h,Int.toNat_natCast,hz1];have e:Value.cells (.bool false)=#[.bool false]:=rfl;rw[e,made_bools]
structure SetIn (w:World) (ta:Option Addr) (nT tc:Nat) (na:Option Addr) (nN nc:Nat) (vP:Value) (P:List Lx.Pd):Prop where
 pp:PP (fun _=>True) w vP P
 ok:Lx.PdOk (nT+nN) P
 bd:nT+nN<=100000
theorem SetIn.below {w w':World}{ta:Option Addr}{nT tc:Nat}{na:Option Addr}{nN nc:Nat}{vP:Value}{P:List Lx.Pd}(h:SetIn w ta nT tc na nN nc vP P)(hb:Below w.heap.size w w'):SetIn w' ta nT tc na nN nc vP P:=⟨h.pp.below hb,h.ok,h.bd⟩
def EmptyP (w:World)(n:Nat)(P:List Lx.Pd)(e:Ending)(w':World):Prop:=∃ g E k,e=.returned (.slice (some ⟨g,0,none⟩) n n)/\w.heap.size<=g/\Blk w' g (boolsV E) 4/\E.length=n/\E=Lx.itr (Lx.passE P) k (List.replicate n false)/\Lx.passE P E=E/\Below w.heap.size w w'
theorem canBeEmpty_any {w:World}{ta:Option Addr}{nT tc:Nat}{na:Option Addr}{nN nc:Nat}{vP:Value}{P:List Lx.Pd}{ba ka:Option Addr}{nb bc nk kc:Nat}(h:SetIn w ta nT tc na nN nc vP P):Calls Tryz.prog 31 #[.agg #[.slice ta nT tc,.slice na nN nc,vP,.slice ba nb bc,.slice ka nk kc]] w (EmptyP w (nT+nN) P):=by
 obtain⟨hP,hok,hbd⟩:=h;obtain⟨pa,pc,rfl,hpm⟩:∃ a c,vP=.slice a P.length c/\P.length<=maxLen:=by obtain⟨ps,h1,h2,-⟩:=hP;exact own_len h2
 unfold maxLen at hpm;obtain⟨n,hn⟩:∃ n,n=nT+nN:=⟨_,rfl⟩;have hw1:IntKind.i64.wrap ((nT:Int)+(nN:Int))=(n:Int):=by rw[hn,<-Int.natCast_add];exact wrap64 (by omega)
 rw[<-hn]at hok hbd ⊢;clear hn;have hmk:=fun w=>make_boolsL hbd w
 unfold EmptyP;go_enter Tryz.func31,Tryz.ntmps31;go_wp2_with fail;obtain⟨W,hW⟩:∃ W,W=(w.alloc (.cells #[.slice ta nT tc,.slice na nN nc,.slice pa P.length pc,.slice ba nb bc,.slice ka nk kc] 26)).alloc (.cells (boolsV (List.replicate n false)) 4):=⟨_,rfl⟩;rw[<-hW];have hbW:Below w.heap.size w W:=by rw[hW];exact ((Below.refl _ _).alloc (Nat.le_refl _) _).alloc (by simp) _
 have hsW:W.heap.size=w.heap.size+2:=by rw[hW];simp
 have kA:Blk W w.heap.size #[.slice ta nT tc,.slice na nN nc,.slice pa P.length pc,.slice ba nb bc,.slice ka nk kc] 26:=by rw[hW];exact (Blk.new w _ 26).alloc _
 have kE:Blk W (w.heap.size+1) (boolsV (List.replicate n false)) 4:=by
  rw[hW];simpa using Blk.new (w.alloc (.cells #[.slice ta nT tc,.slice na nN nc,.slice pa P.length pc,.slice ba nb bc,.slice ka nk kc] 26)) (boolsV (List.replicate n false)) 4
 clear hW hmk hw1
 go_loopg [4] (n+1) (fun k v wr=>∃ (b:Bool) (E:List Bool) (m:Nat),v=.bool b/\(b=true->n-Lx.cntB E+1<=k)/\E.length=n/\Blk wr (w.heap.size+1) (boolsV E) 4/\Kp (fun g=>g<W.heap.size/\g≠w.heap.size+1) W wr/\Hid (E=Lx.itr (Lx.passE P) m (List.replicate n false))/\Hid (b=false->Lx.passE P E=E))
 case atStart=>exact⟨true,_,0,rfl,fun _=>by omega,by simp,kE,Kp.refl _ _,rfl,fun h=>by cases h⟩
 case round =>
  revert wr;intro wz hrel;obtain⟨b,E,m,rfl,hbk,hlE,kEz,hkz,HE,HF⟩:=hrel;have kAz:Blk wz w.heap.size _ 26:=kp_blk kA hkz ⟨by omega,by omega⟩;have hsz:=hkz.size;cases b with
  | true =>
   have hk1:=hbk rfl;have z2:wz.cell? ⟨w.heap.size,2,none⟩=some (.slice pa P.length pc):=kAz.cell 2;clear hbk HF;obtain⟨K0,HK0⟩:∃ K0,Hid (K0=gk):=⟨gk,rfl⟩;have hk2:n-Lx.cntB E+1<=K0:=by rw[HK0.out];exact hk1
   clear hk1;go_wp2_with fail;have H0:Hid (Lx.passE P E=Lx.passE (P.drop 0) E):=rfl
   go_loopg [4,19] P.length (fun k v i wr=>∃ (j:Nat) (b:Bool) (F:List Bool),j+k=P.length/\v=.bool b/\i=.int .i64 j/\F.length=n/\Blk wr (w.heap.size+1) (boolsV F) 4/\Kp (fun g=>g<W.heap.size/\g≠w.heap.size+1) W wr/\Hid ((b=false->F=E)/\(b=true->Lx.cntB E<Lx.cntB F)/\Lx.cntB E<=Lx.cntB F)/\Hid (Lx.passE P E=Lx.passE (P.drop j) F))
   case atStart=>exact⟨0,false,E,by omega,rfl,rfl,hlE,kEz,hkz,⟨fun _=>rfl,(fun h=>by cases h),Nat.le_refl _⟩,H0⟩
   case round =>
    clear H0 kEz hkz kAz z2;obtain⟨j,b,F,hkj,rfl,rfl,hlF,kF,hkr,HB,HP⟩:=hrel;have hsr:=hkr.size;have hbr:Below w.heap.size w wr:=⟨hkr.os.trans hbW.os,hkr.tape.trans hbW.tape,hkr.output.trans hbW.output,by omega,fun x hx=>(hkr.block x ⟨by omega,by omega⟩).trans (hbW.block x hx)⟩
    by_cases hlt:j<P.length
    ·obtain⟨g,cap,u,hv,hu,x0,x1,x2⟩:=(hP.below hbr).at hlt
     cases hv;obtain⟨hleft,hright⟩:=hok P[j] (List.getElem_mem hlt);have hd:=HP.out;rw[List.drop_eq_getElem_cons hlt,show Lx.passE (P[j]::P.drop (j+1)) F=Lx.passE (P.drop (j+1)) (Lx.stepE F P[j]) from rfl]at hd;generalize P[j]=pd at hu x0 x1 x2 hleft hright hd;obtain⟨pl,pr,pp⟩:=pd;simp only at hu x0 x1 x2 hleft hright;obtain⟨ua,uc,rfl,-⟩:=own_len hu;obtain⟨W1,hW1⟩:∃ W1,W1=wr.alloc (.cells #[.int .i64 (pl:Int),.slice ua pr.length uc,.int .i64 pp] 58):=⟨_,rfl⟩;have hb1:Below wr.heap.size wr W1.drew:=by rw[hW1];exact ((Below.refl _ _).alloc (Nat.le_refl _) _).drew
     have hs1:W1.heap.size=wr.heap.size+1:=by rw[hW1];simp
     have kp:Blk W1 wr.heap.size #[.int .i64 (pl:Int),.slice ua pr.length uc,.int .i64 pp] 58:=by rw[hW1];exact Blk.new wr _ 58
     have lF:=kF.lt;have kF1:Blk W1.drew (w.heap.size+1) (boolsV F) 4:=(hb1.block _ lF).trans kF;have hk1:Kp (fun g=>g<W.heap.size/\g≠w.heap.size+1) W W1.drew:=hkr.trans (Kp.below hb1 (D:=fun g=>g<wr.heap.size) fun g hg=>hg) fun g hg=>by omega
     have p0:W1.drew.cell? ⟨wr.heap.size,0,none⟩=some (.int .i64 (pl:Int)):=kp.drew.cell 0;have p1:W1.drew.cell? ⟨wr.heap.size,1,none⟩=some (.slice ua pr.length uc):=kp.drew.cell 1;have i1:(0:Int)<=(pl:Int):=by omega
     have i2:(pl:Int)<(n:Int):=by omega
     have cE:W1.drew.cell? ⟨w.heap.size+1,pl,none⟩=some (.bool (Lx.at? F pl)):=(kF1.cell pl).trans (bools_get F (by rw[hlF];exact hleft));cases hat:Lx.at? F pl with
     | true =>
      have hst:Lx.stepE F ⟨pl,pr,pp⟩=F:=if_neg (by rw[show (⟨pl,pr,pp⟩:Lx.Pd).left=pl from rfl,hat];simp);rw[hst]at hd;have HP2:Hid (Lx.passE P E=Lx.passE (P.drop (j+1)) F):=hd;rw[hat]at cE;clear hd HP hst hat;go_wp2_with fail;rw[<-hW1];clear hW1 x0 x1 x2
      go_region
      all_goals
       go_wp2_with fail;go_roundg (P.length - (j+1))
       case measure=>omega
       case rel=>exact⟨j+1,b,F,by omega,rfl,by go_num,hlF,kF1,hk1,HB,HP2⟩
     | false =>
      rw[hat]at cE;have hrl:∀ s∈pr,s<F.length:=fun s hs=>by rw[hlF];exact hright s hs
      have q1:=emptyAhead_any (w:=W1.drew) (own_below hu hb1) kF1 hrl;rw[hlF]at q1;have hale:=Lx.aheadN_le F pr
      by_cases hah:Lx.aheadN F pr=pr.length
      ·have hst:Lx.stepE F ⟨pl,pr,pp⟩=F.set pl true:=if_pos ⟨hat,hah⟩
       rw[hst]at hd;have HP2:Hid (Lx.passE P E=Lx.passE (P.drop (j+1)) (F.set pl true)):=hd;have hcs:=Lx.cnt_set (bs:=F) (i:=pl) (by rw[hlF];exact hleft) hat;have HB2:Hid (Lx.cntB E<Lx.cntB (F.set pl true)):=by have:=HB.out.2.2;show _<_;omega
       rw[hah]at q1;obtain⟨W2,hW2⟩:∃ W2,W2=(W1.setCell ⟨w.heap.size+1,pl,none⟩ (.bool true)).drew:=⟨_,rfl⟩;have kF2:Blk W2 (w.heap.size+1) (boolsV (F.set pl true)) 4:=by
        have:Blk W1 (w.heap.size+1) (boolsV F) 4:=kF1;rw[hW2,<-bools_set];exact (this.set pl _).drew
       have hk2':Kp (fun g=>g<W.heap.size/\g≠w.heap.size+1) W W2:=by
        rw[hW2];exact⟨hk1.os,hk1.tape,hk1.output,by simpa [World.setCell]using hk1.size,fun x hx=>(Below.heap_setCell _ _ _ _ hx.2).trans (hk1.block x hx)⟩
       have fE:∀ i,W1.drew.frozen? ⟨w.heap.size+1,i,none⟩=false:=kF1.frozen;clear hd HP hst hat hale hcs hah;go_wp2_with fail;rw[<-hW1];clear hW1 x0 x1 x2
       go_region_held3 (fun w'=>w'.cell? ⟨wr.heap.size,0,none⟩=some (.int .i64 (pl:Int))/\w'.cell? ⟨wr.heap.size,1,none⟩=some (.slice ua pr.length uc)/\w'.cell? ⟨w.heap.size+1,pl,none⟩=some (.bool false)) (first | go_keep | assumption) ((go_at_call 71;refine q1.mono ?_;rintro e w5 ⟨rfl,hw5⟩;subst hw5))
       all_goals
        go_wp2_with fail;rw[<-hW2];go_roundg (P.length - (j+1))
        case measure=>omega
        case rel=>exact⟨j+1,true,F.set pl true,by omega,rfl,by go_num,by rw[List.length_set];exact hlF,kF2,hk2',⟨(fun h=>by cases h),fun _=>HB2.out,Nat.le_of_lt HB2.out⟩,HP2⟩
      ·have hst:Lx.stepE F ⟨pl,pr,pp⟩=F:=if_neg fun h=>hah h.2
       rw[hst]at hd;have HP2:Hid (Lx.passE P E=Lx.passE (P.drop (j+1)) F):=hd;obtain⟨an,han⟩:∃ an,an=Lx.aheadN F pr:=⟨_,rfl⟩;rw[<-han]at q1 hah hale;have hne:((an:Int) == (pr.length:Int))=false:=beq_eq_false_iff_ne.2 (by omega);have hne2:¬ (an:Int)=(pr.length:Int):=by omega
       have hne3:¬ an=pr.length:=hah;clear hd HP hst hat hale hah han;go_wp2_with fail;rw[<-hW1];clear hW1 x0 x1 x2
       go_region_held3 (fun w'=>w'.cell? ⟨wr.heap.size,0,none⟩=some (.int .i64 (pl:Int))/\w'.cell? ⟨wr.heap.size,1,none⟩=some (.slice ua pr.length uc)/\w'.cell? ⟨w.heap.size+1,pl,none⟩=some (.bool false)) (first | go_keep | assumption) ((go_at_call 71;refine q1.mono ?_;rintro e w5 ⟨rfl,hw5⟩;subst hw5))
       all_goals
        go_wp2_with fail;go_roundg (P.length - (j+1))
        case measure=>omega
        case rel=>exact⟨j+1,b,F,by omega,rfl,by go_num,hlF,kF1,hk1,HB,HP2⟩
    ·have:j=P.length:=by omega
     subst this;have hd:=HP.out;rw[List.drop_length]at hd;have HPF:Hid (Lx.passE P E=F):=hd;have hcF:=Lx.cntB_le F;have HE2:Hid (F=Lx.itr (Lx.passE P) (m+1) (List.replicate n false)):=by
      show F=Lx.passE P (Lx.itr (Lx.passE P) m (List.replicate n false));rw[<-HE.out];exact HPF.out.symm
     have HF0:Hid (b=false->Lx.passE P F=F):=fun hb=>by
      have h1:=HB.out.1 hb;rw[h1];have:=HPF.out;rw[h1]at this;exact this
     have HMS:Hid (b=true->n-Lx.cntB F+1<=K0-1):=fun hb=>by
      have:=HB.out.2.1 hb;omega
     clear HB HP hd;go_wp2_with fail;go_roundg (K0-1)
     case measure=>have:=HK0.out;omega
     case rel=>exact⟨b,F,m+1,rfl,HMS.out,hlF,kF,hkr,HE2,HF0⟩
  | false =>
   have HF2:=HF.out rfl;have HF3:Hid (Lx.passE P E=E):=HF2;clear HF HF2 hbk;have hbz:Below w.heap.size w wz:=⟨hkz.os.trans hbW.os,hkz.tape.trans hbW.tape,hkz.output.trans hbW.output,by omega,fun x hx=>(hkz.block x ⟨by omega,by omega⟩).trans (hbW.block x hx)⟩;go_wp2_with fail;go_ret;exact⟨_,E,m,rfl,by omega,kEz,hlE,HE.out,HF3.out,hbz⟩
end
section
open Go.RowKit
open Tr
namespace Lx
def orTo (A B:List Bool)(i:Nat):List Bool:=(List.range A.length).map fun k=>at? A k || (decide (k<i) && at? B k)
def orL (A B:List Bool):List Bool:=orTo A B A.length
theorem orTo_len (A B:List Bool)(i:Nat):(orTo A B i).length=A.length:=by simp[orTo]
theorem at_lt {A:List Bool}{k:Nat}(h:k<A.length):at? A k=A[k]:=by simp[at?,h]
theorem orTo_at (A B:List Bool)(i:Nat){k:Nat}(h:k<A.length):at? (orTo A B i) k=(at? A k || (decide (k<i) && at? B k)):=by
 rw[at_lt (by rw[orTo_len];exact h)];simp[orTo]
theorem orTo_zero (A B:List Bool):orTo A B 0=A:=by
 apply List.ext_getElem
 ·simp[orTo]
 ·intro k h1 h2
  simp[orTo,at_lt h2]
theorem ext_at {A B:List Bool}(hl:A.length=B.length)(h:∀ k,k<A.length->at? A k=at? B k):A=B:=by
 apply List.ext_getElem hl;intro k h1 h2;have:=h k h1;rw[at_lt h1,at_lt h2]at this;exact this
theorem orTo_put {A B:List Bool}{i:Nat}(hi:i<A.length)(hB:at? B i=true):orTo A B (i+1)=(orTo A B i).set i true:=by
 refine ext_at (by simp[orTo_len]) fun k hk=>?_
 rw[orTo_len]at hk;rw[orTo_at A B (i+1) hk,at_set,orTo_at A B i hk,orTo_len]
 by_cases e:i=k
 ·subst e;simp[hB,hi]
 ·rw[if_neg (by simp[e])]
  have:decide (k<i+1)=decide (k<i):=by simp;omega
  rw[this]
theorem orTo_keep {A B:List Bool}{i:Nat}(h:at? B i=false∨at? (orTo A B i) i=true):orTo A B (i+1)=orTo A B i:=by
 refine ext_at (by simp[orTo_len]) fun k hk=>?_
 rw[orTo_len]at hk;rw[orTo_at A B (i+1) hk,orTo_at A B i hk]
 by_cases e:k=i
 ·subst e
  rcases h with h | h
  ·simp[h]
  ·rw[orTo_at A B k hk]at h
   simp at h;simp[h]
 ·have:decide (k<i+1)=decide (k<i):=by simp;omega
  rw[this]
theorem orL_self (A:List Bool):orL A A=A:=by
 refine ext_at (by simp[orL,orTo_len]) fun k hk=>?_
 unfold orL at hk ⊢;rw[orTo_len]at hk;rw[orTo_at A A _ hk];simp
def membersL (A:List Bool):List Nat:=(List.range A.length).filter fun k=>at? A k
end Lx
structure JoinP (w:World) (gi:Nat) (A C:List Bool) (w':World):Prop where
 blk:Blk w' gi (boolsV C) 4
 oth:∀ g,g≠gi->w'.heap[g]?=w.heap[g]?
 os:w'.os=w.os
 tape:w'.tape=w.tape
 output:w'.output=w.output
 size:w'.heap.size=w.heap.size
theorem join_any {w:World}{gi gf n:Nat}{A B:List Bool}(hne:gi≠gf)(kA:Blk w gi (boolsV A) 4)(kB:Blk w gf (boolsV B) 4)(hA:A.length=n)(hB:B.length=n)(hn:n<=100000):Calls Tryz.prog 73 #[.slice (some ⟨gi,0,none⟩) n n,.slice (some ⟨gf,0,none⟩) n n] w fun e w'=>∃ b:Bool,e=.returned (.bool b)/\(b=true->Lx.cntB A<Lx.cntB (Lx.orL A B))/\(b=false->Lx.orL A B=A)/\JoinP w gi A (Lx.orL A B) w':=by
 go_enter Tryz.func73,Tryz.ntmps73;go_wp2_with fail
 go_loopg [5,10] n (fun k v i wr=>∃ (j:Nat) (b:Bool),j+k=n/\v=.bool b/\i=.int .i64 j/\JoinP w gi A (Lx.orTo A B j) wr/\Hid ((b=true->Lx.cntB A<Lx.cntB (Lx.orTo A B j))/\(b=false->Lx.orTo A B j=A)/\Lx.cntB A<=Lx.cntB (Lx.orTo A B j)))
 case atStart=>exact⟨0,false,by omega,rfl,rfl,⟨by rw[Lx.orTo_zero];exact kA,fun _ _=>rfl,rfl,rfl,rfl,rfl⟩,⟨(fun h=>by cases h),fun _=>Lx.orTo_zero A B,by rw[Lx.orTo_zero];exact Nat.le_refl _⟩⟩
 case round =>
  obtain⟨j,b,hk,rfl,rfl,⟨hb,ho,h1,h2,h3,h4⟩,HB⟩:=hrel
  by_cases hlt:j<n
  ·have kBr:Blk wr gf (boolsV B) 4:=(ho gf (fun e=>hne e.symm)).trans kB
   have cB:wr.cell? ⟨gf,j,none⟩=some (.bool (Lx.at? B j)):=(kBr.cell j).trans (bools_get B (by omega));have cA:wr.cell? ⟨gi,j,none⟩=some (.bool (Lx.at? (Lx.orTo A B j) j)):=(hb.cell j).trans (bools_get _ (by rw[Lx.orTo_len];omega));have fA:∀ i,wr.frozen? ⟨gi,i,none⟩=false:=hb.frozen;have hJ:=hb.set j (.bool true);rw[bools_set]at hJ;cases haB:Lx.at? B j with
   | false =>
    have hke:=Lx.orTo_keep (A:=A) (B:=B) (i:=j) (.inl haB);rw[haB]at cB;have HK:Hid (Lx.orTo A B (j+1)=Lx.orTo A B j):=hke;clear hke haB hJ;go_wp2_with fail;go_roundg (n - (j+1))
    case measure=>omega
    case rel=>exact⟨j+1,b,by omega,rfl,by go_num,by rw[HK.out];exact⟨hb,ho,h1,h2,h3,h4⟩,by rw[HK.out];exact HB⟩
   | true =>
    rw[haB]at cB;cases haA:Lx.at? (Lx.orTo A B j) j with
    | true =>
     have hke:=Lx.orTo_keep (A:=A) (B:=B) (i:=j) (.inr haA);rw[haA]at cA;have HK:Hid (Lx.orTo A B (j+1)=Lx.orTo A B j):=hke;clear hke haB haA hJ;go_wp2_with fail;go_roundg (n - (j+1))
     case measure=>omega
     case rel=>exact⟨j+1,b,by omega,rfl,by go_num,by rw[HK.out];exact⟨hb,ho,h1,h2,h3,h4⟩,by rw[HK.out];exact HB⟩
    | false =>
     have hpu:=Lx.orTo_put (A:=A) (B:=B) (i:=j) (by omega) haB;have hcs:=Lx.cnt_set (bs:=Lx.orTo A B j) (i:=j) (by rw[Lx.orTo_len];omega) haA;rw[haA]at cA;have HK:Hid (Lx.orTo A B (j+1)=(Lx.orTo A B j).set j true):=hpu;have HC:Hid (Lx.cntB A<Lx.cntB ((Lx.orTo A B j).set j true)):=by have:=HB.out.2.2;show _<_;omega
     clear hpu haB haA hcs;go_wp2_with fail;go_roundg (n - (j+1))
     case measure=>omega
     case rel=>exact⟨j+1,true,by omega,rfl,by go_num,by rw[HK.out];exact⟨hJ,fun g hg=>(Below.heap_setCell _ _ _ _ hg).trans (ho g hg),h1,h2,h3,by simpa [World.setCell]using h4⟩,by rw[HK.out];exact⟨fun _=>HC.out,(fun h=>by cases h),Nat.le_of_lt HC.out⟩⟩
  ·have:j=n:=by omega
   subst this;have e1:Lx.orTo A B j=Lx.orL A B:=by unfold Lx.orL;rw[hA]
   rw[e1]at hb HB;have HF:Hid ((b=true->Lx.cntB A<Lx.cntB (Lx.orL A B))/\(b=false->Lx.orL A B=A)):=⟨HB.out.1,HB.out.2.1⟩;clear HB e1;go_wp2_with fail;go_ret;exact⟨b,rfl,HF.out.1,HF.out.2,hb,ho,h1,h2,h3,h4⟩
theorem join_self {w:World}{gi n:Nat}{A:List Bool}(kA:Blk w gi (boolsV A) 4)(hA:A.length=n)(hn:n<=100000):Calls Tryz.prog 73 #[.slice (some ⟨gi,0,none⟩) n n,.slice (some ⟨gi,0,none⟩) n n] w fun e w'=>e=.returned (.bool false)/\w'=w:=by
 go_enter Tryz.func73,Tryz.ntmps73;go_wp2_with fail
 go_loopg [5,10] n (fun k v i wr=>∃ j:Nat,j+k=n/\v=.bool false/\i=.int .i64 j/\wr=w)
 case atStart=>exact⟨0,by omega,rfl,rfl,rfl⟩
 case round =>
  obtain⟨j,hk,rfl,rfl,hww⟩:=hrel;subst hww
  by_cases hlt:j<n
  ·have cA:wr.cell? ⟨gi,j,none⟩=some (.bool (Lx.at? A j)):=(kA.cell j).trans (bools_get A (by omega))
   cases hat:Lx.at? A j with
   | true =>
    rw[hat]at cA;clear hat;go_wp2_with fail;go_roundg (n - (j+1))
    case measure=>omega
    case rel=>exact⟨j+1,by omega,rfl,by go_num,rfl⟩
   | false =>
    rw[hat]at cA;clear hat;go_wp2_with fail;go_roundg (n - (j+1))
    case measure=>omega
    case rel=>exact⟨j+1,by omega,rfl,by go_num,rfl⟩
  ·go_wp2_with fail
   go_ret;exact⟨rfl,rfl⟩
theorem members_any {w:World}{g n:Nat}{A:List Bool}(kA:Blk w g (boolsV A) 4)(hA:A.length=n)(hn:n<=100000):Calls Tryz.prog 74 #[.slice (some ⟨g,0,none⟩) n n] w fun e w'=>∃ u,e=.returned u/\IR w.heap.size w' u (Lx.membersL A)/\Below w.heap.size w w':=by
 obtain⟨i0,hii,hz0,hz1,hz2⟩:=info_parts Tryz.info3;go_enter Tryz.func74,Tryz.ntmps74;go_wp2_with fail
 go_loopg [3,8] n (fun k v i wr=>∃ (j:Nat) (acc:List Nat),j+k=n/\i=.int .i64 j/\IR w.heap.size wr v acc/\Below w.heap.size w wr/\acc.length<=j/\Hid (acc=(List.range j).filter fun k=>Lx.at? A k))
 case atStart=>exact⟨0,[],by omega,rfl,World.ownsRow_nil _ _ _ _,Below.refl _ _,by simp,rfl⟩
 case round =>
  obtain⟨j,acc,hk,rfl,ho,hb,hal,HA⟩:=hrel;obtain⟨oa,oc,rfl,-⟩:=own_len ho;have hs:=hb.size
  by_cases hlt:j<n
  ·have kAr:Blk wr g (boolsV A) 4:=(hb.block g kA.lt).trans kA
   have cA:wr.cell? ⟨g,j,none⟩=some (.bool (Lx.at? A j)):=(kAr.cell j).trans (bools_get A (by omega));have hst:(List.range (j+1)).filter (fun k=>Lx.at? A k)=(List.range j).filter (fun k=>Lx.at? A k)++(if Lx.at? A j=true then [j] else []):=by
    rw[List.range_succ,List.filter_append];simp[List.filter_cons]
   cases hat:Lx.at? A j with
   | true =>
    rw[hat]at cA hst;have HA2:Hid (acc++[j]=(List.range (j+1)).filter fun k=>Lx.at? A k):=by show _=_;rw[hst,<-HA.out];rfl
    have oA:=ho.alloc (.cells #[.int .i64 (j:Int)] 3);clear hat hst
    go_wp2_with (at_builtin;go_loud (refine wpList_append_own_at _ rfl _ _ 24 rfl w.heap.size 3 i0 _ 1 8 Tryz.underlying24 hii hz0 hz1 hz2 rfl (by decide) (.slice oa acc.length oc) _ _ rfl oA ⟨_,0,none⟩ 1 1 [.int .i64 (j:Int)] rfl rfl (news_of (Blk.new _ _ 3)) (by simp[Value.oneCell']) (by unfold maxLen;omega) (by omega) (by simp;omega) ?_;intro v5 w5 hown5 hgrow5 _ hat5;obtain⟨oa5,oc5,hv5,-⟩:=own_len hown5;subst hv5))
    have hb5:Below w.heap.size w w5:=(hb.alloc hs _).grown hgrow5 (by simp;omega) (fun k hk=>(ho.lt k hk).1);go_roundg (n - (j+1))
    case measure=>omega
    case rel=>exact⟨j+1,acc++[j],by omega,by go_num,by unfold IR;rw[List.length_append,intsV_app];exact hown5,hb5,by simp;omega,HA2⟩
   | false =>
    rw[hat]at cA hst;have HA2:Hid (acc=(List.range (j+1)).filter fun k=>Lx.at? A k):=by show _=_;rw[hst,<-HA.out];simp
    clear hat hst;go_wp2_with fail;go_roundg (n - (j+1))
    case measure=>omega
    case rel=>exact⟨j+1,acc,by omega,by go_num,ho,hb,by omega,HA2⟩
  ·have:j=n:=by omega
   subst this;have HA2:Hid (acc=Lx.membersL A):=by show _=_;rw[HA.out];unfold Lx.membersL;rw[hA]
   clear HA;go_wp2_with fail;go_ret;exact⟨_,rfl,by rw[<-HA2.out];exact ho,hb⟩
end
section
open Go.RowKit
open Tr
def vA (l:List Value):Array Value:=l.toArray
theorem vA_set (l:List Value)(i:Nat)(v:Value):(vA l).setIfInBounds i v=vA (l.set i v):=by unfold vA;rw[List.setIfInBounds_toArray]
theorem vA_get (l:List Value)(i:Nat):(vA l)[i]?=l[i]?:=by unfold vA;rw[List.getElem?_toArray]
def slB (n g:Nat):Value:=.slice (some ⟨g,0,none⟩) n n
theorem Tryz.info39:(Tryz.prog.info? 39).map (fun i=>(i.zero,i.size,i.bytes))=some (some (.slice none 0 0),1,24):=by kernel_rfl
theorem make_rows {n:Nat}(hn:n<=100000)(w:World):(Instr.makeSlice 81 (.int .i64 (n:Int)) (.int .i64 (n:Int))).run Tryz.prog w=.ok (.slice (some ⟨w.heap.size,0,none⟩) n n) (w.alloc (.cells (vA (List.replicate n (Value.slice none 0 0))) 39)):=by
 obtain⟨i0,hi,hz0,hz1,hz2⟩:=info_parts Tryz.info39;have h:=run_make (P:=Tryz.prog) w 81 39 i0 _ (by kernel_rfl) hi hz0 .i64 .i64 (n:Int) (n:Int) (by omega) (Int.le_refl _) (by rw[hz2];omega) (by omega);rw[h,Int.toNat_natCast,hz1];have e:Value.cells (.slice none 0 0)=#[.slice none 0 0]:=rfl;have e2:madeCells #[.slice none 0 0] (n*1)=(vA (List.replicate n (Value.slice none 0 0))):=by
  unfold madeCells vA;apply Array.ext
  ·simp
  ·intro i h1 h2
   simp[Nat.mod_one]
 rw[e,e2]
structure BB (w:World) (gO nT:Nat) (gs:List Nat) (B:List (List Bool)):Prop where
 outer:Blk w gO (vA (gs.map (slB nT))) 39
 len:B.length=gs.length
 rows:∀ i (hi:i<gs.length) (hi':i<B.length),Blk w gs[i] (boolsV B[i]) 4
 rl:∀ b∈B,b.length=nT
 nd:gs.Nodup
 no:gO ∉ gs
namespace Lx
def aloneRow (nT i:Nat):List Bool:=if i<nT then (List.replicate nT false).set i true else List.replicate nT false
def alone (nT n:Nat):List (List Bool):=(List.range n).map (aloneRow nT)
theorem aloneRow_len (nT i:Nat):(aloneRow nT i).length=nT:=by unfold aloneRow;split <;> simp
end Lx
def AloneP (w:World)(nT n:Nat)(e:Ending)(w':World):Prop:=∃ gO gs,e=.returned (.slice (some ⟨gO,0,none⟩) n n)/\w.heap.size<=gO/\(∀ g∈gs,w.heap.size<=g)/\BB w' gO nT gs (Lx.alone nT n)/\Below w.heap.size w w'
theorem tokensAlone_any {w:World}{ta:Option Addr}{nT tc:Nat}{na:Option Addr}{nN nc:Nat}{vP vB vK:Value}{pa ba ka:Option Addr}{np pc nb bc nk kc:Nat}(hvP:vP=.slice pa np pc)(hvB:vB=.slice ba nb bc)(hvK:vK=.slice ka nk kc)(hbd:nT+nN<=100000):Calls Tryz.prog 72 #[.agg #[.slice ta nT tc,.slice na nN nc,vP,vB,vK]] w (AloneP w nT (nT+nN)):=by
 subst hvP hvB hvK;obtain⟨n,hn⟩:∃ n,n=nT+nN:=⟨_,rfl⟩;have hw1:IntKind.i64.wrap ((nT:Int)+(nN:Int))=(n:Int):=by rw[hn,<-Int.natCast_add];exact wrap64 (by omega)
 have hnT:nT<=100000:=by omega
 rw[<-hn]at hbd ⊢;clear hn;have hmk:=fun w=>make_rows hbd w
 unfold AloneP;go_enter Tryz.func72,Tryz.ntmps72;go_wp2_with fail;obtain⟨W,hW⟩:∃ W,W=(w.alloc (.cells #[.slice ta nT tc,.slice na nN nc,.slice pa np pc,.slice ba nb bc,.slice ka nk kc] 26)).alloc (.cells (vA (List.replicate n (Value.slice none 0 0))) 39):=⟨_,rfl⟩;rw[<-hW];have hbW:Below w.heap.size w W:=by rw[hW];exact ((Below.refl _ _).alloc (Nat.le_refl _) _).alloc (by simp) _
 have hsW:W.heap.size=w.heap.size+2:=by rw[hW];simp
 have kA:Blk W w.heap.size #[.slice ta nT tc,.slice na nN nc,.slice pa np pc,.slice ba nb bc,.slice ka nk kc] 26:=by rw[hW];exact (Blk.new w _ 26).alloc _
 have kO:Blk W (w.heap.size+1) (vA (List.replicate n (Value.slice none 0 0))) 39:=by
  rw[hW];simpa using Blk.new (w.alloc (.cells #[.slice ta nT tc,.slice na nN nc,.slice pa np pc,.slice ba nb bc,.slice ka nk kc] 26)) (vA (List.replicate n (Value.slice none 0 0))) 39
 clear hW hmk hw1
 go_loopg [15] n (fun k i wr=>∃ (j:Nat) (gs:List Nat),j+k=n/\i=.int .i64 j/\gs.length=j/\Blk wr (w.heap.size+1) (vA (gs.map (slB nT)++List.replicate (n-j) (Value.slice none 0 0))) 39/\(∀ i (hi:i<gs.length),Blk wr gs[i] (boolsV (Lx.aloneRow nT i)) 4)/\(∀ g∈gs,w.heap.size+2<=g)/\gs.Nodup/\Kp (fun g=>g<W.heap.size/\g≠w.heap.size+1) W wr)
 case atStart=>exact⟨0,[],by omega,rfl,rfl,by simpa using kO,(fun i hi=>absurd hi (by simp)),(fun g hg=>by cases hg),List.nodup_nil,Kp.refl _ _⟩
 case round =>
  obtain⟨j,gs,hk,rfl,hgl,hO,hrow,hgb,hnd,hkr⟩:=hrel;have hsr:=hkr.size;have kAr:Blk wr w.heap.size _ 26:=kp_blk kA hkr ⟨by omega,by omega⟩
  by_cases hlt:j<n
  ·have a0:wr.cell? ⟨w.heap.size,0,none⟩=some (.slice ta nT tc):=kAr.cell 0
   have hmk2:=fun w=>make_boolsL hnT w
   have lO:=hO.lt;have lw:=kAr.lt;have cO:wr.cell? ⟨w.heap.size+1,j,none⟩=some (.slice none 0 0):=by
    rw[hO.cell j,vA_get,List.getElem?_append_right (by simp;omega),List.length_map,hgl,Nat.sub_self,List.getElem?_replicate,if_pos (by omega)]
   have fO:∀ i,wr.frozen? ⟨w.heap.size+1,i,none⟩=false:=hO.frozen;have hglt:∀ g∈gs,g<wr.heap.size:=fun g hg=>by
    obtain⟨i,hi,rfl⟩:=List.getElem_of_mem hg;exact (hrow i hi).lt
   have hset:(vA (gs.map (slB nT)++List.replicate (n-j) (Value.slice none 0 0))).setIfInBounds j (slB nT wr.heap.size)=(vA ((gs++[wr.heap.size]).map (slB nT)++List.replicate (n - (j+1)) (Value.slice none 0 0))):=by
    rw[vA_set,List.set_append_right _ _ (by simp;omega),show n-j=n - (j+1)+1 by omega,List.replicate_succ];simp[hgl]
   have HS:Hid _:=hset;have hall:∀ {C:List Bool},C=Lx.aloneRow nT j->∀ W2,W2=(wr.setCell ⟨w.heap.size+1,j,none⟩ (slB nT wr.heap.size)).alloc (.cells (boolsV C) 4)->Blk W2 (w.heap.size+1) (vA ((gs++[wr.heap.size]).map (slB nT)++List.replicate (n - (j+1)) (Value.slice none 0 0))) 39/\(∀ i (hi:i<(gs++[wr.heap.size]).length),Blk W2 (gs++[wr.heap.size])[i] (boolsV (Lx.aloneRow nT i)) 4)/\(∀ g∈gs++[wr.heap.size],w.heap.size+2<=g)/\(gs++[wr.heap.size]).Nodup/\Kp (fun g=>g<W.heap.size/\g≠w.heap.size+1) W W2:=by
    intro C hC W2 hW2;have hbk:∀ g,g<wr.heap.size->g≠w.heap.size+1->W2.heap[g]?=wr.heap[g]?:=fun g hg hn=>by
     rw[hW2,Below.heap_alloc _ _ _ (by simp[World.setCell];exact hg),Below.heap_setCell _ _ _ _ hn]
    refine⟨?_,?_,?_,?_,?_⟩
    ·rw[hW2,<-HS.out];exact (hO.set j _).alloc _
    ·intro i hi
     rw[List.length_append,List.length_singleton]at hi
     by_cases hij:i<gs.length
     ·rw[List.getElem_append_left hij]
      have h1:=hgb gs[i] (List.getElem_mem hij);exact (hbk _ (hglt _ (List.getElem_mem hij)) (by omega)).trans (hrow i hij)
     ·have:i=gs.length:=by omega
      subst this;rw[List.getElem_append_right (Nat.le_refl _)];simp only[Nat.sub_self,List.getElem_cons_zero];rw[hgl,<-hC,hW2];have:=Blk.new (wr.setCell ⟨w.heap.size+1,j,none⟩ (slB nT wr.heap.size)) (boolsV C) 4;simpa [World.setCell]using this
    ·intro g hg
     rcases List.mem_append.1 hg with hg | hg
     ·exact hgb g hg
     ·rw[List.mem_singleton.1 hg];omega
    ·rw[List.nodup_append]
     refine⟨hnd,by simp,fun a ha b hb e=>?_⟩;rw[List.mem_singleton.1 hb]at e;have:=hglt a ha;omega
    ·refine⟨by rw[hW2];exact hkr.os,by rw[hW2];exact hkr.tape,by rw[hW2];exact hkr.output,by rw[hW2];simp[World.setCell];omega,fun g hg=>(hbk g (by omega) hg.2).trans (hkr.block g hg)⟩
   have HALL:Hid _:=@hall;clear hall hset
   by_cases hjt:j<nT
   ·have hjc:(boolsV (List.replicate nT false))[j]?=some (.bool false):=by rw[bools_get _ (by simpa using hjt)];simp[Lx.at?,hjt]
    have hC:(List.replicate nT false).set j true=Lx.aloneRow nT j:=(if_pos hjt).symm;have HC:Hid _:=hC;clear hC hrow hO hgb hnd;go_wp2_with fail;rw[bools_set];have hx:=HALL.out HC.out _ rfl;go_roundg (n - (j+1))
    case measure=>omega
    case rel=>exact⟨j+1,gs++[wr.heap.size],by omega,by go_num,by simp[hgl],hx.1,hx.2.1,hx.2.2.1,hx.2.2.2.1,hx.2.2.2.2⟩
   ·have hC:List.replicate nT false=Lx.aloneRow nT j:=(if_neg hjt).symm
    have HC:Hid _:=hC;clear hC hrow hO hgb hnd;go_wp2_with fail;have hx:=HALL.out HC.out _ rfl;go_roundg (n - (j+1))
    case measure=>omega
    case rel=>exact⟨j+1,gs++[wr.heap.size],by omega,by go_num,by simp[hgl],hx.1,hx.2.1,hx.2.2.1,hx.2.2.2.1,hx.2.2.2.2⟩
  ·have:j=n:=by omega
   subst this;have hbz:Below w.heap.size w wr:=⟨hkr.os.trans hbW.os,hkr.tape.trans hbW.tape,hkr.output.trans hbW.output,by omega,fun x hx=>(hkr.block x ⟨by omega,by omega⟩).trans (hbW.block x hx)⟩;have hbb:BB wr (w.heap.size+1) nT gs (Lx.alone nT j):=by
    refine⟨by simpa using hO,by simp[Lx.alone,hgl],fun i hi hi'=>?_,?_,hnd,fun hm=>by have:=hgb _ hm;omega⟩
    ·have:(Lx.alone nT j)[i]=Lx.aloneRow nT i:=by simp[Lx.alone]
     rw[this];exact hrow i hi
    ·intro b hb
     obtain⟨i,-,rfl⟩:=List.mem_map.1 hb;exact Lx.aloneRow_len nT i
   have HB:Hid _:=hbb;have HG:Hid (∀ g∈gs,w.heap.size<=g):=fun g hg=>by have:=hgb g hg;omega
   clear hbb hO hrow hgb;go_wp2_with fail;go_ret;exact⟨_,gs,rfl,by omega,HG.out,HB.out,hbz⟩
end
end Go.Proofs.YtlcppnabbicmoaaGreatDoor
