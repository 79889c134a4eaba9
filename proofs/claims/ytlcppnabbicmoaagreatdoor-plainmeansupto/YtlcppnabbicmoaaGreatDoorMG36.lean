import Derived.Test.YtlcppnabbicmoaaGreatDoorMG34
import Derived.Test.YtlcppnabbicmoaaGreatDoorMG28
import Derived.Test.YtlcppnabbicmoaaGreatDoorMG35
set_option maxHeartbeats 8000000
set_option maxRecDepth 1000000
namespace Go.Proofs.YtlcppnabbicmoaaGreatDoor
open Lx Go.Proofs.Tryz
open Go.RowKit Tr
section
open Go.RowKit
open Lx (Tk)
open Tr
theorem Tryz.ajr:(prog.info? 137).map (fun i=>(i.zero,i.size,i.bytes))=some (some (.agg #[.int .i64 0,.slice none 0 0,.slice none 0 0]),3,56):=by kernel_rfl
theorem Tryz.ajI:(prog.info? 99).map (fun i=>(i.zero,i.size,i.bytes))=some (some (.agg #[.string ⟨#[]⟩,.slice none 0 0,.int .i64 0]),3,48):=by kernel_rfl
theorem LY.UG {lo:Nat}{w:World}{aJ vT vA:Value}{lv:Lx.Lv}(h:LY lo w aJ vT vA lv.tokens):FC (Fp lo aJ w) w (.agg #[vT,vA]) lv :=
 ⟨vT,vA,rfl,dO h.1 (Nat.zero_le _),dO h.2.1 (Nat.zero_le _),fun g hg=>⟨(h.1.lt g hg).1,(h.1.lt g hg).2,h.2.2.2.1 g hg⟩,fun g hg=>⟨(h.2.1.lt g hg).1,(h.2.1.lt g hg).2,h.2.2.2.2 g hg⟩⟩
def QB (lo:Nat)(aJ:Value)(w:World)(vL vR:Value)(g:Lx.Gr):Prop :=
 Tr.Seq (Fp lo aJ w) w 137 3 xK (FC (Fp lo aJ w) w) vL g.levels/\Tr.Seq (Fp lo aJ w) w 99 3 Da (Sl (Fp lo aJ w) w) vR g.rules
theorem jd.apart {α:Type}{B:Nat}{aJ:Value}{w w':World}{e s:Nat}{c:Value × α->List Value}{K:(Nat->Prop)->World->Value->α->Prop}{v:Value}{l:List α}{ps:List (Value × α)}{F:Nat->Prop}(hm:jP K)(h:jd B aJ w e s c K v l ps F){r:Option Nat}(hg:w.grownBy w' r)(hr:∀ k,r=some k->¬ F k/\v.ownBlock≠some k):jd B aJ w' e s c K v l ps F:=by
 obtain⟨⟨h1,h2,h3,h4,h5⟩,h6⟩:=h;have e1:∀ b,F b->w'.heap[b]?=w.heap[b]?:=fun b hb=>hg.block b (h4 b hb).2 (fun e=>(hr b e.symm).1 hb)
 exact⟨⟨h1,aD h2 fun g hv=>hg.block g (h2.lt g hv).2 (fun e=>(hr g e.symm).2 hv),fun q hq=>hm F F w w' _ _ e1 (fun _ h=>h) (h3 q hq),fun b hb=>⟨(h4 b hb).1,Nat.lt_of_lt_of_le (h4 b hb).2 hg.size⟩,h5⟩,h6⟩
theorem aiU {s:ByteArray} {q:Nat} {w:World} {nest:Int} {av:Value} {sg:List ByteArray} {i:Nat} {W:ByteArray} (kq:aj w q (dW s i W nest 0 0 av) 89) (ho:w.ownsRow 0 9 1 av sg.length (sg.map Value.string)) (hne:av.ownBlock≠some q) (n a:Nat) (hn:0<n) :
  Calls prog 75 #[.pointer (some ⟨q,0,none⟩),.int .i64 (n:Int),.int .i64 (a:Int)] w fun e w'=>e=.returned (.tuple #[])/\Mv q av w w'/\RX s q w' nest n a av sg:=by
 have c4:w.cell? ⟨q,4,none⟩=some (.int .i64 0):=kq.cell 4;have c5:w.cell? ⟨q,5,none⟩=some (.int .i64 0):=kq.cell 5;have fq:∀ j,w.frozen? ⟨q,j,none⟩=false:=kq.frozen;go_enter func75,ntmps75
 go_wp2
 go_end0
 refine⟨rfl,((Mv.refl _ _ _).set 4 _).set 5 _,⟨⟨_,_,(kq.set 4 _).set 5 _⟩,?_,hne,hn⟩⟩;refine aD ho fun g hg=>?_
 have AQ:g≠q:=fun e=>hne (by rw[hg,e])
 rw[hs0 AQ,hs0 AQ]
def jR (s:ByteArray):aV Lx.Gr:=if 2000<s.size then .error (1,0) else gX (Lx.lex s)
def QM (lo q:Nat)(aJ:Value)(w':World)(v:Value)(g:Lx.Gr):Prop:=∃ vL vR,v=.tuple #[.agg #[vL,vR],.pointer (some ⟨q,0,none⟩)]/\QB lo aJ w' vL vR g
def QW (q:Nat)(v:Value):Prop:=∃ a k c a' k' c',v=.tuple #[.agg #[.slice a k c,.slice a' k' c'],.pointer (some ⟨q,0,none⟩)]
def RC (ts:List Tk)(lv:List Lx.Lv)(aC aB:List Tk)(acc:List Lx.Rl):Prop:=(acc=[]/\aB=aC/\gX ts=yJ lv aC)\/(acc≠[]/\∃ f,aB.length<=f/\gX ts=G9 lv (iE f aB acc))
theorem RC.err {ts aC aB:List Tk}{lv:List Lx.Lv}{acc:List Lx.Rl}{e:Nat × Nat}(h:RC ts lv aC aB acc)(hne:0<aB.length)(hs:acc=[]\/¬ Lx.hd aB=aM)(he:dI aB=.error e):gX ts=.error e:=by
 rcases h with ⟨rfl,rfl,h⟩ | ⟨h0,f,hf,h⟩
 ·rw[h];unfold yJ;rw[he]
 ·obtain⟨f',rfl⟩:∃ f',f=f'+1:=⟨f-1,by omega⟩
  rw[h,iE,if_neg (hs.resolve_left h0),he];rfl
theorem RC.ok {ts aC aB bL:List Tk}{lv:List Lx.Lv}{acc:List Lx.Rl}{x:Lx.Rl}(h:RC ts lv aC aB acc)(hl:bL.length+1<=aB.length)(hs:acc=[]\/¬ Lx.hd aB=aM)(he:dI aB=.ok (x,bL)):RC ts lv aC bL (acc++[x]):=by
 refine .inr ⟨by simp,?_⟩;rcases h with ⟨rfl,rfl,h⟩ | ⟨h0,f,hf,h⟩
 ·exact⟨bL.length,lr0,by rw[h];unfold yJ;rw[he];rfl⟩
 ·obtain⟨f',rfl⟩:∃ f',f=f'+1:=⟨f-1,by omega⟩
  exact⟨f',by omega,by rw[h,iE,if_neg (hs.resolve_left h0),he]⟩
theorem RC.done {ts aC aB:List Tk}{lv:List Lx.Lv}{acc:List Lx.Rl}(h:RC ts lv aC aB acc)(hne:0<aB.length)(h0:acc≠[])(hs:Lx.hd aB=aM):gX ts=.ok (⟨lv,acc⟩,aB):=by
 rcases h with ⟨h1,_⟩ | ⟨_,f,hf,h⟩
 ·exact absurd h1 h0
 ·obtain⟨f',rfl⟩:∃ f',f=f'+1:=⟨f-1,by omega⟩
  rw[h,iE,if_pos hs];rfl
theorem aiV {s:ByteArray} {q:Nat} {w:World} (hs:s.size<=2000) (kq:aj w q (dW s 0 ⟨#[]⟩ 0 0 0 (.slice none 0 0)) 89) :
  Calls prog 76 #[.pointer (some ⟨q,0,none⟩)] w fun e w'=>e=.returned (.tuple #[])/\∃ aJ,Mv q (.slice none 0 0) w w'/\Nx (.slice none 0 0) w aJ/\RR s q w' (Lx.lex s) 0 aJ []:=by
 refine (aib s q 0 (aW s 0 false) 0 0 0 (.slice none 0 0) 0 [] w hs (Nat.zero_le _) kq (World.ownsRow_nil _ _ _ _) (by simp[Value.ownBlock]) rfl).mono ?_;rintro e w' ⟨rfl,aJ,st,SN⟩;have hb:=GJ (s:=s) (i:=0) false (Nat.zero_le _);have hpl:Lx.pl (Lx.lex s)=aW s 0 false:=La hb.2;refine⟨rfl,aJ,st.mv,st.nx,⟨?_,?_,st.ne,?_,by rw[hpl];exact hb.2,hs,by simp⟩⟩
 ·rw[hpl,show fJ (Lx.hd (Lx.lex s))=jo s (aW s 0 false) from (WT hb.2).symm];exact SN
 ·exact st.own
 ·rw[hpl];rfl
theorem agF (s:ByteArray) (w:World) (h:2000<s.size) :
  Calls prog 36 #[.string s] w (bM s (w.heap.size+1) 0 (QM w.heap.size (w.heap.size+1)) (QW (w.heap.size+1)) w (.slice none 0 0) (jR s)):=by
 have HE:Hid (jR s=.error (1,0)):=if_pos h;have hl:decide ((2000:Int)<(s.size:Int))=true:=decide_eq_true (by omega);have kB:=((aj.new w #[.slice none 0 0,.slice none 0 0] 49).alloc (.cells #[.string s,.int .i64 0,.string ⟨#[]⟩,.int .i64 0,.int .i64 0,.int .i64 0,.slice none 0 0] 89)).alloc (.cells #[.slice none 0 0,.slice none 0 0] 49);have kq:=(aj.new (w.alloc (.cells #[.slice none 0 0,.slice none 0 0] 49)) #[.string s,.int .i64 0,.string ⟨#[]⟩,.int .i64 0,.int .i64 0,.int .i64 0,.slice none 0 0] 89).alloc (.cells #[.slice none 0 0,.slice none 0 0] 49);have kG:=aj.new ((w.alloc (.cells #[.slice none 0 0,.slice none 0 0] 49)).alloc (.cells #[.string s,.int .i64 0,.string ⟨#[]⟩,.int .i64 0,.int .i64 0,.int .i64 0,.slice none 0 0] 89)) #[.slice none 0 0,.slice none 0 0] 49;rw[show (w.alloc (.cells #[.slice none 0 0,.slice none 0 0] 49)).heap.size=w.heap.size+1 by simp]at kq;rw[show ((w.alloc (.cells #[.slice none 0 0,.slice none 0 0] 49)).alloc (.cells #[.string s,.int .i64 0,.string ⟨#[]⟩,.int .i64 0,.int .i64 0,.int .i64 0,.slice none 0 0] 89)).heap.size=w.heap.size+2 by simp]at kG;have M0:=(((Mv.refl (w.heap.size+1) (.slice none 0 0) w).alloc (.cells #[.slice none 0 0,.slice none 0 0] 49)).alloc (.cells #[.string s,.int .i64 0,.string ⟨#[]⟩,.int .i64 0,.int .i64 0,.int .i64 0,.slice none 0 0] 89)).alloc (.cells #[.slice none 0 0,.slice none 0 0] 49);clear h;go_enter func36,ntmps36;go_wp2_with fail;refine (aiU (sg:=[]) (W:=⟨#[]⟩) (i:=0) kq (World.ownsRow_nil _ _ _ _) (by simp[Value.ownBlock]) 1 0 (by decide)).mono ?_
 rintro e w1 ⟨rfl,m1,hx1⟩;have kB1:=kB.mv m1 (by omega) (by simp[Value.ownBlock]);have eT:=kG.mv m1 (by omega) (by simp[Value.ownBlock]);have e0:w1.cell? ⟨w.heap.size,0,none⟩=some (.slice none 0 0):=kB1.cell 0;have e1:w1.cell? ⟨w.heap.size,1,none⟩=some (.slice none 0 0):=kB1.cell 1;have d0:w1.cell? ⟨w.heap.size+1+1,0,none⟩=some (.slice none 0 0):=eT.cell 0;have d1:w1.cell? ⟨w.heap.size+1+1,1,none⟩=some (.slice none 0 0):=eT.cell 1;have ff:∀ i,w1.frozen? ⟨w.heap.size,i,none⟩=false:=kB1.frozen;have M1:=M0.trans (Nx.refl _ _) m1;go_wp2_with fail;refine bodyPost_ret (v:=.tuple #[.agg #[.slice none 0 0,.slice none 0 0],.pointer (some ⟨w.heap.size+1,0,none⟩)]) (by simp[results,results36,go_sem,e0,e1]) rfl ?_;exact bM.no HE.out ((M1.new (lr0) _ _).new (lr0) _ _) (Nx.refl _ _) ((hx1.other _ _ (by omega) (by simp[Value.ownBlock])).other _ _ (by omega) (by simp[Value.ownBlock])) ⟨_,_,_,_,_,_,rfl⟩
end
section
open Go.RowKit
open Lx (Tk)
open Tr
theorem Z9 {s:ByteArray}{q:Nat}{w:World}{ts:List Tk}{nest:Int}{av:Value}{sg:List ByteArray}(h:RR s q w ts nest av sg):Lx.hd ts=aM↔¬ Lx.pl ts<s.size:=by
 constructor
 ·intro e hp
  have hse:=BP hp;have hhd:Lx.hd ts=s.extract (Lx.pl ts) (jY s (Lx.pl ts)):=by rw[h.lex];rw[La h.Np,PY hp]
  have:=congrArg ByteArray.size (hhd.symm.trans e);rw[ByteArray.size_extract]at this;have h0:(aM).size=0:=rfl;omega
 ·intro hp
  have:=h.lex;rw[Ep (by omega)]at this;rw[this];rfl
theorem afU (s:ByteArray) (w:World) (h:¬ 2000<s.size) :
  Calls prog 36 #[.string s] w (bM s (w.heap.size+1) 0 (QM w.heap.size (w.heap.size+1)) (QW (w.heap.size+1)) w (.slice none 0 0) (jR s)):=by
 obtain⟨k0,ki,Gc,Gd,Gf⟩:=info_parts Tryz.ajr;obtain⟨j0,ji,Oh,jz1,Oi⟩:=info_parts Tryz.ajI;have Gg:Hid (jR s=gX (Lx.lex s)):=if_neg h;have hl:decide ((2000:Int)<(s.size:Int))=false:=decide_eq_false (by omega);have hss:s.size<=2000:=by omega
 have kB:=((aj.new w #[.slice none 0 0,.slice none 0 0] 49).alloc (.cells #[.string s,.int .i64 0,.string ⟨#[]⟩,.int .i64 0,.int .i64 0,.int .i64 0,.slice none 0 0] 89)).alloc (.cells #[.slice none 0 0,.slice none 0 0] 49);have kq:=(aj.new (w.alloc (.cells #[.slice none 0 0,.slice none 0 0] 49)) #[.string s,.int .i64 0,.string ⟨#[]⟩,.int .i64 0,.int .i64 0,.int .i64 0,.slice none 0 0] 89).alloc (.cells #[.slice none 0 0,.slice none 0 0] 49);have kG:=aj.new ((w.alloc (.cells #[.slice none 0 0,.slice none 0 0] 49)).alloc (.cells #[.string s,.int .i64 0,.string ⟨#[]⟩,.int .i64 0,.int .i64 0,.int .i64 0,.slice none 0 0] 89)) #[.slice none 0 0,.slice none 0 0] 49;rw[show (w.alloc (.cells #[.slice none 0 0,.slice none 0 0] 49)).heap.size=w.heap.size+1 by simp]at kq;rw[show ((w.alloc (.cells #[.slice none 0 0,.slice none 0 0] 49)).alloc (.cells #[.string s,.int .i64 0,.string ⟨#[]⟩,.int .i64 0,.int .i64 0,.int .i64 0,.slice none 0 0] 89)).heap.size=w.heap.size+1+1 by simp]at kG;have M0:=(((Mv.refl (w.heap.size+1) (.slice none 0 0) w).alloc (.cells #[.slice none 0 0,.slice none 0 0] 49)).alloc (.cells #[.string s,.int .i64 0,.string ⟨#[]⟩,.int .i64 0,.int .i64 0,.int .i64 0,.slice none 0 0] 89)).alloc (.cells #[.slice none 0 0,.slice none 0 0] 49);clear h;go_enter func36,ntmps36;go_wp2_with fail;refine (aiV hss kq).mono ?_;rintro e w0 ⟨rfl,sg0,m0,x0,hr0⟩;have qQ:=x0.keep (b:=w.heap.size) kB.lt (by simp[Value.ownBlock]);have f0G:=x0.keep (b:=w.heap.size+1+1) kG.lt (by simp[Value.ownBlock])
 have kB0:=kB.mv m0 (by omega) (by simp[Value.ownBlock]);have F4:=kG.mv m0 (by omega) (by simp[Value.ownBlock]);have M00:=M0.trans (Nx.refl _ _) m0;have X00:=(Nx.refl (.slice none 0 0) w).trans M0.size x0;have hcnt:=hr0.cnt;go_wp2_with fail
 go_loopg [] ((Lx.lex s).length+1) (fun k wr=>(∃ (aB:List Tk) (acc:List Lx.Lv) (v bI:Value) (gI:List ByteArray) (f:Nat),aB.length+1=k/\aB.length<=f/\acc.length+aB.length<=(Lx.lex s).length/\RR s (w.heap.size+1) wr aB 0 bI gI/\aj wr (w.heap.size+1+1) #[v,.slice none 0 0] 49/\aj wr w.heap.size #[.slice none 0 0,.slice none 0 0] 49/\bI.ownBlock≠some w.heap.size/\bI.ownBlock≠some (w.heap.size+1+1) /\
   jH (w.heap.size+3) bI wr 137 3 xK FC v acc/\Mv (w.heap.size+1) (.slice none 0 0) w wr/\Nx (.slice none 0 0) w bI/\Hid (fP f aB acc=fP (Lx.lex s).length (Lx.lex s) [])) \/
  (∃ (n a:Nat) (xa:Option Addr) (xk xc:Nat) (bI:Value) (gI:List ByteArray),k=0/\RX s (w.heap.size+1) wr 0 n a bI gI/\aj wr (w.heap.size+1+1) #[.slice xa xk xc,.slice none 0 0] 49/\aj wr w.heap.size #[.slice none 0 0,.slice none 0 0] 49/\bI.ownBlock≠some w.heap.size/\Mv (w.heap.size+1) (.slice none 0 0) w wr/\Nx (.slice none 0 0) w bI/\Hid (jR s=.error (n,a))))
 case atStart=>exact .inl ⟨Lx.lex s,[],_,sg0,[],(Lx.lex s).length,rfl,lr0,by simp,hr0,F4,kB0,qQ,f0G,jH.nil _ _ _ _ _ _ _,M00,X00,rfl⟩
 case round =>
  revert wr;intro wz hrel;clear hr0 F4 kB0 qQ f0G M00 X00 m0 x0 M0 kB kq kG;rcases hrel with ⟨aB,acc,v,bI,gI,f,hk,hf,hacc,hr,kG,kB,fB,fG,hgrow,M,X,hpi⟩ | ⟨n,a,xa,xk,xc,bI,gI,hk,hx,kG,kB,fB,M,X,HE⟩
  ·have hne:=hr.wf.ne
   have htl:=hr.wf.mJ;obtain⟨f',rfl⟩:∃ f',f=f'+1:=⟨f-1,by omega⟩;obtain⟨ps,F,hrg⟩:=hgrow;obtain⟨va,vc,rfl⟩:=xq hrg.1.2.1;have lG:=kG.lt;have c2:wz.cell? ⟨w.heap.size+1,2,none⟩=some (.string (fJ (Lx.hd aB))):=hr.blk.cell 2;have c4:wz.cell? ⟨w.heap.size+1,4,none⟩=some (.int .i64 0):=hr.blk.cell 4
   by_cases hkd:Lx.hd aB=Ap
   ·have HK:Hid (Lx.known (Lx.hd aB)=true):=by show _=_;rw[hkd];decide
    have wD:Hid (Lx.hd aB≠aM):=by show _≠_;rw[hkd];decide
    have HKK:Hid (0=(fM (Lx.hd aB)).toNat):=by show _=_;rw[hkd];decide
    have xX:Hid (0<=fM (Lx.hd aB)):=by show _<=_;rw[hkd];decide
    have tl:((fJ (Lx.hd aB)).toList == [37,108,101,102,116])=true:=by rw[hkd,nO (by decide),ByteArray.toList_eq];rfl
    have tr:((fJ (Lx.hd aB)).toList == [37,114,105,103,104,116])=false:=lU (l:=[37,114,105,103,104,116]) (fun e=>by have:=(sJ (b:=Ak) (by decide) (by decide)).1 e;rw[hkd]at this;exact absurd this (by decide));have tn:((fJ (Lx.hd aB)).toList == [37,110,111,110,101])=false:=lU (l:=[37,110,111,110,101]) (fun e=>by have:=(sJ (b:=Aq) (by decide) (by decide)).1 e;rw[hkd]at this;exact absurd this (by decide));clear hkd;go_wp2_with fail;refine (Pq s (w.heap.size+1) wz aB bI gI 0 hr HK.out wD.out HKK.out).mono ?_;intro e w1 he;cases hit:gZ aB with
    | error x =>
     obtain⟨n,a⟩:=x;obtain⟨v1,sg1,sl1,rfl,m1,x1,h1,yk,ya,yl,yc,za,zl,zc,rfl⟩:=he.err hit;have HE:Hid (jR s=.error (n,a)):=by
      show _=_;rw[Gg.out,Gy,<-hpi.out];simp only[fP];rw[if_pos xX.out,hit];rfl
     clear hit he hpi;have hrg1:=hrg.mv kI m1 x1 (by omega);have eT:=kG.mv m1 (by omega) fG;have kB1:=kB.mv m1 (by omega) fB;have bg:=x1.keep (b:=w.heap.size) kB.lt fB;have lM:=x1.keep (b:=w.heap.size+1+1) kG.lt fG;have M1:=M.trans X m1;have zT:=m1.size;have X1:=X.trans M.size x1;have zU:=eT.lt;have qR:w1.cell? ⟨w.heap.size+1+1,0,none⟩=some (Value.slice va acc.length vc):=eT.cell 0;have hown1:=hrg1.1.2.1;have hge:∀ k,(Value.slice va acc.length vc).ownBlock=some k->(w.heap.size+3)<=k:=fun k hk=>(hown1.lt _ hk).1
     go_wp2_with (first
      | (at_builtin;refine wpList_append_lies _ rfl _ _ 46 rfl (w.heap.size+3) 137 k0 _ 3 56 underlying46 ki Gc Gd Gf rfl (by decide) (Value.slice va acc.length vc) acc.length (ps.flatMap xK) rfl ((hown1.alloc _).alloc _) ⟨w1.heap.size+1,0,none⟩ 1 1 [.int .i64 yk,.slice ya yl yc,.slice za zl zc] rfl rfl (by have:=bP (aj.new (w1.alloc (.cells #[.int .i64 yk,.slice ya yl yc,.slice za zl zc] 137)) #[.int .i64 yk,.slice ya yl yc,.slice za zl zc] 137);simpa using this) (by simp[Value.oneCell']) (by decide) (by unfold maxLen;omega) (by omega) (by simp;omega) _ rfl ?_;intro g3 nD w3 hown3 hgrow3 iU hlt3;have dG:=((eT.alloc _).alloc _).grown hgrow3 (fun e=>by have:=hge _ e.symm;omega);have c03:w3.cell? ⟨w.heap.size+1+1,0,none⟩=some (Value.slice va acc.length vc):=dG.cell 0;have oI:∀ i,w3.frozen? ⟨w.heap.size+1+1,i,none⟩=false:=dG.frozen))
     have kB3:=((kB1.alloc (.cells #[.int .i64 yk,.slice ya yl yc,.slice za zl zc] 137)).alloc (.cells #[.int .i64 yk,.slice ya yl yc,.slice za zl zc] 137)).grown hgrow3 (fun e=>by have:=hge _ e.symm;omega);have M3:=((M1.alloc (.cells #[.int .i64 yk,.slice ya yl yc,.slice za zl zc] 137)).alloc (.cells #[.int .i64 yk,.slice ya yl yc,.slice za zl zc] 137)).grown hgrow3 (fun k hk=>.inl (by have:=hge _ hk;omega));have h3:=(((h1.alloc (.cells #[.int .i64 yk,.slice ya yl yc,.slice za zl zc] 137)).alloc (.cells #[.int .i64 yk,.slice ya yl yc,.slice za zl zc] 137)).move (hgrow3.block (w.heap.size+1) (by simp;omega) (fun e=>by have:=hge _ e.symm;omega)) (fun g hg=>hgrow3.block g (by have:=h1.eD g hg;simp;omega) (fun e=>hrg1.2.2 g e.symm hg)));go_roundg 0
     case measure=>omega
     case rel=>exact .inr ⟨n,a,_,_,_,sg1,sl1,rfl,h3.other _ _ (by omega) lM,dG.set 0 _,kB3.other (by omega) _,bg,M3.new (by omega) _ _,X1,HE⟩
    | ok x =>
     obtain⟨lv,aC⟩:=x;obtain⟨v1,sg1,sl1,rfl,m1,x1,h1,vT,vA,rfl,hrows⟩:=he.ok hit;obtain⟨ta,tc,rfl⟩:=xq hrows.1;obtain⟨aa,ac,rfl⟩:=xq hrows.2.1;have IG:=hrows.UG;have hl1:=Kr hit;have ko:Hid (fP f' aC (acc++[lv])=fP (Lx.lex s).length (Lx.lex s) []):=by
      show _=_;rw[<-hpi.out];simp only[fP];rw[if_pos xX.out,hit]
     clear hit he hpi;have hrg1:=hrg.mv kI m1 x1 (by omega);have eT:=kG.mv m1 (by omega) fG;have kB1:=kB.mv m1 (by omega) fB;have bg:=x1.keep (b:=w.heap.size) kB.lt fB;have lM:=x1.keep (b:=w.heap.size+1+1) kG.lt fG;have M1:=M.trans X m1;have zT:=m1.size;have X1:=X.trans M.size x1;have zU:=eT.lt;have qR:w1.cell? ⟨w.heap.size+1+1,0,none⟩=some (Value.slice va acc.length vc):=eT.cell 0;have hown1:=hrg1.1.2.1;have hge:∀ k,(Value.slice va acc.length vc).ownBlock=some k->(w.heap.size+3)<=k:=fun k hk=>(hown1.lt _ hk).1
     go_wp2_with (first
      | (at_builtin;refine wpList_append_lies _ rfl _ _ 46 rfl (w.heap.size+3) 137 k0 _ 3 56 underlying46 ki Gc Gd Gf rfl (by decide) (Value.slice va acc.length vc) acc.length (ps.flatMap xK) rfl ((hown1.alloc _).alloc _) ⟨w1.heap.size+1,0,none⟩ 1 1 [.int .i64 (lv.kind:Int),.slice ta lv.tokens.length tc,.slice aa lv.tokens.length ac] rfl rfl (by have:=bP (aj.new (w1.alloc (.cells #[.int .i64 (lv.kind:Int),.slice ta lv.tokens.length tc,.slice aa lv.tokens.length ac] 137)) #[.int .i64 (lv.kind:Int),.slice ta lv.tokens.length tc,.slice aa lv.tokens.length ac] 137);simpa using this) (by simp[Value.oneCell']) (by decide) (by unfold maxLen;omega) (by omega) (by simp;omega) _ rfl ?_;intro g3 nD w3 hown3 hgrow3 iU hlt3;have dG:=((eT.alloc _).alloc _).grown hgrow3 (fun e=>by have:=hge _ e.symm;omega);have c03:w3.cell? ⟨w.heap.size+1+1,0,none⟩=some (Value.slice va acc.length vc):=dG.cell 0;have oI:∀ i,w3.frozen? ⟨w.heap.size+1+1,i,none⟩=false:=dG.frozen))
     have kB3:=((kB1.alloc (.cells #[.int .i64 (lv.kind:Int),.slice ta lv.tokens.length tc,.slice aa lv.tokens.length ac] 137)).alloc (.cells #[.int .i64 (lv.kind:Int),.slice ta lv.tokens.length tc,.slice aa lv.tokens.length ac] 137)).grown hgrow3 (fun e=>by have:=hge _ e.symm;omega);have M3:=((M1.alloc (.cells #[.int .i64 (lv.kind:Int),.slice ta lv.tokens.length tc,.slice aa lv.tokens.length ac] 137)).alloc (.cells #[.int .i64 (lv.kind:Int),.slice ta lv.tokens.length tc,.slice aa lv.tokens.length ac] 137)).grown hgrow3 (fun k hk=>.inl (by have:=hge _ hk;omega));have h3:=(((h1.alloc (.cells #[.int .i64 (lv.kind:Int),.slice ta lv.tokens.length tc,.slice aa lv.tokens.length ac] 137)).alloc (.cells #[.int .i64 (lv.kind:Int),.slice ta lv.tokens.length tc,.slice aa lv.tokens.length ac] 137)).move (hgrow3.block (w.heap.size+1) (by simp;omega) (fun e=>by have:=hge _ e.symm;omega)) (fun g hg=>hgrow3.block g (by have:=h1.eD g hg;simp;omega) (fun e=>hrg1.2.2 g e.symm hg)));have G3:=jd.push kI hrg (q:=(w.heap.size+1)) (by omega) (by omega) m1 x1 h1.eD (.agg #[.slice ta lv.tokens.length tc,.slice aa lv.tokens.length ac],lv) IG (aY (cK w1 _ none) (cK _ _ none)) hown3 hgrow3 iU;go_roundg (aC.length+1)
     case measure=>omega
     case rel=>exact .inl ⟨aC,acc++[lv],_,sg1,sl1,f',rfl,by omega,by simp;omega,h3.other _ _ (by omega) lM,dG.set 0 _,kB3.other (by omega) _,bg,lM,jH.kept kI G3 (gK w3 (w.heap.size+1+1) 0 _) (fun k hk=>by cases hk;omega),M3.new (by omega) _ _,X1,ko⟩
   have J4:=hkd;clear hkd
   by_cases hkd:Lx.hd aB=Ak
   ·clear J4
    have HK:Hid (Lx.known (Lx.hd aB)=true):=by show _=_;rw[hkd];decide
    have wD:Hid (Lx.hd aB≠aM):=by show _≠_;rw[hkd];decide
    have HKK:Hid (1=(fM (Lx.hd aB)).toNat):=by show _=_;rw[hkd];decide
    have xX:Hid (0<=fM (Lx.hd aB)):=by show _<=_;rw[hkd];decide
    have tl:((fJ (Lx.hd aB)).toList == [37,108,101,102,116])=false:=lU (l:=[37,108,101,102,116]) (fun e=>by have:=(sJ (b:=Ap) (by decide) (by decide)).1 e;rw[hkd]at this;exact absurd this (by decide));have tr:((fJ (Lx.hd aB)).toList == [37,114,105,103,104,116])=true:=by rw[hkd,nO (by decide),ByteArray.toList_eq];rfl
    have tn:((fJ (Lx.hd aB)).toList == [37,110,111,110,101])=false:=lU (l:=[37,110,111,110,101]) (fun e=>by have:=(sJ (b:=Aq) (by decide) (by decide)).1 e;rw[hkd]at this;exact absurd this (by decide));clear hkd;go_wp2_with fail;refine (Pq s (w.heap.size+1) wz aB bI gI 1 hr HK.out wD.out HKK.out).mono ?_;intro e w1 he;cases hit:gZ aB with
    | error x =>
     obtain⟨n,a⟩:=x;obtain⟨v1,sg1,sl1,rfl,m1,x1,h1,yk,ya,yl,yc,za,zl,zc,rfl⟩:=he.err hit;have HE:Hid (jR s=.error (n,a)):=by
      show _=_;rw[Gg.out,Gy,<-hpi.out];simp only[fP];rw[if_pos xX.out,hit];rfl
     clear hit he hpi;have hrg1:=hrg.mv kI m1 x1 (by omega);have eT:=kG.mv m1 (by omega) fG;have kB1:=kB.mv m1 (by omega) fB;have bg:=x1.keep (b:=w.heap.size) kB.lt fB;have lM:=x1.keep (b:=w.heap.size+1+1) kG.lt fG;have M1:=M.trans X m1;have zT:=m1.size;have X1:=X.trans M.size x1;have zU:=eT.lt;have qR:w1.cell? ⟨w.heap.size+1+1,0,none⟩=some (Value.slice va acc.length vc):=eT.cell 0;have hown1:=hrg1.1.2.1;have hge:∀ k,(Value.slice va acc.length vc).ownBlock=some k->(w.heap.size+3)<=k:=fun k hk=>(hown1.lt _ hk).1
     go_wp2_with (first
      | (at_builtin;refine wpList_append_lies _ rfl _ _ 46 rfl (w.heap.size+3) 137 k0 _ 3 56 underlying46 ki Gc Gd Gf rfl (by decide) (Value.slice va acc.length vc) acc.length (ps.flatMap xK) rfl ((hown1.alloc _).alloc _) ⟨w1.heap.size+1,0,none⟩ 1 1 [.int .i64 yk,.slice ya yl yc,.slice za zl zc] rfl rfl (by have:=bP (aj.new (w1.alloc (.cells #[.int .i64 yk,.slice ya yl yc,.slice za zl zc] 137)) #[.int .i64 yk,.slice ya yl yc,.slice za zl zc] 137);simpa using this) (by simp[Value.oneCell']) (by decide) (by unfold maxLen;omega) (by omega) (by simp;omega) _ rfl ?_;intro g3 nD w3 hown3 hgrow3 iU hlt3;have dG:=((eT.alloc _).alloc _).grown hgrow3 (fun e=>by have:=hge _ e.symm;omega);have c03:w3.cell? ⟨w.heap.size+1+1,0,none⟩=some (Value.slice va acc.length vc):=dG.cell 0;have oI:∀ i,w3.frozen? ⟨w.heap.size+1+1,i,none⟩=false:=dG.frozen))
     have kB3:=((kB1.alloc (.cells #[.int .i64 yk,.slice ya yl yc,.slice za zl zc] 137)).alloc (.cells #[.int .i64 yk,.slice ya yl yc,.slice za zl zc] 137)).grown hgrow3 (fun e=>by have:=hge _ e.symm;omega);have M3:=((M1.alloc (.cells #[.int .i64 yk,.slice ya yl yc,.slice za zl zc] 137)).alloc (.cells #[.int .i64 yk,.slice ya yl yc,.slice za zl zc] 137)).grown hgrow3 (fun k hk=>.inl (by have:=hge _ hk;omega));have h3:=(((h1.alloc (.cells #[.int .i64 yk,.slice ya yl yc,.slice za zl zc] 137)).alloc (.cells #[.int .i64 yk,.slice ya yl yc,.slice za zl zc] 137)).move (hgrow3.block (w.heap.size+1) (by simp;omega) (fun e=>by have:=hge _ e.symm;omega)) (fun g hg=>hgrow3.block g (by have:=h1.eD g hg;simp;omega) (fun e=>hrg1.2.2 g e.symm hg)));go_roundg 0
     case measure=>omega
     case rel=>exact .inr ⟨n,a,_,_,_,sg1,sl1,rfl,h3.other _ _ (by omega) lM,dG.set 0 _,kB3.other (by omega) _,bg,M3.new (by omega) _ _,X1,HE⟩
    | ok x =>
     obtain⟨lv,aC⟩:=x;obtain⟨v1,sg1,sl1,rfl,m1,x1,h1,vT,vA,rfl,hrows⟩:=he.ok hit;obtain⟨ta,tc,rfl⟩:=xq hrows.1;obtain⟨aa,ac,rfl⟩:=xq hrows.2.1;have IG:=hrows.UG;have hl1:=Kr hit;have ko:Hid (fP f' aC (acc++[lv])=fP (Lx.lex s).length (Lx.lex s) []):=by
      show _=_;rw[<-hpi.out];simp only[fP];rw[if_pos xX.out,hit]
     clear hit he hpi;have hrg1:=hrg.mv kI m1 x1 (by omega);have eT:=kG.mv m1 (by omega) fG;have kB1:=kB.mv m1 (by omega) fB;have bg:=x1.keep (b:=w.heap.size) kB.lt fB;have lM:=x1.keep (b:=w.heap.size+1+1) kG.lt fG;have M1:=M.trans X m1;have zT:=m1.size;have X1:=X.trans M.size x1;have zU:=eT.lt;have qR:w1.cell? ⟨w.heap.size+1+1,0,none⟩=some (Value.slice va acc.length vc):=eT.cell 0;have hown1:=hrg1.1.2.1;have hge:∀ k,(Value.slice va acc.length vc).ownBlock=some k->(w.heap.size+3)<=k:=fun k hk=>(hown1.lt _ hk).1
     go_wp2_with (first
      | (at_builtin;refine wpList_append_lies _ rfl _ _ 46 rfl (w.heap.size+3) 137 k0 _ 3 56 underlying46 ki Gc Gd Gf rfl (by decide) (Value.slice va acc.length vc) acc.length (ps.flatMap xK) rfl ((hown1.alloc _).alloc _) ⟨w1.heap.size+1,0,none⟩ 1 1 [.int .i64 (lv.kind:Int),.slice ta lv.tokens.length tc,.slice aa lv.tokens.length ac] rfl rfl (by have:=bP (aj.new (w1.alloc (.cells #[.int .i64 (lv.kind:Int),.slice ta lv.tokens.length tc,.slice aa lv.tokens.length ac] 137)) #[.int .i64 (lv.kind:Int),.slice ta lv.tokens.length tc,.slice aa lv.tokens.length ac] 137);simpa using this) (by simp[Value.oneCell']) (by decide) (by unfold maxLen;omega) (by omega) (by simp;omega) _ rfl ?_;intro g3 nD w3 hown3 hgrow3 iU hlt3;have dG:=((eT.alloc _).alloc _).grown hgrow3 (fun e=>by have:=hge _ e.symm;omega);have c03:w3.cell? ⟨w.heap.size+1+1,0,none⟩=some (Value.slice va acc.length vc):=dG.cell 0;have oI:∀ i,w3.frozen? ⟨w.heap.size+1+1,i,none⟩=false:=dG.frozen))
     have kB3:=((kB1.alloc (.cells #[.int .i64 (lv.kind:Int),.slice ta lv.tokens.length tc,.slice aa lv.tokens.length ac] 137)).alloc (.cells #[.int .i64 (lv.kind:Int),.slice ta lv.tokens.length tc,.slice aa lv.tokens.length ac] 137)).grown hgrow3 (fun e=>by have:=hge _ e.symm;omega);have M3:=((M1.alloc (.cells #[.int .i64 (lv.kind:Int),.slice ta lv.tokens.length tc,.slice aa lv.tokens.length ac] 137)).alloc (.cells #[.int .i64 (lv.kind:Int),.slice ta lv.tokens.length tc,.slice aa lv.tokens.length ac] 137)).grown hgrow3 (fun k hk=>.inl (by have:=hge _ hk;omega));have h3:=(((h1.alloc (.cells #[.int .i64 (lv.kind:Int),.slice ta lv.tokens.length tc,.slice aa lv.tokens.length ac] 137)).alloc (.cells #[.int .i64 (lv.kind:Int),.slice ta lv.tokens.length tc,.slice aa lv.tokens.length ac] 137)).move (hgrow3.block (w.heap.size+1) (by simp;omega) (fun e=>by have:=hge _ e.symm;omega)) (fun g hg=>hgrow3.block g (by have:=h1.eD g hg;simp;omega) (fun e=>hrg1.2.2 g e.symm hg)));have G3:=jd.push kI hrg (q:=(w.heap.size+1)) (by omega) (by omega) m1 x1 h1.eD (.agg #[.slice ta lv.tokens.length tc,.slice aa lv.tokens.length ac],lv) IG (aY (cK w1 _ none) (cK _ _ none)) hown3 hgrow3 iU;go_roundg (aC.length+1)
     case measure=>omega
     case rel=>exact .inl ⟨aC,acc++[lv],_,sg1,sl1,f',rfl,by omega,by simp;omega,h3.other _ _ (by omega) lM,dG.set 0 _,kB3.other (by omega) _,bg,lM,jH.kept kI G3 (gK w3 (w.heap.size+1+1) 0 _) (fun k hk=>by cases hk;omega),M3.new (by omega) _ _,X1,ko⟩
   have Oj:=hkd;clear hkd
   by_cases hkd:Lx.hd aB=Aq
   ·clear J4 Oj
    have HK:Hid (Lx.known (Lx.hd aB)=true):=by show _=_;rw[hkd];decide
    have wD:Hid (Lx.hd aB≠aM):=by show _≠_;rw[hkd];decide
    have HKK:Hid (2=(fM (Lx.hd aB)).toNat):=by show _=_;rw[hkd];decide
    have xX:Hid (0<=fM (Lx.hd aB)):=by show _<=_;rw[hkd];decide
    have tl:((fJ (Lx.hd aB)).toList == [37,108,101,102,116])=false:=lU (l:=[37,108,101,102,116]) (fun e=>by have:=(sJ (b:=Ap) (by decide) (by decide)).1 e;rw[hkd]at this;exact absurd this (by decide));have tr:((fJ (Lx.hd aB)).toList == [37,114,105,103,104,116])=false:=lU (l:=[37,114,105,103,104,116]) (fun e=>by have:=(sJ (b:=Ak) (by decide) (by decide)).1 e;rw[hkd]at this;exact absurd this (by decide));have tn:((fJ (Lx.hd aB)).toList == [37,110,111,110,101])=true:=by rw[hkd,nO (by decide),ByteArray.toList_eq];rfl
    clear hkd;go_wp2_with fail;refine (Pq s (w.heap.size+1) wz aB bI gI 2 hr HK.out wD.out HKK.out).mono ?_;intro e w1 he;cases hit:gZ aB with
    | error x =>
     obtain⟨n,a⟩:=x;obtain⟨v1,sg1,sl1,rfl,m1,x1,h1,yk,ya,yl,yc,za,zl,zc,rfl⟩:=he.err hit;have HE:Hid (jR s=.error (n,a)):=by
      show _=_;rw[Gg.out,Gy,<-hpi.out];simp only[fP];rw[if_pos xX.out,hit];rfl
     clear hit he hpi;have hrg1:=hrg.mv kI m1 x1 (by omega);have eT:=kG.mv m1 (by omega) fG;have kB1:=kB.mv m1 (by omega) fB;have bg:=x1.keep (b:=w.heap.size) kB.lt fB;have lM:=x1.keep (b:=w.heap.size+1+1) kG.lt fG;have M1:=M.trans X m1;have zT:=m1.size;have X1:=X.trans M.size x1;have zU:=eT.lt;have qR:w1.cell? ⟨w.heap.size+1+1,0,none⟩=some (Value.slice va acc.length vc):=eT.cell 0;have hown1:=hrg1.1.2.1;have hge:∀ k,(Value.slice va acc.length vc).ownBlock=some k->(w.heap.size+3)<=k:=fun k hk=>(hown1.lt _ hk).1
     go_wp2_with (first
      | (at_builtin;refine wpList_append_lies _ rfl _ _ 46 rfl (w.heap.size+3) 137 k0 _ 3 56 underlying46 ki Gc Gd Gf rfl (by decide) (Value.slice va acc.length vc) acc.length (ps.flatMap xK) rfl ((hown1.alloc _).alloc _) ⟨w1.heap.size+1,0,none⟩ 1 1 [.int .i64 yk,.slice ya yl yc,.slice za zl zc] rfl rfl (by have:=bP (aj.new (w1.alloc (.cells #[.int .i64 yk,.slice ya yl yc,.slice za zl zc] 137)) #[.int .i64 yk,.slice ya yl yc,.slice za zl zc] 137);simpa using this) (by simp[Value.oneCell']) (by decide) (by unfold maxLen;omega) (by omega) (by simp;omega) _ rfl ?_;intro g3 nD w3 hown3 hgrow3 iU hlt3;have dG:=((eT.alloc _).alloc _).grown hgrow3 (fun e=>by have:=hge _ e.symm;omega);have c03:w3.cell? ⟨w.heap.size+1+1,0,none⟩=some (Value.slice va acc.length vc):=dG.cell 0;have oI:∀ i,w3.frozen? ⟨w.heap.size+1+1,i,none⟩=false:=dG.frozen))
     have kB3:=((kB1.alloc (.cells #[.int .i64 yk,.slice ya yl yc,.slice za zl zc] 137)).alloc (.cells #[.int .i64 yk,.slice ya yl yc,.slice za zl zc] 137)).grown hgrow3 (fun e=>by have:=hge _ e.symm;omega);have M3:=((M1.alloc (.cells #[.int .i64 yk,.slice ya yl yc,.slice za zl zc] 137)).alloc (.cells #[.int .i64 yk,.slice ya yl yc,.slice za zl zc] 137)).grown hgrow3 (fun k hk=>.inl (by have:=hge _ hk;omega));have h3:=(((h1.alloc (.cells #[.int .i64 yk,.slice ya yl yc,.slice za zl zc] 137)).alloc (.cells #[.int .i64 yk,.slice ya yl yc,.slice za zl zc] 137)).move (hgrow3.block (w.heap.size+1) (by simp;omega) (fun e=>by have:=hge _ e.symm;omega)) (fun g hg=>hgrow3.block g (by have:=h1.eD g hg;simp;omega) (fun e=>hrg1.2.2 g e.symm hg)));go_roundg 0
     case measure=>omega
     case rel=>exact .inr ⟨n,a,_,_,_,sg1,sl1,rfl,h3.other _ _ (by omega) lM,dG.set 0 _,kB3.other (by omega) _,bg,M3.new (by omega) _ _,X1,HE⟩
    | ok x =>
     obtain⟨lv,aC⟩:=x;obtain⟨v1,sg1,sl1,rfl,m1,x1,h1,vT,vA,rfl,hrows⟩:=he.ok hit;obtain⟨ta,tc,rfl⟩:=xq hrows.1;obtain⟨aa,ac,rfl⟩:=xq hrows.2.1;have IG:=hrows.UG;have hl1:=Kr hit;have ko:Hid (fP f' aC (acc++[lv])=fP (Lx.lex s).length (Lx.lex s) []):=by
      show _=_;rw[<-hpi.out];simp only[fP];rw[if_pos xX.out,hit]
     clear hit he hpi;have hrg1:=hrg.mv kI m1 x1 (by omega);have eT:=kG.mv m1 (by omega) fG;have kB1:=kB.mv m1 (by omega) fB;have bg:=x1.keep (b:=w.heap.size) kB.lt fB;have lM:=x1.keep (b:=w.heap.size+1+1) kG.lt fG;have M1:=M.trans X m1;have zT:=m1.size;have X1:=X.trans M.size x1;have zU:=eT.lt;have qR:w1.cell? ⟨w.heap.size+1+1,0,none⟩=some (Value.slice va acc.length vc):=eT.cell 0;have hown1:=hrg1.1.2.1;have hge:∀ k,(Value.slice va acc.length vc).ownBlock=some k->(w.heap.size+3)<=k:=fun k hk=>(hown1.lt _ hk).1
     go_wp2_with (first
      | (at_builtin;refine wpList_append_lies _ rfl _ _ 46 rfl (w.heap.size+3) 137 k0 _ 3 56 underlying46 ki Gc Gd Gf rfl (by decide) (Value.slice va acc.length vc) acc.length (ps.flatMap xK) rfl ((hown1.alloc _).alloc _) ⟨w1.heap.size+1,0,none⟩ 1 1 [.int .i64 (lv.kind:Int),.slice ta lv.tokens.length tc,.slice aa lv.tokens.length ac] rfl rfl (by have:=bP (aj.new (w1.alloc (.cells #[.int .i64 (lv.kind:Int),.slice ta lv.tokens.length tc,.slice aa lv.tokens.length ac] 137)) #[.int .i64 (lv.kind:Int),.slice ta lv.tokens.length tc,.slice aa lv.tokens.length ac] 137);simpa using this) (by simp[Value.oneCell']) (by decide) (by unfold maxLen;omega) (by omega) (by simp;omega) _ rfl ?_;intro g3 nD w3 hown3 hgrow3 iU hlt3;have dG:=((eT.alloc _).alloc _).grown hgrow3 (fun e=>by have:=hge _ e.symm;omega);have c03:w3.cell? ⟨w.heap.size+1+1,0,none⟩=some (Value.slice va acc.length vc):=dG.cell 0;have oI:∀ i,w3.frozen? ⟨w.heap.size+1+1,i,none⟩=false:=dG.frozen))
     have kB3:=((kB1.alloc (.cells #[.int .i64 (lv.kind:Int),.slice ta lv.tokens.length tc,.slice aa lv.tokens.length ac] 137)).alloc (.cells #[.int .i64 (lv.kind:Int),.slice ta lv.tokens.length tc,.slice aa lv.tokens.length ac] 137)).grown hgrow3 (fun e=>by have:=hge _ e.symm;omega);have M3:=((M1.alloc (.cells #[.int .i64 (lv.kind:Int),.slice ta lv.tokens.length tc,.slice aa lv.tokens.length ac] 137)).alloc (.cells #[.int .i64 (lv.kind:Int),.slice ta lv.tokens.length tc,.slice aa lv.tokens.length ac] 137)).grown hgrow3 (fun k hk=>.inl (by have:=hge _ hk;omega));have h3:=(((h1.alloc (.cells #[.int .i64 (lv.kind:Int),.slice ta lv.tokens.length tc,.slice aa lv.tokens.length ac] 137)).alloc (.cells #[.int .i64 (lv.kind:Int),.slice ta lv.tokens.length tc,.slice aa lv.tokens.length ac] 137)).move (hgrow3.block (w.heap.size+1) (by simp;omega) (fun e=>by have:=hge _ e.symm;omega)) (fun g hg=>hgrow3.block g (by have:=h1.eD g hg;simp;omega) (fun e=>hrg1.2.2 g e.symm hg)));have G3:=jd.push kI hrg (q:=(w.heap.size+1)) (by omega) (by omega) m1 x1 h1.eD (.agg #[.slice ta lv.tokens.length tc,.slice aa lv.tokens.length ac],lv) IG (aY (cK w1 _ none) (cK _ _ none)) hown3 hgrow3 iU;go_roundg (aC.length+1)
     case measure=>omega
     case rel=>exact .inl ⟨aC,acc++[lv],_,sg1,sl1,f',rfl,by omega,by simp;omega,h3.other _ _ (by omega) lM,dG.set 0 _,kB3.other (by omega) _,bg,lM,jH.kept kI G3 (gK w3 (w.heap.size+1+1) 0 _) (fun k hk=>by cases hk;omega),M3.new (by omega) _ _,X1,ko⟩
   have UH:=hkd;clear hkd;have tl:((fJ (Lx.hd aB)).toList == [37,108,101,102,116])=false:=lU (l:=[37,108,101,102,116]) (fun e=>J4 ((sJ (b:=Ap) (by decide) (by decide)).1 e));have tr:((fJ (Lx.hd aB)).toList == [37,114,105,103,104,116])=false:=lU (l:=[37,114,105,103,104,116]) (fun e=>Oj ((sJ (b:=Ak) (by decide) (by decide)).1 e));have tn:((fJ (Lx.hd aB)).toList == [37,110,111,110,101])=false:=lU (l:=[37,110,111,110,101]) (fun e=>UH ((sJ (b:=Aq) (by decide) (by decide)).1 e));have HG:Hid (gX (Lx.lex s)=yJ acc aB):=by
    show _=_;rw[Gy,<-hpi.out];simp only[fP];rw[if_neg (by unfold fM;rw[if_neg J4,if_neg Oj,if_neg UH];decide)];rfl
   clear J4 Oj UH hpi;have hFN:∀ b,F b->b<wz.heap.size:=fun b hb=>(hrg.1.2.2.2.1 b hb).2
   have hVN:∀ g,(Value.slice va acc.length vc).ownBlock=some g->g<wz.heap.size:=fun g hg=>(hrg.1.2.1.lt g hg).2
   go_wp2_with fail
   go_loopg [] (aB.length+1) (fun k wr=>(∃ (oH:List Tk) (rs:List Lx.Rl) (vR yY:Value) (MW:List ByteArray),oH.length+1=k/\rs.length+oH.length<=(Lx.lex s).length/\wz.heap.size<=wr.heap.size/\RR s (w.heap.size+1) wr oH 0 yY MW/\aj wr (w.heap.size+1+1) #[.slice va acc.length vc,vR] 49/\aj wr w.heap.size #[.slice none 0 0,.slice none 0 0] 49/\yY.ownBlock≠some w.heap.size/\yY.ownBlock≠some (w.heap.size+1+1) /\
     jd (w.heap.size+3) yY wr 137 3 xK FC (.slice va acc.length vc) acc ps F/\jH wz.heap.size yY wr 99 3 Da Sl vR rs/\Mv (w.heap.size+1) (.slice none 0 0) w wr/\Nx (.slice none 0 0) w yY/\Hid (RC (Lx.lex s) acc aB oH rs)) \/
    (∃ (n a:Nat) (xa:Option Addr) (xk xc:Nat) (tY:Option Addr) (tZ uf:Nat) (bI:Value) (gI:List ByteArray),k=0/\RX s (w.heap.size+1) wr 0 n a bI gI/\aj wr (w.heap.size+1+1) #[.slice xa xk xc,.slice tY tZ uf] 49/\aj wr w.heap.size #[.slice none 0 0,.slice none 0 0] 49/\bI.ownBlock≠some w.heap.size/\Mv (w.heap.size+1) (.slice none 0 0) w wr/\Nx (.slice none 0 0) w bI/\Hid (jR s=.error (n,a))))
   case atStart=>exact .inl ⟨aB,[],_,bI,gI,rfl,by simp;omega,lr0,hr,kG,kB,fB,fG,hrg,jH.nil _ _ _ _ _ _ _,M,X,.inl ⟨rfl,rfl,HG.out⟩⟩
   case round =>
    have lZ:=lG;clear M X kG kB fB fG c2 c4 hr hrg lG;rcases hrel with ⟨oH,rs,vR,yY,MW,hk,hrs,hzr,hr2,jG,jB,fB,fG,hlv,hgrow,M,X,hrc⟩ | ⟨n,a,xa,xk,xc,tY,tZ,uf,bI,gI,hk,hx,BF,jN,fB,M,X,HE⟩
    ·have hne:=hr2.wf.ne
     have anp:=hr2.wf.mJ;obtain⟨pr,Fr,hrr⟩:=hgrow;obtain⟨ra,rc,rfl⟩:=xq hrr.1.2.1;have lG:=jG.lt;have szM:=M.size;have c1:wr.cell? ⟨w.heap.size+1,1,none⟩=some (.int .i64 (Lx.pl oH:Int)):=hr2.blk.cell 1;have c4:wr.cell? ⟨w.heap.size+1,4,none⟩=some (.int .i64 0):=hr2.blk.cell 4;have g1:wr.cell? ⟨w.heap.size+1+1,1,none⟩=some (.slice ra rs.length rc):=jG.cell 1
     by_cases ha:rs=[]
     ·have hl0:((rs.length:Int) == 0)=true:=by rw[ha];rfl
      have wE:Hid (rs=[]\/¬ Lx.hd oH=aM):=.inl ha;clear ha;go_wp2_with fail;refine (YF s (w.heap.size+1) wr oH yY MW hr2).mono ?_;intro e w1 he;cases hit:dI oH with
      | error x =>
       obtain⟨n,a⟩:=x;obtain⟨v1,sg1,sl1,rfl,m1,x1,h1,yn,ya,yl,yc,yp,rfl⟩:=he.err hit;have HE:Hid (jR s=.error (n,a)):=by show _=_;rw[Gg.out];exact hrc.out.err hne wE.out hit
       clear hit he hrc;have hrg1:=hrr.mv (ug YR 9) m1 x1 (by omega);have eT:=jG.mv m1 (by omega) fG;have kB1:=jB.mv m1 (by omega) fB;have bg:=x1.keep (b:=w.heap.size) jB.lt fB;have lM:=x1.keep (b:=w.heap.size+1+1) jG.lt fG;have M1:=M.trans X m1;have zT:=m1.size;have X1:=X.trans M.size x1;have zU:=eT.lt;have qR:w1.cell? ⟨w.heap.size+1+1,1,none⟩=some (Value.slice ra rs.length rc):=eT.cell 1;have hown1:=hrg1.1.2.1;have hge:∀ k,(Value.slice ra rs.length rc).ownBlock=some k->wz.heap.size<=k:=fun k hk=>(hown1.lt _ hk).1
       go_wp2_with (first
        | (at_builtin;refine wpList_append_lies _ rfl _ _ 47 rfl wz.heap.size 99 j0 _ 3 48 underlying47 ji Oh jz1 Oi rfl (by decide) (Value.slice ra rs.length rc) rs.length (pr.flatMap Da) rfl ((hown1.alloc _).alloc _) ⟨w1.heap.size+1,0,none⟩ 1 1 [.string yn,.slice ya yl yc,.int .i64 yp] rfl rfl (by have:=bP (aj.new (w1.alloc (.cells #[.string yn,.slice ya yl yc,.int .i64 yp] 99)) #[.string yn,.slice ya yl yc,.int .i64 yp] 99);simpa using this) (by simp[Value.oneCell']) (by decide) (by unfold maxLen;omega) (by omega) (by simp;omega) _ rfl ?_;intro g3 nD w3 hown3 hgrow3 iU hlt3;have dG:=((eT.alloc _).alloc _).grown hgrow3 (fun e=>by have:=hge _ e.symm;omega);have c03:w3.cell? ⟨w.heap.size+1+1,1,none⟩=some (Value.slice ra rs.length rc):=dG.cell 1;have oI:∀ i,w3.frozen? ⟨w.heap.size+1+1,i,none⟩=false:=dG.frozen))
       have kB3:=((kB1.alloc (.cells #[.string yn,.slice ya yl yc,.int .i64 yp] 99)).alloc (.cells #[.string yn,.slice ya yl yc,.int .i64 yp] 99)).grown hgrow3 (fun e=>by have:=hge _ e.symm;omega);have M3:=((M1.alloc (.cells #[.string yn,.slice ya yl yc,.int .i64 yp] 99)).alloc (.cells #[.string yn,.slice ya yl yc,.int .i64 yp] 99)).grown hgrow3 (fun k hk=>.inl (by have:=hge _ hk;omega));have h3:=(((h1.alloc (.cells #[.string yn,.slice ya yl yc,.int .i64 yp] 99)).alloc (.cells #[.string yn,.slice ya yl yc,.int .i64 yp] 99)).move (hgrow3.block (w.heap.size+1) (by simp;omega) (fun e=>by have:=hge _ e.symm;omega)) (fun g hg=>hgrow3.block g (by have:=h1.eD g hg;simp;omega) (fun e=>hrg1.2.2 g e.symm hg)));go_roundg 0
       case measure=>omega
       case rel=>exact .inr ⟨n,a,_,_,_,_,_,_,sg1,sl1,rfl,h3.other _ _ (by omega) lM,dG.set 1 _,kB3.other (by omega) _,bg,M3.new (by omega) _ _,X1,HE⟩
      | ok x =>
       obtain⟨rl,aC⟩:=x;obtain⟨v1,sg1,sl1,rfl,m1,x1,h1,Nq,rfl,hax⟩:=he.ok hit;obtain⟨ya,yl,yc,rfl⟩:=ay.form hax;have hl1:=GQ hit;have UI:Hid (RC (Lx.lex s) acc aB aC (rs++[rl])):=hrc.out.ok (by omega) wE.out hit;clear hit he hrc;have hrg1:=hrr.mv (ug YR 9) m1 x1 (by omega);have hlv1:=hlv.mv kI m1 x1 (by omega);have eT:=jG.mv m1 (by omega) fG;have kB1:=jB.mv m1 (by omega) fB;have bg:=x1.keep (b:=w.heap.size) jB.lt fB;have lM:=x1.keep (b:=w.heap.size+1+1) jG.lt fG;have M1:=M.trans X m1;have zT:=m1.size;have X1:=X.trans M.size x1;have zU:=eT.lt;have qR:w1.cell? ⟨w.heap.size+1+1,1,none⟩=some (Value.slice ra rs.length rc):=eT.cell 1;have hown1:=hrg1.1.2.1;have hge:∀ k,(Value.slice ra rs.length rc).ownBlock=some k->wz.heap.size<=k:=fun k hk=>(hown1.lt _ hk).1
       go_wp2_with (first
        | (at_builtin;refine wpList_append_lies _ rfl _ _ 47 rfl wz.heap.size 99 j0 _ 3 48 underlying47 ji Oh jz1 Oi rfl (by decide) (Value.slice ra rs.length rc) rs.length (pr.flatMap Da) rfl ((hown1.alloc _).alloc _) ⟨w1.heap.size+1,0,none⟩ 1 1 [.string rl.name,.slice ya yl yc,.int .i64 (rl.place:Int)] rfl rfl (by have:=bP (aj.new (w1.alloc (.cells #[.string rl.name,.slice ya yl yc,.int .i64 (rl.place:Int)] 99)) #[.string rl.name,.slice ya yl yc,.int .i64 (rl.place:Int)] 99);simpa using this) (by simp[Value.oneCell']) (by decide) (by unfold maxLen;omega) (by omega) (by simp;omega) _ rfl ?_;intro g3 nD w3 hown3 hgrow3 iU hlt3;have dG:=((eT.alloc _).alloc _).grown hgrow3 (fun e=>by have:=hge _ e.symm;omega);have c03:w3.cell? ⟨w.heap.size+1+1,1,none⟩=some (Value.slice ra rs.length rc):=dG.cell 1;have oI:∀ i,w3.frozen? ⟨w.heap.size+1+1,i,none⟩=false:=dG.frozen))
       have kB3:=((kB1.alloc (.cells #[.string rl.name,.slice ya yl yc,.int .i64 (rl.place:Int)] 99)).alloc (.cells #[.string rl.name,.slice ya yl yc,.int .i64 (rl.place:Int)] 99)).grown hgrow3 (fun e=>by have:=hge _ e.symm;omega);have M3:=((M1.alloc (.cells #[.string rl.name,.slice ya yl yc,.int .i64 (rl.place:Int)] 99)).alloc (.cells #[.string rl.name,.slice ya yl yc,.int .i64 (rl.place:Int)] 99)).grown hgrow3 (fun k hk=>.inl (by have:=hge _ hk;omega));have h3:=(((h1.alloc (.cells #[.string rl.name,.slice ya yl yc,.int .i64 (rl.place:Int)] 99)).alloc (.cells #[.string rl.name,.slice ya yl yc,.int .i64 (rl.place:Int)] 99)).move (hgrow3.block (w.heap.size+1) (by simp;omega) (fun e=>by have:=hge _ e.symm;omega)) (fun g hg=>hgrow3.block g (by have:=h1.eD g hg;simp;omega) (fun e=>hrg1.2.2 g e.symm hg)));have G3:=jd.push (ug YR 9) hrr (q:=(w.heap.size+1)) (by omega) (by omega) m1 x1 h1.eD (.slice ya yl yc,rl) hax (aY (cK w1 _ none) (cK _ _ none)) hown3 hgrow3 iU;have Je:wz.heap.size<=(w3.setCell ⟨w.heap.size+1+1,1,none⟩ (.slice (some ⟨g3,0,none⟩) (rs.length+1) nD)).heap.size:=by
        have s2:w1.heap.size+2<=w3.heap.size:=by have:=hgrow3.size;simpa using this
        simp[World.setCell];omega
       have L3:=((hlv1.apart kI (aY (cK w1 (.cells #[.string rl.name,.slice ya yl yc,.int .i64 (rl.place:Int)] 99) none) (cK _ (.cells #[.string rl.name,.slice ya yl yc,.int .i64 (rl.place:Int)] 99) none)) (fun k hk=>by simp at hk)).apart kI hgrow3 (fun k hk=>⟨fun hF=>by have:=hFN k hF;have:=hge _ hk;omega,fun e=>by have:=hVN k e;have:=hge _ hk;omega⟩)).kept kI (gK w3 (w.heap.size+1+1) 1 (.slice (some ⟨g3,0,none⟩) (rs.length+1) nD)) (fun k hk=>by cases hk;omega);go_roundg (aC.length+1)
       case measure=>omega
       case rel=>exact .inl ⟨aC,rs++[rl],_,sg1,sl1,rfl,by simp;omega,Je,h3.other _ _ (by omega) lM,dG.set 1 _,kB3.other (by omega) _,bg,lM,L3,jH.kept (ug YR 9) G3 (gK w3 (w.heap.size+1+1) 1 _) (fun k hk=>by cases hk;omega),M3.new (by omega) _ _,X1,UI⟩
     ·have hl0:((rs.length:Int) == 0)=false:=beq_eq_false_iff_ne.2 (by have:=List.length_pos_iff.2 ha;omega)
      by_cases hlt:Lx.pl oH<s.size
      ·have hlt':decide ((Lx.pl oH:Int)<(s.size:Int))=true:=decide_eq_true (by omega)
       have hlt2:decide (Lx.pl oH<s.size)=true:=decide_eq_true hlt;have wE:Hid (rs=[]\/¬ Lx.hd oH=aM):=.inr (fun e=>(Z9 hr2).1 e hlt);clear ha;go_wp2_with fail;refine (YF s (w.heap.size+1) wr oH yY MW hr2).mono ?_;intro e w1 he;cases hit:dI oH with
       | error x =>
        obtain⟨n,a⟩:=x;obtain⟨v1,sg1,sl1,rfl,m1,x1,h1,yn,ya,yl,yc,yp,rfl⟩:=he.err hit;have HE:Hid (jR s=.error (n,a)):=by show _=_;rw[Gg.out];exact hrc.out.err hne wE.out hit
        clear hit he hrc;have hrg1:=hrr.mv (ug YR 9) m1 x1 (by omega);have eT:=jG.mv m1 (by omega) fG;have kB1:=jB.mv m1 (by omega) fB;have bg:=x1.keep (b:=w.heap.size) jB.lt fB;have lM:=x1.keep (b:=w.heap.size+1+1) jG.lt fG;have M1:=M.trans X m1;have zT:=m1.size;have X1:=X.trans M.size x1;have zU:=eT.lt;have qR:w1.cell? ⟨w.heap.size+1+1,1,none⟩=some (Value.slice ra rs.length rc):=eT.cell 1;have hown1:=hrg1.1.2.1;have hge:∀ k,(Value.slice ra rs.length rc).ownBlock=some k->wz.heap.size<=k:=fun k hk=>(hown1.lt _ hk).1
        go_wp2_with (first
         | (at_builtin;refine wpList_append_lies _ rfl _ _ 47 rfl wz.heap.size 99 j0 _ 3 48 underlying47 ji Oh jz1 Oi rfl (by decide) (Value.slice ra rs.length rc) rs.length (pr.flatMap Da) rfl ((hown1.alloc _).alloc _) ⟨w1.heap.size+1,0,none⟩ 1 1 [.string yn,.slice ya yl yc,.int .i64 yp] rfl rfl (by have:=bP (aj.new (w1.alloc (.cells #[.string yn,.slice ya yl yc,.int .i64 yp] 99)) #[.string yn,.slice ya yl yc,.int .i64 yp] 99);simpa using this) (by simp[Value.oneCell']) (by decide) (by unfold maxLen;omega) (by omega) (by simp;omega) _ rfl ?_;intro g3 nD w3 hown3 hgrow3 iU hlt3;have dG:=((eT.alloc _).alloc _).grown hgrow3 (fun e=>by have:=hge _ e.symm;omega);have c03:w3.cell? ⟨w.heap.size+1+1,1,none⟩=some (Value.slice ra rs.length rc):=dG.cell 1;have oI:∀ i,w3.frozen? ⟨w.heap.size+1+1,i,none⟩=false:=dG.frozen))
        have kB3:=((kB1.alloc (.cells #[.string yn,.slice ya yl yc,.int .i64 yp] 99)).alloc (.cells #[.string yn,.slice ya yl yc,.int .i64 yp] 99)).grown hgrow3 (fun e=>by have:=hge _ e.symm;omega);have M3:=((M1.alloc (.cells #[.string yn,.slice ya yl yc,.int .i64 yp] 99)).alloc (.cells #[.string yn,.slice ya yl yc,.int .i64 yp] 99)).grown hgrow3 (fun k hk=>.inl (by have:=hge _ hk;omega));have h3:=(((h1.alloc (.cells #[.string yn,.slice ya yl yc,.int .i64 yp] 99)).alloc (.cells #[.string yn,.slice ya yl yc,.int .i64 yp] 99)).move (hgrow3.block (w.heap.size+1) (by simp;omega) (fun e=>by have:=hge _ e.symm;omega)) (fun g hg=>hgrow3.block g (by have:=h1.eD g hg;simp;omega) (fun e=>hrg1.2.2 g e.symm hg)));go_roundg 0
        case measure=>omega
        case rel=>exact .inr ⟨n,a,_,_,_,_,_,_,sg1,sl1,rfl,h3.other _ _ (by omega) lM,dG.set 1 _,kB3.other (by omega) _,bg,M3.new (by omega) _ _,X1,HE⟩
       | ok x =>
        obtain⟨rl,aC⟩:=x;obtain⟨v1,sg1,sl1,rfl,m1,x1,h1,Nq,rfl,hax⟩:=he.ok hit;obtain⟨ya,yl,yc,rfl⟩:=ay.form hax;have hl1:=GQ hit;have UI:Hid (RC (Lx.lex s) acc aB aC (rs++[rl])):=hrc.out.ok (by omega) wE.out hit;clear hit he hrc;have hrg1:=hrr.mv (ug YR 9) m1 x1 (by omega);have hlv1:=hlv.mv kI m1 x1 (by omega);have eT:=jG.mv m1 (by omega) fG;have kB1:=jB.mv m1 (by omega) fB;have bg:=x1.keep (b:=w.heap.size) jB.lt fB;have lM:=x1.keep (b:=w.heap.size+1+1) jG.lt fG;have M1:=M.trans X m1;have zT:=m1.size;have X1:=X.trans M.size x1;have zU:=eT.lt;have qR:w1.cell? ⟨w.heap.size+1+1,1,none⟩=some (Value.slice ra rs.length rc):=eT.cell 1;have hown1:=hrg1.1.2.1;have hge:∀ k,(Value.slice ra rs.length rc).ownBlock=some k->wz.heap.size<=k:=fun k hk=>(hown1.lt _ hk).1
        go_wp2_with (first
         | (at_builtin;refine wpList_append_lies _ rfl _ _ 47 rfl wz.heap.size 99 j0 _ 3 48 underlying47 ji Oh jz1 Oi rfl (by decide) (Value.slice ra rs.length rc) rs.length (pr.flatMap Da) rfl ((hown1.alloc _).alloc _) ⟨w1.heap.size+1,0,none⟩ 1 1 [.string rl.name,.slice ya yl yc,.int .i64 (rl.place:Int)] rfl rfl (by have:=bP (aj.new (w1.alloc (.cells #[.string rl.name,.slice ya yl yc,.int .i64 (rl.place:Int)] 99)) #[.string rl.name,.slice ya yl yc,.int .i64 (rl.place:Int)] 99);simpa using this) (by simp[Value.oneCell']) (by decide) (by unfold maxLen;omega) (by omega) (by simp;omega) _ rfl ?_;intro g3 nD w3 hown3 hgrow3 iU hlt3;have dG:=((eT.alloc _).alloc _).grown hgrow3 (fun e=>by have:=hge _ e.symm;omega);have c03:w3.cell? ⟨w.heap.size+1+1,1,none⟩=some (Value.slice ra rs.length rc):=dG.cell 1;have oI:∀ i,w3.frozen? ⟨w.heap.size+1+1,i,none⟩=false:=dG.frozen))
        have kB3:=((kB1.alloc (.cells #[.string rl.name,.slice ya yl yc,.int .i64 (rl.place:Int)] 99)).alloc (.cells #[.string rl.name,.slice ya yl yc,.int .i64 (rl.place:Int)] 99)).grown hgrow3 (fun e=>by have:=hge _ e.symm;omega);have M3:=((M1.alloc (.cells #[.string rl.name,.slice ya yl yc,.int .i64 (rl.place:Int)] 99)).alloc (.cells #[.string rl.name,.slice ya yl yc,.int .i64 (rl.place:Int)] 99)).grown hgrow3 (fun k hk=>.inl (by have:=hge _ hk;omega));have h3:=(((h1.alloc (.cells #[.string rl.name,.slice ya yl yc,.int .i64 (rl.place:Int)] 99)).alloc (.cells #[.string rl.name,.slice ya yl yc,.int .i64 (rl.place:Int)] 99)).move (hgrow3.block (w.heap.size+1) (by simp;omega) (fun e=>by have:=hge _ e.symm;omega)) (fun g hg=>hgrow3.block g (by have:=h1.eD g hg;simp;omega) (fun e=>hrg1.2.2 g e.symm hg)));have G3:=jd.push (ug YR 9) hrr (q:=(w.heap.size+1)) (by omega) (by omega) m1 x1 h1.eD (.slice ya yl yc,rl) hax (aY (cK w1 _ none) (cK _ _ none)) hown3 hgrow3 iU;have Je:wz.heap.size<=(w3.setCell ⟨w.heap.size+1+1,1,none⟩ (.slice (some ⟨g3,0,none⟩) (rs.length+1) nD)).heap.size:=by
         have s2:w1.heap.size+2<=w3.heap.size:=by have:=hgrow3.size;simpa using this
         simp[World.setCell];omega
        have L3:=((hlv1.apart kI (aY (cK w1 (.cells #[.string rl.name,.slice ya yl yc,.int .i64 (rl.place:Int)] 99) none) (cK _ (.cells #[.string rl.name,.slice ya yl yc,.int .i64 (rl.place:Int)] 99) none)) (fun k hk=>by simp at hk)).apart kI hgrow3 (fun k hk=>⟨fun hF=>by have:=hFN k hF;have:=hge _ hk;omega,fun e=>by have:=hVN k e;have:=hge _ hk;omega⟩)).kept kI (gK w3 (w.heap.size+1+1) 1 (.slice (some ⟨g3,0,none⟩) (rs.length+1) nD)) (fun k hk=>by cases hk;omega);go_roundg (aC.length+1)
        case measure=>omega
        case rel=>exact .inl ⟨aC,rs++[rl],_,sg1,sl1,rfl,by simp;omega,Je,h3.other _ _ (by omega) lM,dG.set 1 _,kB3.other (by omega) _,bg,lM,L3,jH.kept (ug YR 9) G3 (gK w3 (w.heap.size+1+1) 1 _) (fun k hk=>by cases hk;omega),M3.new (by omega) _ _,X1,UI⟩
      ·have hlt':decide ((Lx.pl oH:Int)<(s.size:Int))=false:=decide_eq_false (by omega)
       have hlt2:decide (Lx.pl oH<s.size)=false:=decide_eq_false hlt;have HP:Hid (jR s=.ok (⟨acc,rs⟩,oH)):=by show _=_;rw[Gg.out];exact hrc.out.done hne ha ((Z9 hr2).2 hlt)
       clear ha;have jN:=jB;have BF:=jG;have e0:wr.cell? ⟨w.heap.size,0,none⟩=some (.slice none 0 0):=jN.cell 0;have e1:wr.cell? ⟨w.heap.size,1,none⟩=some (.slice none 0 0):=jN.cell 1;have d0:wr.cell? ⟨w.heap.size+1+1,0,none⟩=some (.slice va acc.length vc):=BF.cell 0;have d1:wr.cell? ⟨w.heap.size+1+1,1,none⟩=some (.slice ra rs.length rc):=BF.cell 1;have ff:∀ i,wr.frozen? ⟨w.heap.size,i,none⟩=false:=jN.frozen;go_wp2_with fail;refine bodyPost_ret (v:=.tuple #[.agg #[(.slice va acc.length vc),(.slice ra rs.length rc)],.pointer (some ⟨w.heap.size+1,0,none⟩)]) (by simp[results,results36,go_sem,e0,e1]) rfl ?_;refine bM.yes HP.out ((M.new (lr0) _ _).new (lr0) _ _) X ((hr2.other _ _ (by omega) fB).other _ _ (by omega) fB) ⟨_,_,rfl,?_,?_⟩
       ·refine Seq.move (jH.seq kI ⟨ps,F,hlv⟩) (fun b hb=>?_) (fun b hb=>⟨by have:=hb.1;omega,by simpa [World.setCell]using hb.2.1,hb.2.2⟩) (fun v x hk=>kI _ _ _ _ v x (fun b hb=>?_) (fun b hb=>⟨by have:=hb.1;omega,by simpa [World.setCell]using hb.2.1,hb.2.2⟩) hk)
        all_goals
         have hbb:b≠w.heap.size:=by have:=hb.1;omega
         rw[hs0 hbb,hs0 hbb]
       ·refine Seq.move (jH.seq (ug YR 9) ⟨pr,Fr,hrr⟩) (fun b hb=>?_) (fun b hb=>⟨by have:=hb.1;omega,by simpa [World.setCell]using hb.2.1,hb.2.2⟩) (fun v x hk=>ug YR 9 _ _ _ _ v x (fun b hb=>?_) (fun b hb=>⟨by have:=hb.1;omega,by simpa [World.setCell]using hb.2.1,hb.2.2⟩) hk)
        all_goals
         have hbb:b≠w.heap.size:=by have:=hb.1;omega
         rw[hs0 hbb,hs0 hbb]
    ·have h0:((n:Int) == 0)=false:=beq_eq_false_iff_ne.2 (by have:=hx.pos;omega)
     obtain⟨ii,WW,rZ⟩:=hx.blk;have c4:wr.cell? ⟨w.heap.size+1,4,none⟩=some (.int .i64 (n:Int)):=rZ.cell 4;have e0:wr.cell? ⟨w.heap.size,0,none⟩=some (.slice none 0 0):=jN.cell 0;have e1:wr.cell? ⟨w.heap.size,1,none⟩=some (.slice none 0 0):=jN.cell 1;have d0:wr.cell? ⟨w.heap.size+1+1,0,none⟩=some (.slice xa xk xc):=BF.cell 0;have d1:wr.cell? ⟨w.heap.size+1+1,1,none⟩=some (.slice tY tZ uf):=BF.cell 1;have ff:∀ i,wr.frozen? ⟨w.heap.size,i,none⟩=false:=jN.frozen;go_wp2_with fail;refine bodyPost_ret (v:=.tuple #[.agg #[(.slice xa xk xc),(.slice tY tZ uf)],.pointer (some ⟨w.heap.size+1,0,none⟩)]) (by simp[results,results36,go_sem,e0,e1]) rfl ?_;exact bM.no HE.out ((M.new (lr0) _ _).new (lr0) _ _) X ((hx.other _ _ (by omega) fB).other _ _ (by omega) fB) ⟨_,_,_,_,_,_,rfl⟩
  ·have h0:((n:Int) == 0)=false:=beq_eq_false_iff_ne.2 (by have:=hx.pos;omega)
   obtain⟨ii,WW,rZ⟩:=hx.blk;have c4:wz.cell? ⟨w.heap.size+1,4,none⟩=some (.int .i64 (n:Int)):=rZ.cell 4;go_wp2_with fail
   go_loopg [] 0 (fun k wr=>∃ (n a:Nat) (xa:Option Addr) (xk xc:Nat) (tY:Option Addr) (tZ uf:Nat) (bI:Value) (gI:List ByteArray),k=0/\RX s (w.heap.size+1) wr 0 n a bI gI/\aj wr (w.heap.size+1+1) #[.slice xa xk xc,.slice tY tZ uf] 49/\aj wr w.heap.size #[.slice none 0 0,.slice none 0 0] 49/\bI.ownBlock≠some w.heap.size/\Mv (w.heap.size+1) (.slice none 0 0) w wr/\Nx (.slice none 0 0) w bI/\Hid (jR s=.error (n,a)))
   case atStart=>exact⟨n,a,_,_,_,_,_,_,bI,gI,rfl,hx,kG,kB,fB,M,X,HE⟩
   case round =>
    clear M X kG kB fB c4 hx HE rZ h0;obtain⟨n,a,xa,xk,xc,tY,tZ,uf,bI,gI,hk,hx,BF,jN,fB,M,X,HE⟩:=hrel;have h0:((n:Int) == 0)=false:=beq_eq_false_iff_ne.2 (by have:=hx.pos;omega);obtain⟨ii,WW,rZ⟩:=hx.blk;have c4:wr.cell? ⟨w.heap.size+1,4,none⟩=some (.int .i64 (n:Int)):=rZ.cell 4;have e0:wr.cell? ⟨w.heap.size,0,none⟩=some (.slice none 0 0):=jN.cell 0;have e1:wr.cell? ⟨w.heap.size,1,none⟩=some (.slice none 0 0):=jN.cell 1;have d0:wr.cell? ⟨w.heap.size+1+1,0,none⟩=some (.slice xa xk xc):=BF.cell 0;have d1:wr.cell? ⟨w.heap.size+1+1,1,none⟩=some (.slice tY tZ uf):=BF.cell 1;have ff:∀ i,wr.frozen? ⟨w.heap.size,i,none⟩=false:=jN.frozen;go_wp2_with fail;refine bodyPost_ret (v:=.tuple #[.agg #[(.slice xa xk xc),(.slice tY tZ uf)],.pointer (some ⟨w.heap.size+1,0,none⟩)]) (by simp[results,results36,go_sem,e0,e1]) rfl ?_;exact bM.no HE.out ((M.new (lr0) _ _).new (lr0) _ _) X ((hx.other _ _ (by omega) fB).other _ _ (by omega) fB) ⟨_,_,_,_,_,_,rfl⟩
end
section
open Go.RowKit
open Lx (Tk)
open Tr
theorem ahK (s:ByteArray) (w:World) :
  Calls prog 36 #[.string s] w (bM s (w.heap.size+1) 0 (QM w.heap.size (w.heap.size+1)) (QW (w.heap.size+1)) w (.slice none 0 0) (jR s)):=by
 by_cases h:2000<s.size
 ·exact agF s w h
 ·exact afU s w h
def agG (s:ByteArray)(w:World)(e:Ending)(w':World):Prop :=
 ∃ vL vR aJ,∃ n a:Nat,e=.returned (.tuple #[.agg #[vL,vR],.int .i64 (n:Int),.int .i64 (a:Int)])/\Mv (w.heap.size+1+1) (.slice none 0 0) w w' /\
  match jR s with
  | .ok (g,_)=>n=0/\a=0/\QB w.heap.size aJ w' vL vR g
  | .error (m,b)=>n=m/\a=b/\vL=.slice none 0 0/\vR=.slice none 0 0
theorem KH (s:ByteArray)(w:World):Calls prog 17 #[.string s] w (agG s w):=by
 have hu:(w.alloc (.cells #[.slice none 0 0,.slice none 0 0] 49)).heap.size=w.heap.size+1:=by simp
 have R:=ahK s (w.alloc (.cells #[.slice none 0 0,.slice none 0 0] 49));rw[hu]at R;have kB:=aj.new w #[.slice none 0 0,.slice none 0 0] 49;have M0:=(Mv.refl (w.heap.size+1+1) (.slice none 0 0) w).alloc (.cells #[.slice none 0 0,.slice none 0 0] 49);go_enter func17,ntmps17;go_wp2_with fail;refine R.mono ?_;intro e w1 he;cases hr:jR s with
 | error x =>
  obtain⟨n,a⟩:=x;obtain⟨v1,sg1,sl1,rfl,m1,x1,hx1,xa,xk,xc,tY,tZ,uf,rfl⟩:=he.err hr;have HR:Hid (jR s=.error (n,a)):=hr;clear hr he R;have kB1:=kB.mv m1 (by omega) (by simp[Value.ownBlock]);have M1:=M0.trans (Nx.refl _ _) m1;obtain⟨ii,WW,rZ⟩:=hx1.blk;have lq:=rZ.lt;have lB:=kB1.lt;have c4:w1.cell? ⟨w.heap.size+1+1,4,none⟩=some (.int .i64 (n:Int)):=rZ.cell 4;have c5:w1.cell? ⟨w.heap.size+1+1,5,none⟩=some (.int .i64 (a:Int)):=rZ.cell 5;have h0:((n:Int) == 0)=false:=beq_eq_false_iff_ne.2 (by have:=hx1.pos;omega);have e0:w1.cell? ⟨w.heap.size,0,none⟩=some (.slice none 0 0):=kB1.cell 0;have e1:w1.cell? ⟨w.heap.size,1,none⟩=some (.slice none 0 0):=kB1.cell 1;have ff:∀ i,w1.frozen? ⟨w.heap.size,i,none⟩=false:=kB1.frozen;have jN:=((kB1.set 0 (.slice none 0 0)).set 1 (.slice none 0 0)).alloc (.cells #[.slice xa xk xc,.slice tY tZ uf] 49);have y0:(((w1.setCell ⟨w.heap.size,0,none⟩ (.slice none 0 0)).setCell ⟨w.heap.size,1,none⟩ (.slice none 0 0)).alloc (.cells #[.slice xa xk xc,.slice tY tZ uf] 49)).cell? ⟨w.heap.size,0,none⟩=some (.slice none 0 0):=jN.cell 0;have y1:(((w1.setCell ⟨w.heap.size,0,none⟩ (.slice none 0 0)).setCell ⟨w.heap.size,1,none⟩ (.slice none 0 0)).alloc (.cells #[.slice xa xk xc,.slice tY tZ uf] 49)).cell? ⟨w.heap.size,1,none⟩=some (.slice none 0 0):=jN.cell 1;go_wp2_with fail
  go_region
  all_goals
   go_wp2_with fail;refine bodyPost_ret (v:=.tuple #[.agg #[.slice none 0 0,.slice none 0 0],.int .i64 (n:Int),.int .i64 (a:Int)]) (by simp[results,results17,go_sem,y0,y1]) rfl ?_;refine⟨_,_,sg1,n,a,rfl,?_,?_⟩
   ·first
     | exact (((M1.new (lr0) _ _).new (lr0) _ _).alloc _).drew
     | exact (((M1.alloc _).new (lr0) _ _).new (lr0) _ _).drew
     | exact (((M1.alloc _).drew).new (lr0) _ _).new (lr0) _ _
     | exact (((M1.new (lr0) _ _).new (lr0) _ _).drew).alloc _
   ·rw[HR.out];exact⟨rfl,rfl,rfl,rfl⟩
 | ok x =>
  obtain⟨g,ts'⟩:=x;obtain⟨v1,sg1,sl1,rfl,m1,x1,hr1,vL,vR,rfl,hg⟩:=he.ok hr;have HR:Hid (jR s=.ok (g,ts')):=hr;clear hr he R;obtain⟨la,lk,lc,rfl⟩:=Seq.form hg.1;obtain⟨ra,rk,rc,rfl⟩:=Seq.form hg.2;have kB1:=kB.mv m1 (by omega) (by simp[Value.ownBlock]);have M1:=M0.trans (Nx.refl _ _) m1;have c4:w1.cell? ⟨w.heap.size+1+1,4,none⟩=some (.int .i64 0):=hr1.blk.cell 4;have lq:=hr1.lt;have e0:w1.cell? ⟨w.heap.size,0,none⟩=some (.slice none 0 0):=kB1.cell 0;have e1:w1.cell? ⟨w.heap.size,1,none⟩=some (.slice none 0 0):=kB1.cell 1;have ff:∀ i,w1.frozen? ⟨w.heap.size,i,none⟩=false:=kB1.frozen;have lB:w.heap.size<w1.heap.size:=by have:=m1.size;rw[hu]at this;omega
  have jN:=((kB1.set 0 (.slice la lk lc)).set 1 (.slice ra rk rc)).alloc (.cells #[.slice la lk lc,.slice ra rk rc] 49);have z0:(((w1.setCell ⟨w.heap.size,0,none⟩ (.slice la lk lc)).setCell ⟨w.heap.size,1,none⟩ (.slice ra rk rc)).alloc (.cells #[.slice la lk lc,.slice ra rk rc] 49)).cell? ⟨w.heap.size,0,none⟩=some (.slice la lk lc):=jN.cell 0;have z1:(((w1.setCell ⟨w.heap.size,0,none⟩ (.slice la lk lc)).setCell ⟨w.heap.size,1,none⟩ (.slice ra rk rc)).alloc (.cells #[.slice la lk lc,.slice ra rk rc] 49)).cell? ⟨w.heap.size,1,none⟩=some (.slice ra rk rc):=jN.cell 1;go_wp2_with fail;refine bodyPost_ret (v:=.tuple #[.agg #[.slice la lk lc,.slice ra rk rc],.int .i64 0,.int .i64 0]) (by simp[results,results17,go_sem,z0,z1]) rfl ?_;refine⟨_,_,sg1,0,0,rfl,((M1.new (lr0) _ _).new (lr0) _ _).alloc _,?_⟩;rw[HR.out];refine⟨rfl,rfl,?_,?_⟩
  ·refine Seq.move hg.1 (fun b hb=>?_) (fun b hb=>⟨by have:=hb.1;omega,by have:=hb.2.1;simp[World.setCell];omega,hb.2.2⟩) (fun v x hk=>kI _ _ _ _ v x (fun b hb=>?_) (fun b hb=>⟨by have:=hb.1;omega,by have:=hb.2.1;simp[World.setCell];omega,hb.2.2⟩) hk)
   all_goals
    have hbb:b≠w.heap.size:=by have:=hb.1;omega
    rw[Below.heap_alloc _ _ _ (by have:=hb.2.1;simpa [World.setCell]using this),hs0 hbb,hs0 hbb]
  ·refine Seq.move hg.2 (fun b hb=>?_) (fun b hb=>⟨by have:=hb.1;omega,by have:=hb.2.1;simp[World.setCell];omega,hb.2.2⟩) (fun v x hk=>ug YR 9 _ _ _ _ v x (fun b hb=>?_) (fun b hb=>⟨by have:=hb.1;omega,by have:=hb.2.1;simp[World.setCell];omega,hb.2.2⟩) hk)
   all_goals
    have hbb:b≠w.heap.size:=by have:=hb.1;omega
    rw[Below.heap_alloc _ _ _ (by have:=hb.2.1;simpa [World.setCell]using this),hs0 hbb,hs0 hbb]
end
theorem Qh {s:ByteArray}{g:Lx.Gr}{ts:List Lx.Tk}(h:jR s=.ok (g,ts)):Lx.parse s=.ok g:=by
 unfold jR at h;unfold Lx.parse
 split at h
 ·cases h
 ·rename_i h1
  rw[if_neg h1,h]
theorem PG {s:ByteArray}{e:Nat × Nat}(h:jR s=.error e):Lx.parse s=.error e:=by
 unfold jR at h;unfold Lx.parse
 split at h
 ·rename_i h1;rw[if_pos h1];cases h;rfl
 ·rename_i h1
  rw[if_neg h1,h]
def ahL (s:ByteArray)(w:World)(e:Ending)(w':World):Prop :=
 ∃ v,∃ n a:Nat,e=.returned (.tuple #[v,.int .i64 (n:Int),.int .i64 (a:Int)])/\Below w.heap.size w w'/\(∀ g,dw s=.ok g->n=0/\a=0/\aaR w' v (aA g) (aN g) (aU g) ((aA g).map fun t=>(dP g t).1) ((aA g).map fun t=>(dP g t).2))/\(∀ x,dw s=.error x->n=x.1/\a=x.2/\v=.agg #[.slice none 0 0,.slice none 0 0,.slice none 0 0,.slice none 0 0,.slice none 0 0])
def ajJ (s:ByteArray)(w:World)(e:Ending)(w':World):Prop :=
 ∃ v,∃ n a:Nat,e=.returned (.tuple #[v,.int .i64 (n:Int),.int .i64 (a:Int)])/\Below w.heap.size w w'/\(∀ g,dw s=.ok g->n=0/\a=0/\LZ w.heap.size w' v (aA g) (aN g) (aU g) ((aA g).map fun t=>(dP g t).1) ((aA g).map fun t=>(dP g t).2))/\(∀ x,dw s=.error x->n=x.1/\a=x.2/\v=.agg #[.slice none 0 0,.slice none 0 0,.slice none 0 0,.slice none 0 0,.slice none 0 0])
theorem _root_.Go.RowKit.Below.II {B:Nat}{a w:World}(h:Below B a w){r:Nat}(hr:B<=r)(x0 x1 x2 x3 x4:Value):Below B a (((((w.setCell ⟨r,0,none⟩ x0).setCell ⟨r,1,none⟩ x1).setCell ⟨r,2,none⟩ x2).setCell ⟨r,3,none⟩ x3).setCell ⟨r,4,none⟩ x4) :=
 ((((h.setCell (p:=⟨r,0,none⟩) hr x0).setCell (p:=⟨r,1,none⟩) hr x1).setCell (p:=⟨r,2,none⟩) hr x2).setCell (p:=⟨r,3,none⟩) hr x3).setCell (p:=⟨r,4,none⟩) hr x4
theorem Ey (w:World)(r:Nat)(x0 x1 x2 x3 x4:Value)(o:Obj)(g:Nat)(hl:g<w.heap.size)(hn:g≠r):((((((w.setCell ⟨r,0,none⟩ x0).setCell ⟨r,1,none⟩ x1).setCell ⟨r,2,none⟩ x2).setCell ⟨r,3,none⟩ x3).setCell ⟨r,4,none⟩ x4).alloc o).heap[g]?=w.heap[g]?:=by
 rw[Below.heap_alloc _ _ _ (by simp[World.setCell];exact hl),hs0 hn,hs0 hn,hs0 hn,hs0 hn,hs0 hn]
theorem Qi {q:Nat}{w w':World}(h:Mv q (.slice none 0 0) w w')(hq:w.heap.size<=q):Below w.heap.size w w':=⟨h.os,h.tape,h.output,h.size,fun k hk=>h.block k hk (by omega) (by simp[Value.ownBlock])⟩
theorem DG.fit {F:Nat->Prop}{w:World}{vL vR:Value}{g:Lx.Gr}(h:DG F w vL vR g){s:ByteArray}(hp:Lx.parse s=.ok g)(hc:(dF g).1=0):Lx.Fit g:=by
 obtain⟨h1,h2,h3⟩:=Ca hp;obtain⟨h4,h5⟩:=Ku hp;have h6:=P7 hc;refine⟨h1,h2,h3,fun r hr=>?_,h4,h5,h6.2,h6.1⟩;obtain⟨i,hi,rfl⟩:=List.mem_iff_getElem.1 hr;obtain⟨_,_,_,-,-,hA,-⟩:=h.rule hi;exact Pk hA
theorem afV (s:ByteArray)(w:World):Calls prog 10 #[.string s] w (ajJ s w):=by
 go_enter func10,ntmps10;go_wp2_with fail;obtain⟨W,hW⟩:∃ W,W=w.alloc (.cells #[.slice none 0 0,.slice none 0 0,.slice none 0 0,.slice none 0 0,.slice none 0 0] 32):=⟨_,rfl⟩;rw[<-hW];have kR:aj W w.heap.size #[.slice none 0 0,.slice none 0 0,.slice none 0 0,.slice none 0 0,.slice none 0 0] 32:=by rw[hW];exact aj.new w _ 32
 have hB:Below w.heap.size w W:=by rw[hW];exact (Below.refl _ _).alloc (lr0) _
 have hWs:W.heap.size=w.heap.size+1:=by rw[hW];simp
 clear hW;refine (KH s W).mono ?_;intro e w1 he;obtain⟨vL,vR,aJ,n,a,rfl,BG,hm⟩:=he;have hb1:=Qi BG (by omega);clear BG;have hs1:=hb1.size;have dV:Below w.heap.size w w1:=hB.trans (hb1.mono (by omega));have oo:aj w1 w.heap.size _ 32:=(hb1.block _ (by omega)).trans kR;cases hr:jR s with
 | error x =>
  rw[hr]at hm;obtain⟨m,b⟩:=x;obtain⟨rfl,rfl,rfl,rfl⟩:=hm;have hpe:=PG hr;have hpos:=Pb hpe;have HE:Hid (dw s=.error (n,a)):=LA hpe;have hnb:((n:Int) == 0)=false:=bq0 (by omega);have hnn:((n:Int) != 0)=true:=bne_iff_ne.2 (by omega);have hnd:¬ (n:Int)=0:=by omega
  have r0:w1.cell? ⟨w.heap.size,0,none⟩=some (.slice none 0 0):=oo.cell 0;have r1:w1.cell? ⟨w.heap.size,1,none⟩=some (.slice none 0 0):=oo.cell 1;have r2:w1.cell? ⟨w.heap.size,2,none⟩=some (.slice none 0 0):=oo.cell 2;have r3:w1.cell? ⟨w.heap.size,3,none⟩=some (.slice none 0 0):=oo.cell 3;have r4:w1.cell? ⟨w.heap.size,4,none⟩=some (.slice none 0 0):=oo.cell 4;have rf:∀ i,w1.frozen? ⟨w.heap.size,i,none⟩=false:=oo.frozen;have lr:w.heap.size<w1.heap.size:=oo.lt;clear hr hpe hpos;go_wp2_with fail;have kF:=((((((oo.set 0 (.slice none 0 0)).set 1 (.slice none 0 0)).set 2 (.slice none 0 0)).set 3 (.slice none 0 0)).set 4 (.slice none 0 0)).alloc (.cells #[.slice none 0 0,.slice none 0 0] 49));have s0:=kF.cell 0;have s1:=kF.cell 1;have s2:=kF.cell 2;have s3:=kF.cell 3;have s4:=kF.cell 4;simp at s0 s1 s2 s3 s4;refine bodyPost_ret (v:=.tuple #[.agg #[.slice none 0 0,.slice none 0 0,.slice none 0 0,.slice none 0 0,.slice none 0 0],.int .i64 (n:Int),.int .i64 (a:Int)]) (by simp[results,results10,go_sem,s0,s1,s2,s3,s4]) rfl ⟨_,n,a,rfl,?_,?_,?_⟩
  ·exact ((dV.II (lr0) _ _ _ _ _)).alloc (by simp;omega) _
  ·intro g hg;rw[HE.out]at hg;cases hg
  ·intro x hx;rw[HE.out]at hx;cases hx;exact⟨rfl,rfl,rfl⟩
 | ok x =>
  obtain⟨g,ts⟩:=x;rw[hr]at hm;obtain⟨rfl,rfl,hgi⟩:=hm;have hpe:=Qh hr;have hd1:DG (Fp W.heap.size aJ w1) w1 vL vR g:=⟨fun b hb=>hb.2.1,hgi.1,hgi.2⟩;clear hr hgi;obtain⟨la,lc,qD,-⟩:=hd1.qm;obtain⟨ra,rc,pR,-⟩:=hd1.o9;subst qD pR;have hsz:=(Ku hpe).1;have hne:=(Ca hpe).2.2;have hlw:=afO g;have hrl:g.rules.length<=uz g.rules:=Ag (fun r:Lx.Rl=>1+iP 9 r.alts) fun _ _=>by omega
  generalize Fp W.heap.size aJ w1=F at hd1;have ha1:Below w1.heap.size w1 (w1.alloc (.cells #[.slice la g.levels.length lc,.slice ra g.rules.length rc] 49)):=(Below.refl _ _).alloc (lr0) _;have hq:=afk (hd1.below ha1) (by omega) (by omega) hne;go_wp2_with fail;refine hq.mono ?_;rintro e w2 ⟨rfl,hb2⟩;have xL:aj w2 w1.heap.size #[.slice la g.levels.length lc,.slice ra g.rules.length rc] 49:=(hb2.block _ (by simp)).trans (aj.new w1 _ 49);have qA:Below w1.heap.size w1 w2:=ha1.trans (hb2.mono (by simp));have hs2:=qA.size;have hd2:=hd1.below qA;have hbw2:Below w.heap.size w w2:=dV.trans (qA.mono (by omega));have mW:aj w2 w.heap.size _ 32:=(qA.block _ (by omega)).trans oo;clear hq ha1 hd1;unfold JZ
  by_cases hc:(dF g).1=0
  ·have hf:=hd2.fit hpe hc
   have hcb:(((dF g).1:Int) == 0)=true:=by simp[hc]
   have hcn:(((dF g).1:Int) != 0)=false:=by simp[hc]
   have HC:Hid ((dF g).1=0):=hc;clear hc;generalize hce:dF g=cr at hcb hcn;clear hce;have ha2:Below w2.heap.size w2 (w2.alloc (.cells #[.int .i64 (cr.1:Int),.int .i64 (cr.2:Int)] 74)):=(Below.refl _ _).alloc (lr0) _;have hq:=ahJ (hd2.below ha2) hf;have c20:w2.cell? ⟨w1.heap.size,0,none⟩=some (.slice la g.levels.length lc):=xL.cell 0;have c21:w2.cell? ⟨w1.heap.size,1,none⟩=some (.slice ra g.rules.length rc):=xL.cell 1;have lg2:w1.heap.size<w2.heap.size:=xL.lt;go_wp2_with fail;refine hq.mono ?_;rintro e w3 ⟨v,rfl,hpl,hb3⟩;have yZ:Below w2.heap.size w2 w3:=ha2.trans (hb3.mono (by simp));have hs3:=yZ.size;have tq:Below w.heap.size w w3:=hbw2.trans (yZ.mono (by omega));have iK:aj w3 w.heap.size _ 32:=(yZ.block _ (by omega)).trans mW;obtain⟨vT,vN,vP,vB,vK,rfl,z2,z3,z4,z5,z6,z7,z8⟩:=hpl;have hbs:w.heap.size<=(w2.alloc (.cells #[.int .i64 (cr.1:Int),.int .i64 (cr.2:Int)] 74)).heap.size:=by simp;omega
   obtain⟨ps,p1,p2,p3⟩:=z4;obtain⟨yh,xc0,hx0,-⟩:=aI z2;obtain⟨xa1,yj,hx1,-⟩:=aI z3;obtain⟨yt,yu,hx2,hm2⟩:=aI p2;obtain⟨yw,yx,hx3,-⟩:=aI z5;obtain⟨yA,yB,hx4,-⟩:=aI z6;subst hx0 hx1 hx2 hx3 hx4;unfold maxLen at hm2;have r0:w3.cell? ⟨w.heap.size,0,none⟩=some (.slice none 0 0):=iK.cell 0;have r1:w3.cell? ⟨w.heap.size,1,none⟩=some (.slice none 0 0):=iK.cell 1;have r2:w3.cell? ⟨w.heap.size,2,none⟩=some (.slice none 0 0):=iK.cell 2;have r3:w3.cell? ⟨w.heap.size,3,none⟩=some (.slice none 0 0):=iK.cell 3;have r4:w3.cell? ⟨w.heap.size,4,none⟩=some (.slice none 0 0):=iK.cell 4;have rf:∀ i,w3.frozen? ⟨w.heap.size,i,none⟩=false:=iK.frozen;have lr:w.heap.size<w3.heap.size:=iK.lt;have nR:∀ {e s:Nat} {v:Value} {n:Nat} {xs:List Value},w3.ownsRow 0 e s v n xs->e≠32->∀ g,v.ownBlock=some g->g≠w.heap.size:=by
    intro e s v n xs ho he g hg eg;rcases ho.2 with ⟨rfl,-⟩ | ⟨g',cap,cur,rfl,-,hh,-⟩
    ·cases hg
    ·have e1:g'=g:=Option.some.inj hg
     have JM:w3.heap[w.heap.size]?=some (.cells cur e (0,0)):=by rw[<-eg,<-e1];exact hh
     have sD:=iK;unfold aj at sD;rw[JM]at sD;have e2:=Option.some.inj sD;injection e2 with _ e3
     exact he e3
   by_cases Cq:200<(aU g).length
   ·have HE:Hid (dw s=.error (8,0)):=Lc hpe HC.out Cq
    go_wp2_with fail;have kF:=((((((iK.set 0 (.slice none 0 0)).set 1 (.slice none 0 0)).set 2 (.slice none 0 0)).set 3 (.slice none 0 0)).set 4 (.slice none 0 0)).alloc (.cells #[.slice yh (aA g).length xc0,.slice xa1 (aN g).length yj,.slice yt (aU g).length yu,.slice yw ((aA g).map fun t=>(dP g t).1).length yx,.slice yA ((aA g).map fun t=>(dP g t).2).length yB] 32));have s0:=kF.cell 0;have s1:=kF.cell 1;have s2:=kF.cell 2;have s3:=kF.cell 3;have s4:=kF.cell 4;simp at s0 s1 s2 s3 s4;refine bodyPost_ret (v:=.tuple #[.agg #[.slice none 0 0,.slice none 0 0,.slice none 0 0,.slice none 0 0,.slice none 0 0],.int .i64 8,.int .i64 0]) (by simp[results,results10,go_sem,s0,s1,s2,s3,s4]) rfl ⟨_,8,0,rfl,?_,?_,?_⟩
    ·exact ((tq.II (lr0) _ _ _ _ _)).alloc (by simp;omega) _
    ·intro g hg;rw[HE.out]at hg;cases hg
    ·intro x hx;rw[HE.out]at hx;cases hx;exact⟨rfl,rfl,rfl⟩
   ·have HE:Hid (dw s=.ok g):=LQ hpe HC.out Cq
    go_wp2_with fail;have kF:=((((((iK.set 0 (.slice yh (aA g).length xc0)).set 1 (.slice xa1 (aN g).length yj)).set 2 (.slice yt (aU g).length yu)).set 3 (.slice yw ((aA g).map fun t=>(dP g t).1).length yx)).set 4 (.slice yA ((aA g).map fun t=>(dP g t).2).length yB)).alloc (.cells #[.slice yh (aA g).length xc0,.slice xa1 (aN g).length yj,.slice yt (aU g).length yu,.slice yw ((aA g).map fun t=>(dP g t).1).length yx,.slice yA ((aA g).map fun t=>(dP g t).2).length yB] 32));have s0:=kF.cell 0;have s1:=kF.cell 1;have s2:=kF.cell 2;have s3:=kF.cell 3;have s4:=kF.cell 4;simp at s0 s1 s2 s3 s4;refine bodyPost_ret (v:=.tuple #[.agg #[.slice yh (aA g).length xc0,.slice xa1 (aN g).length yj,.slice yt (aU g).length yu,.slice yw ((aA g).map fun t=>(dP g t).1).length yx,.slice yA ((aA g).map fun t=>(dP g t).2).length yB],.int .i64 0,.int .i64 0]) (by simp[results,results10,go_sem,s0,s1,s2,s3,s4]) rfl ⟨_,0,0,rfl,?_,?_,?_⟩
    ·exact ((tq.II (lr0) _ _ _ _ _)).alloc (by simp;omega) _
    ·intro g' hg
     rw[HE.out]at hg;cases hg;exact⟨rfl,rfl,_,_,_,_,_,rfl,aD z2 fun g hg=>Ey w3 w.heap.size _ _ _ _ _ _ g (z2.lt g hg).2 (nR z2 (by decide) g hg),aD z3 fun g hg=>Ey w3 w.heap.size _ _ _ _ _ _ g (z3.lt g hg).2 (nR z3 (by decide) g hg),⟨ps,p1,aD p2 fun g hg=>Ey w3 w.heap.size _ _ _ _ _ _ g (p2.lt g hg).2 (nR p2 (by decide) g hg),fun q hq=>⟨aD (p3 q hq).1 fun g hg=>Ey w3 w.heap.size _ _ _ _ _ _ g ((p3 q hq).1.lt g hg).2 (nR (p3 q hq).1 (by decide) g hg),fun g hg=>Nat.le_trans hbs ((p3 q hq).2 g hg)⟩⟩,aD z5 fun g hg=>Ey w3 w.heap.size _ _ _ _ _ _ g (z5.lt g hg).2 (nR z5 (by decide) g hg),aD z6 fun g hg=>Ey w3 w.heap.size _ _ _ _ _ _ g (z6.lt g hg).2 (nR z6 (by decide) g hg),fun g hg=>Nat.le_trans hbs (z7 g hg),fun g hg=>Nat.le_trans hbs (z8 g hg)⟩
    ·intro x hx;rw[HE.out]at hx;cases hx
  ·have HE:Hid (dw s=.error (dF g)):=LB hpe hc
   have hcb:(((dF g).1:Int) == 0)=false:=bq0 (by omega);have hcn:(((dF g).1:Int) != 0)=true:=bne_iff_ne.2 (by omega);have hcd:¬ ((dF g).1:Int)=0:=by omega
   clear hc;generalize dF g=cr at HE hcb hcn hcd;have r0:w2.cell? ⟨w.heap.size,0,none⟩=some (.slice none 0 0):=mW.cell 0;have r1:w2.cell? ⟨w.heap.size,1,none⟩=some (.slice none 0 0):=mW.cell 1;have r2:w2.cell? ⟨w.heap.size,2,none⟩=some (.slice none 0 0):=mW.cell 2;have r3:w2.cell? ⟨w.heap.size,3,none⟩=some (.slice none 0 0):=mW.cell 3;have r4:w2.cell? ⟨w.heap.size,4,none⟩=some (.slice none 0 0):=mW.cell 4;have rf:∀ i,w2.frozen? ⟨w.heap.size,i,none⟩=false:=mW.frozen;have lr:w.heap.size<w2.heap.size:=mW.lt;go_wp2_with fail
   go_region
   all_goals
    have kF:=((((((mW.set 0 (.slice none 0 0)).set 1 (.slice none 0 0)).set 2 (.slice none 0 0)).set 3 (.slice none 0 0)).set 4 (.slice none 0 0)).alloc (.cells #[.int .i64 (cr.1:Int),.int .i64 (cr.2:Int)] 74)).drew;have s0:=kF.cell 0;have s1:=kF.cell 1;have s2:=kF.cell 2;have s3:=kF.cell 3;have s4:=kF.cell 4;simp at s0 s1 s2 s3 s4;go_wp2_with fail;refine bodyPost_ret (v:=.tuple #[.agg #[.slice none 0 0,.slice none 0 0,.slice none 0 0,.slice none 0 0,.slice none 0 0],.int .i64 (cr.1:Int),.int .i64 (cr.2:Int)]) (by simp[results,results10,go_sem,s0,s1,s2,s3,s4]) rfl ⟨_,cr.1,cr.2,rfl,?_,?_,?_⟩
    ·exact (((hbw2.II (lr0) _ _ _ _ _)).alloc (by simp;omega) _).drew
    ·intro g hg;rw[HE.out]at hg;cases hg
    ·intro x hx;rw[HE.out]at hx;cases hx;exact⟨rfl,rfl,rfl⟩
theorem Wh (s:ByteArray)(w:World):Calls prog 10 #[.string s] w (ahL s w):=by
 refine (afV s w).mono ?_;rintro e w' ⟨v,n,a,h1,h2,h3,h4⟩;exact⟨v,n,a,h1,h2,fun g hg=>⟨(h3 g hg).1,(h3 g hg).2.1,(h3 g hg).2.2.pl⟩,h4⟩
end Go.Proofs.YtlcppnabbicmoaaGreatDoor
