import Derived.Test.YtjaalkocdbkdeaaGreatDoorSA35
import Derived.Test.YtjaalkocdbkdeaaGreatDoorSA36
import Derived.Test.YtjaalkocdbkdeaaGreatDoorSA32
set_option maxHeartbeats 8000000
set_option maxRecDepth 1000000
namespace Go.Proofs.YtjaalkocdbkdeaaGreatDoor
open Lx Go.Proofs.Tryz
open Go.RowKit Tr
section
open Go.RowKit
open Lx (Tk)
open Tr
theorem Tryz.aiS:(prog.info? 147).map (fun i=>(i.zero,i.size,i.bytes))=some (some (.agg #[.int .i64 0,.slice none 0 0,.slice none 0 0]),3,56):=by kernel_rfl
theorem Tryz.aiT:(prog.info? 139).map (fun i=>(i.zero,i.size,i.bytes))=some (some (.agg #[.string ⟨#[]⟩,.slice none 0 0,.int .i64 0]),3,48):=by kernel_rfl
theorem K5.Ti{lo:Nat}{w:World}{aG vT vA:Value}{lv:Lx.Lv}(h:K5 lo w aG vT vA lv.tokens):EN (Fp lo aG w) w (.agg #[vT,vA]) lv :=
 ⟨vT,vA,rfl,dm h.1 (Nat.zero_le _),dm h.2.1 (Nat.zero_le _),fun g hg=>⟨(h.1.lt g hg).1,(h.1.lt g hg).2,h.2.2.2.1 g hg⟩,fun g hg=>⟨(h.2.1.lt g hg).1,(h.2.1.lt g hg).2,h.2.2.2.2 g hg⟩⟩
def YA(lo:Nat)(aG:Value)(w:World)(vL vR:Value)(g:Lx.Gr):Prop :=
 Tr.Seq (Fp lo aG w) w 147 3 xB (EN (Fp lo aG w) w) vL g.levels/\Tr.Seq (Fp lo aG w) w 139 3 CJ (QY (Fp lo aG w) w) vR g.rules
theorem iV.apart{α:Type}{B:Nat}{aG:Value}{w w':World}{e s:Nat}{c:Value×α->List Value}{K:(Nat->Prop)->World->Value->α->Prop}{v:Value}{l:List α}{ps:List (Value×α)}{F:Nat->Prop}(hm:jF K)(h:iV B aG w e s c K v l ps F){r:Option Nat}(hg:w.grownBy w' r)(hr:∀k,r=some k->¬F k/\v.ownBlock≠some k):iV B aG w' e s c K v l ps F:=by
 obtain⟨⟨h1,h2,h3,h4,h5⟩,h6⟩:=h;have e1:∀b,F b->w'.heap[b]?=w.heap[b]?:=fun b hb=>hg.block b (h4 b hb).2 (fun e=>(hr b e.symm).1 hb)
 exact⟨⟨h1,aC h2 fun g hv=>hg.block g (h2.lt g hv).2 (fun e=>(hr g e.symm).2 hv),fun q hq=>hm F F w w' _ _ e1 (fun _ h=>h) (h3 q hq),fun b hb=>⟨(h4 b hb).1,Nat.lt_of_lt_of_le (h4 b hb).2 hg.size⟩,h5⟩,h6⟩
theorem ah5{s:ByteArray}{q:Nat}{w:World}{nest:Int}{au:Value}{sg:List ByteArray}{i:Nat}{W:ByteArray}(kq:aj w q (dJ s i W nest 0 0 au) 135)(ho:w.ownsRow 0 9 1 au sg.length (sg.map Value.string))(hne:au.ownBlock≠some q)(n a:Nat)(hn:0<n):
  Calls prog 95 #[.pointer (some ⟨q,0,none⟩),.int .i64 (n:Int),.int .i64 (a:Int)] w fun e w'=>e=.returned (.tuple #[])/\Mv q au w w'/\RX s q w' nest n a au sg:=by
 have c4:w.cell? ⟨q,4,none⟩=some (.int .i64 0):=kq.cell 4;have c5:w.cell? ⟨q,5,none⟩=some (.int .i64 0):=kq.cell 5;have fq:∀j,w.frozen? ⟨q,j,none⟩=false:=kq.frozen;go_enter func95,ntmps95
 go_wp2
 go_end0
 refine⟨rfl,((Mv.refl _ _ _).set 4 _).set 5 _,⟨⟨_,_,(kq.set 4 _).set 5 _⟩,?_,hne,hn⟩⟩;refine aC ho fun g hg=>?_
 have Aq:g≠q:=fun e=>hne (by rw[hg,e])
 rw[zS0 Aq,zS0 Aq]
def jZ(s:ByteArray):aX Lx.Gr:=if 2000<s.size then .error (1,0) else gQ (Lx.lex s)
def PE(lo q:Nat)(aG:Value)(w':World)(v:Value)(g:Lx.Gr):Prop:=∃vL vR,v=.tuple #[.agg #[vL,vR],.pointer (some ⟨q,0,none⟩)]/\YA lo aG w' vL vR g
def PS(q:Nat)(v:Value):Prop:=∃a k c a' k' c',v=.tuple #[.agg #[.slice a k c,.slice a' k' c'],.pointer (some ⟨q,0,none⟩)]
def RC(ts:List Tk)(lv:List Lx.Lv)(aB aA:List Tk)(acc:List Lx.Rl):Prop:=(acc=[]/\aA=aB/\gQ ts=yw lv aB)\/(acc≠[]/\∃f,aA.length<=f/\gQ ts=Gf lv (iC f aA acc))
theorem RC.err{ts aB aA:List Tk}{lv:List Lx.Lv}{acc:List Lx.Rl}{e:Nat×Nat}(h:RC ts lv aB aA acc)(hne:0<aA.length)(hs:acc=[]\/¬Lx.hd aA=aL)(he:dF aA=.error e):gQ ts=.error e:=by
 rcases h with ⟨rfl,rfl,h⟩|⟨h0,f,hf,h⟩
 ·rw[h];unfold yw;rw[he]
 ·obtain⟨f',rfl⟩:∃f',f=f'+1:=⟨f-1,by omega⟩
  rw[h,iC,if_neg (hs.resolve_left h0),he];rfl
theorem RC.ok{ts aB aA bL:List Tk}{lv:List Lx.Lv}{acc:List Lx.Rl}{x:Lx.Rl}(h:RC ts lv aB aA acc)(hl:bL.length+1<=aA.length)(hs:acc=[]\/¬Lx.hd aA=aL)(he:dF aA=.ok (x,bL)):RC ts lv aB bL (acc++[x]):=by
 refine .inr ⟨by simp,?_⟩;rcases h with ⟨rfl,rfl,h⟩|⟨h0,f,hf,h⟩
 ·exact⟨bL.length,zL0,by rw[h];unfold yw;rw[he];rfl⟩
 ·obtain⟨f',rfl⟩:∃f',f=f'+1:=⟨f-1,by omega⟩
  exact⟨f',by omega,by rw[h,iC,if_neg (hs.resolve_left h0),he]⟩
theorem RC.done{ts aB aA:List Tk}{lv:List Lx.Lv}{acc:List Lx.Rl}(h:RC ts lv aB aA acc)(hne:0<aA.length)(h0:acc≠[])(hs:Lx.hd aA=aL):gQ ts=.ok (⟨lv,acc⟩,aA):=by
 rcases h with ⟨h1,_⟩|⟨_,f,hf,h⟩
 ·exact absurd h1 h0
 ·obtain⟨f',rfl⟩:∃f',f=f'+1:=⟨f-1,by omega⟩
  rw[h,iC,if_pos hs];rfl
theorem ah6{s:ByteArray}{q:Nat}{w:World}(hs:s.size<=2000)(kq:aj w q (dJ s 0 ⟨#[]⟩ 0 0 0 (.slice none 0 0)) 135):
  Calls prog 96 #[.pointer (some ⟨q,0,none⟩)] w fun e w'=>e=.returned (.tuple #[])/\∃aG,Mv q (.slice none 0 0) w w'/\Nx (.slice none 0 0) w aG/\RR s q w' (Lx.lex s) 0 aG []:=by
 refine(ahh s q 0 (aV s 0 false) 0 0 0 (.slice none 0 0) 0 [] w hs (Nat.zero_le _) kq (World.ownsRow_nil _ _ _ _) (by simp[Value.ownBlock]) rfl).mono ?_;rintro e w'⟨rfl,aG,st,Rj⟩;have hb:=FY (s:=s) (i:=0) false (Nat.zero_le _);have hpl:Lx.pl (Lx.lex s)=aV s 0 false:=Ko hb.2;refine⟨rfl,aG,st.mv,st.nx,⟨?_,?_,st.ne,?_,by rw[hpl];exact hb.2,hs,by simp⟩⟩
 ·rw[hpl,show fw (Lx.hd (Lx.lex s))=je s (aV s 0 false) from (Vq hb.2).symm];exact Rj
 ·exact st.own
 ·rw[hpl];rfl
theorem afJ(s:ByteArray)(w:World)(h:2000<s.size):
  Calls prog 50 #[.string s] w (bO s (w.heap.size+1) 0 (PE w.heap.size (w.heap.size+1)) (PS (w.heap.size+1)) w (.slice none 0 0) (jZ s)):=by
 have HE:Hid (jZ s=.error (1,0)):=if_pos h;have hl:decide ((2000:Int)<(s.size:Int))=true:=decide_eq_true (by omega);have kB:=((aj.new w #[.slice none 0 0,.slice none 0 0] 86).alloc (.cells #[.string s,.int .i64 0,.string ⟨#[]⟩,.int .i64 0,.int .i64 0,.int .i64 0,.slice none 0 0] 135)).alloc (.cells #[.slice none 0 0,.slice none 0 0] 86);have kq:=(aj.new (w.alloc (.cells #[.slice none 0 0,.slice none 0 0] 86)) #[.string s,.int .i64 0,.string ⟨#[]⟩,.int .i64 0,.int .i64 0,.int .i64 0,.slice none 0 0] 135).alloc (.cells #[.slice none 0 0,.slice none 0 0] 86);have kG:=aj.new ((w.alloc (.cells #[.slice none 0 0,.slice none 0 0] 86)).alloc (.cells #[.string s,.int .i64 0,.string ⟨#[]⟩,.int .i64 0,.int .i64 0,.int .i64 0,.slice none 0 0] 135)) #[.slice none 0 0,.slice none 0 0] 86;rw[show (w.alloc (.cells #[.slice none 0 0,.slice none 0 0] 86)).heap.size=w.heap.size+1 by simp]at kq;rw[show ((w.alloc (.cells #[.slice none 0 0,.slice none 0 0] 86)).alloc (.cells #[.string s,.int .i64 0,.string ⟨#[]⟩,.int .i64 0,.int .i64 0,.int .i64 0,.slice none 0 0] 135)).heap.size=w.heap.size+2 by simp]at kG;have M0:=(((Mv.refl (w.heap.size+1) (.slice none 0 0) w).alloc (.cells #[.slice none 0 0,.slice none 0 0] 86)).alloc (.cells #[.string s,.int .i64 0,.string ⟨#[]⟩,.int .i64 0,.int .i64 0,.int .i64 0,.slice none 0 0] 135)).alloc (.cells #[.slice none 0 0,.slice none 0 0] 86);clear h;go_enter func50,ntmps50;go_wp2_with fail;refine(ah5 (sg:=[]) (W:=⟨#[]⟩) (i:=0) kq (World.ownsRow_nil _ _ _ _) (by simp[Value.ownBlock]) 1 0 (by decide)).mono ?_
 rintro e w1⟨rfl,m1,hx1⟩;have kB1:=kB.mv m1 (by omega) (by simp[Value.ownBlock]);have dZ:=kG.mv m1 (by omega) (by simp[Value.ownBlock]);have e0:w1.cell? ⟨w.heap.size,0,none⟩=some (.slice none 0 0):=kB1.cell 0;have e1:w1.cell? ⟨w.heap.size,1,none⟩=some (.slice none 0 0):=kB1.cell 1;have d0:w1.cell? ⟨w.heap.size+1+1,0,none⟩=some (.slice none 0 0):=dZ.cell 0;have d1:w1.cell? ⟨w.heap.size+1+1,1,none⟩=some (.slice none 0 0):=dZ.cell 1;have ff:∀i,w1.frozen? ⟨w.heap.size,i,none⟩=false:=kB1.frozen;have M1:=M0.trans (Nx.refl _ _) m1;go_wp2_with fail;refine bodyPost_ret (v:=.tuple #[.agg #[.slice none 0 0,.slice none 0 0],.pointer (some ⟨w.heap.size+1,0,none⟩)]) (by simp[results,results50,go_sem,e0,e1]) rfl ?_;exact bO.no HE.out ((M1.new (zL0) _ _).new (zL0) _ _) (Nx.refl _ _) ((hx1.other _ _ (by omega) (by simp[Value.ownBlock])).other _ _ (by omega) (by simp[Value.ownBlock])) ⟨_,_,_,_,_,_,rfl⟩
end
section
open Go.RowKit
open Lx (Tk)
open Tr
theorem Zb{s:ByteArray}{q:Nat}{w:World}{ts:List Tk}{nest:Int}{au:Value}{sg:List ByteArray}(h:RR s q w ts nest au sg):Lx.hd ts=aL↔¬Lx.pl ts<s.size:=by
 constructor
 ·intro e hp
  have hse:=BA hp;have hhd:Lx.hd ts=s.extract (Lx.pl ts) (jM s (Lx.pl ts)):=by rw[h.lex];rw[Ko h.Mt,OV hp]
  have:=congrArg ByteArray.size (hhd.symm.trans e);rw[ByteArray.size_extract]at this;have h0:(aL).size=0:=rfl;omega
 ·intro hp
  have:=h.lex;rw[DX (by omega)]at this;rw[this];rfl
theorem aeY(s:ByteArray)(w:World)(h:¬2000<s.size):
  Calls prog 50 #[.string s] w (bO s (w.heap.size+1) 0 (PE w.heap.size (w.heap.size+1)) (PS (w.heap.size+1)) w (.slice none 0 0) (jZ s)):=by
 obtain⟨k0,ki,FC,FD,FE⟩:=info_parts Tryz.aiS;obtain⟨j0,ji,Nr,jz1,Ns⟩:=info_parts Tryz.aiT;have FH:Hid (jZ s=gQ (Lx.lex s)):=if_neg h;have hl:decide ((2000:Int)<(s.size:Int))=false:=decide_eq_false (by omega);have hss:s.size<=2000:=by omega
 have kB:=((aj.new w #[.slice none 0 0,.slice none 0 0] 86).alloc (.cells #[.string s,.int .i64 0,.string ⟨#[]⟩,.int .i64 0,.int .i64 0,.int .i64 0,.slice none 0 0] 135)).alloc (.cells #[.slice none 0 0,.slice none 0 0] 86);have kq:=(aj.new (w.alloc (.cells #[.slice none 0 0,.slice none 0 0] 86)) #[.string s,.int .i64 0,.string ⟨#[]⟩,.int .i64 0,.int .i64 0,.int .i64 0,.slice none 0 0] 135).alloc (.cells #[.slice none 0 0,.slice none 0 0] 86);have kG:=aj.new ((w.alloc (.cells #[.slice none 0 0,.slice none 0 0] 86)).alloc (.cells #[.string s,.int .i64 0,.string ⟨#[]⟩,.int .i64 0,.int .i64 0,.int .i64 0,.slice none 0 0] 135)) #[.slice none 0 0,.slice none 0 0] 86;rw[show (w.alloc (.cells #[.slice none 0 0,.slice none 0 0] 86)).heap.size=w.heap.size+1 by simp]at kq;rw[show ((w.alloc (.cells #[.slice none 0 0,.slice none 0 0] 86)).alloc (.cells #[.string s,.int .i64 0,.string ⟨#[]⟩,.int .i64 0,.int .i64 0,.int .i64 0,.slice none 0 0] 135)).heap.size=w.heap.size+1+1 by simp]at kG;have M0:=(((Mv.refl (w.heap.size+1) (.slice none 0 0) w).alloc (.cells #[.slice none 0 0,.slice none 0 0] 86)).alloc (.cells #[.string s,.int .i64 0,.string ⟨#[]⟩,.int .i64 0,.int .i64 0,.int .i64 0,.slice none 0 0] 135)).alloc (.cells #[.slice none 0 0,.slice none 0 0] 86);clear h;go_enter func50,ntmps50;go_wp2_with fail;refine(ah6 hss kq).mono ?_;rintro e w0⟨rfl,sg0,m0,x0,hr0⟩;have qK:=x0.keep (b:=w.heap.size) kB.lt (by simp[Value.ownBlock]);have f0G:=x0.keep (b:=w.heap.size+1+1) kG.lt (by simp[Value.ownBlock])
 have kB0:=kB.mv m0 (by omega) (by simp[Value.ownBlock]);have kG0:=kG.mv m0 (by omega) (by simp[Value.ownBlock]);have M00:=M0.trans (Nx.refl _ _) m0;have X00:=(Nx.refl (.slice none 0 0) w).trans M0.size x0;have hcnt:=hr0.cnt;go_wp2_with fail
 go_loopg [] ((Lx.lex s).length+1) (fun k wr=>(∃(aA:List Tk)(acc:List Lx.Lv)(v bH:Value)(fZ:List ByteArray)(f:Nat),aA.length+1=k/\aA.length<=f/\acc.length+aA.length<=(Lx.lex s).length/\RR s (w.heap.size+1) wr aA 0 bH fZ/\aj wr (w.heap.size+1+1) #[v,.slice none 0 0] 86/\aj wr w.heap.size #[.slice none 0 0,.slice none 0 0] 86/\bH.ownBlock≠some w.heap.size/\bH.ownBlock≠some (w.heap.size+1+1) /\
   jr (w.heap.size+3) bH wr 147 3 xB EN v acc/\Mv (w.heap.size+1) (.slice none 0 0) w wr/\Nx (.slice none 0 0) w bH/\Hid (fI f aA acc=fI (Lx.lex s).length (Lx.lex s) [])) \/
  (∃(n a:Nat)(xa:Option Addr)(xk xc:Nat)(bH:Value)(fZ:List ByteArray),k=0/\RX s (w.heap.size+1) wr 0 n a bH fZ/\aj wr (w.heap.size+1+1) #[.slice xa xk xc,.slice none 0 0] 86/\aj wr w.heap.size #[.slice none 0 0,.slice none 0 0] 86/\bH.ownBlock≠some w.heap.size/\Mv (w.heap.size+1) (.slice none 0 0) w wr/\Nx (.slice none 0 0) w bH/\Hid (jZ s=.error (n,a))))
 case atStart=>exact .inl ⟨Lx.lex s,[],_,sg0,[],(Lx.lex s).length,rfl,zL0,by simp,hr0,kG0,kB0,qK,f0G,jr.nil _ _ _ _ _ _ _,M00,X00,rfl⟩
 case round=>
  revert wr;intro wz hrel;clear hr0 kG0 kB0 qK f0G M00 X00 m0 x0 M0 kB kq kG;rcases hrel with ⟨aA,acc,v,bH,fZ,f,hk,hf,hacc,hr,kG,kB,fB,fG,hgrow,M,X,hpi⟩|⟨n,a,xa,xk,xc,bH,fZ,hk,hx,kG,kB,fB,M,X,HE⟩
  ·have hne:=hr.wf.ne
   have htl:=hr.wf.mD;obtain⟨f',rfl⟩:∃f',f=f'+1:=⟨f-1,by omega⟩;obtain⟨ps,F,hrg⟩:=hgrow;obtain⟨va,vc,rfl⟩:=wT hrg.1.2.1;have lG:=kG.lt;have c2:wz.cell? ⟨w.heap.size+1,2,none⟩=some (.string (fw (Lx.hd aA))):=hr.blk.cell 2;have c4:wz.cell? ⟨w.heap.size+1,4,none⟩=some (.int .i64 0):=hr.blk.cell 4
   by_cases hkd:Lx.hd aA=Aa
   ·have HK:Hid (Lx.known (Lx.hd aA)=true):=by show _=_;rw[hkd];decide
    have yZ:Hid (Lx.hd aA≠aL):=by show _≠_;rw[hkd];decide
    have HKK:Hid (0=(fF (Lx.hd aA)).toNat):=by show _=_;rw[hkd];decide
    have xM:Hid (0<=fF (Lx.hd aA)):=by show _<=_;rw[hkd];decide
    have tl:((fw (Lx.hd aA)).toList == [37,108,101,102,116])=true:=by rw[hkd,nE (by decide),ByteArray.toList_eq];rfl
    have tr:((fw (Lx.hd aA)).toList == [37,114,105,103,104,116])=false:=lC (l:=[37,114,105,103,104,116]) (fun e=>by have:=(rZ (b:=zW) (by decide) (by decide)).1 e;rw[hkd]at this;exact absurd this (by decide));have tn:((fw (Lx.hd aA)).toList == [37,110,111,110,101])=false:=lC (l:=[37,110,111,110,101]) (fun e=>by have:=(rZ (b:=Ab) (by decide) (by decide)).1 e;rw[hkd]at this;exact absurd this (by decide));clear hkd;go_wp2_with fail;refine(Oz s (w.heap.size+1) wz aA bH fZ 0 hr HK.out yZ.out HKK.out).mono ?_;intro e w1 he;cases hit:gJ aA with
    |error x=>
     obtain⟨n,a⟩:=x;obtain⟨v1,sg1,sl1,rfl,m1,x1,h1,yk,ya,yl,yc,za,zl,zc,rfl⟩:=he.err hit;have HE:Hid (jZ s=.error (n,a)):=by
      show _=_;rw[FH.out,FT,<-hpi.out];simp only[fI];rw[if_pos xM.out,hit];rfl
     clear hit he hpi;have hrg1:=hrg.mv jT m1 x1 (by omega);have dZ:=kG.mv m1 (by omega) fG;have kB1:=kB.mv m1 (by omega) fB;have aZ:=x1.keep (b:=w.heap.size) kB.lt fB;have kV:=x1.keep (b:=w.heap.size+1+1) kG.lt fG;have M1:=M.trans X m1;have zB:=m1.size;have X1:=X.trans M.size x1;have zC:=dZ.lt;have qL:w1.cell? ⟨w.heap.size+1+1,0,none⟩=some (Value.slice va acc.length vc):=dZ.cell 0;have hown1:=hrg1.1.2.1;have hge:∀k,(Value.slice va acc.length vc).ownBlock=some k->(w.heap.size+3)<=k:=fun k hk=>(hown1.lt _ hk).1
     go_wp2_with (first
      | (at_builtin;refine wpList_append_lies _ rfl _ _ 83 rfl (w.heap.size+3) 147 k0 _ 3 56 underlying83 ki FC FD FE rfl (by decide) (Value.slice va acc.length vc) acc.length (ps.flatMap xB) rfl ((hown1.alloc _).alloc _) ⟨w1.heap.size+1,0,none⟩ 1 1 [.int .i64 yk,.slice ya yl yc,.slice za zl zc] rfl rfl (by have:=bC (aj.new (w1.alloc (.cells #[.int .i64 yk,.slice ya yl yc,.slice za zl zc] 147)) #[.int .i64 yk,.slice ya yl yc,.slice za zl zc] 147);simpa using this) (by simp[Value.oneCell']) (by decide) (by unfold maxLen;omega) (by omega) (by simp;omega) _ rfl ?_;intro g3 ng w3 hown3 hgrow3 iI hlt3;have dB:=((dZ.alloc _).alloc _).grown hgrow3 (fun e=>by have:=hge _ e.symm;omega);have c03:w3.cell? ⟨w.heap.size+1+1,0,none⟩=some (Value.slice va acc.length vc):=dB.cell 0;have oJ:∀i,w3.frozen? ⟨w.heap.size+1+1,i,none⟩=false:=dB.frozen))
     have kB3:=((kB1.alloc (.cells #[.int .i64 yk,.slice ya yl yc,.slice za zl zc] 147)).alloc (.cells #[.int .i64 yk,.slice ya yl yc,.slice za zl zc] 147)).grown hgrow3 (fun e=>by have:=hge _ e.symm;omega);have M3:=((M1.alloc (.cells #[.int .i64 yk,.slice ya yl yc,.slice za zl zc] 147)).alloc (.cells #[.int .i64 yk,.slice ya yl yc,.slice za zl zc] 147)).grown hgrow3 (fun k hk=>.inl (by have:=hge _ hk;omega));have h3:=(((h1.alloc (.cells #[.int .i64 yk,.slice ya yl yc,.slice za zl zc] 147)).alloc (.cells #[.int .i64 yk,.slice ya yl yc,.slice za zl zc] 147)).move (hgrow3.block (w.heap.size+1) (by simp;omega) (fun e=>by have:=hge _ e.symm;omega)) (fun g hg=>hgrow3.block g (by have:=h1.dQ g hg;simp;omega) (fun e=>hrg1.2.2 g e.symm hg)));go_roundg 0
     case measure=>omega
     case rel=>exact .inr ⟨n,a,_,_,_,sg1,sl1,rfl,h3.other _ _ (by omega) kV,dB.set 0 _,kB3.other (by omega) _,aZ,M3.new (by omega) _ _,X1,HE⟩
    |ok x=>
     obtain⟨lv,aB⟩:=x;obtain⟨v1,sg1,sl1,rfl,m1,x1,h1,vT,vA,rfl,hrows⟩:=he.ok hit;obtain⟨ta,tc,rfl⟩:=wT hrows.1;obtain⟨aa,ac,rfl⟩:=wT hrows.2.1;have Hz:=hrows.Ti;have hl1:=JQ hit;have jO:Hid (fI f' aB (acc++[lv])=fI (Lx.lex s).length (Lx.lex s) []):=by
      show _=_;rw[<-hpi.out];simp only[fI];rw[if_pos xM.out,hit]
     clear hit he hpi;have hrg1:=hrg.mv jT m1 x1 (by omega);have dZ:=kG.mv m1 (by omega) fG;have kB1:=kB.mv m1 (by omega) fB;have aZ:=x1.keep (b:=w.heap.size) kB.lt fB;have kV:=x1.keep (b:=w.heap.size+1+1) kG.lt fG;have M1:=M.trans X m1;have zB:=m1.size;have X1:=X.trans M.size x1;have zC:=dZ.lt;have qL:w1.cell? ⟨w.heap.size+1+1,0,none⟩=some (Value.slice va acc.length vc):=dZ.cell 0;have hown1:=hrg1.1.2.1;have hge:∀k,(Value.slice va acc.length vc).ownBlock=some k->(w.heap.size+3)<=k:=fun k hk=>(hown1.lt _ hk).1
     go_wp2_with (first
      | (at_builtin;refine wpList_append_lies _ rfl _ _ 83 rfl (w.heap.size+3) 147 k0 _ 3 56 underlying83 ki FC FD FE rfl (by decide) (Value.slice va acc.length vc) acc.length (ps.flatMap xB) rfl ((hown1.alloc _).alloc _) ⟨w1.heap.size+1,0,none⟩ 1 1 [.int .i64 (lv.kind:Int),.slice ta lv.tokens.length tc,.slice aa lv.tokens.length ac] rfl rfl (by have:=bC (aj.new (w1.alloc (.cells #[.int .i64 (lv.kind:Int),.slice ta lv.tokens.length tc,.slice aa lv.tokens.length ac] 147)) #[.int .i64 (lv.kind:Int),.slice ta lv.tokens.length tc,.slice aa lv.tokens.length ac] 147);simpa using this) (by simp[Value.oneCell']) (by decide) (by unfold maxLen;omega) (by omega) (by simp;omega) _ rfl ?_;intro g3 ng w3 hown3 hgrow3 iI hlt3;have dB:=((dZ.alloc _).alloc _).grown hgrow3 (fun e=>by have:=hge _ e.symm;omega);have c03:w3.cell? ⟨w.heap.size+1+1,0,none⟩=some (Value.slice va acc.length vc):=dB.cell 0;have oJ:∀i,w3.frozen? ⟨w.heap.size+1+1,i,none⟩=false:=dB.frozen))
     have kB3:=((kB1.alloc (.cells #[.int .i64 (lv.kind:Int),.slice ta lv.tokens.length tc,.slice aa lv.tokens.length ac] 147)).alloc (.cells #[.int .i64 (lv.kind:Int),.slice ta lv.tokens.length tc,.slice aa lv.tokens.length ac] 147)).grown hgrow3 (fun e=>by have:=hge _ e.symm;omega);have M3:=((M1.alloc (.cells #[.int .i64 (lv.kind:Int),.slice ta lv.tokens.length tc,.slice aa lv.tokens.length ac] 147)).alloc (.cells #[.int .i64 (lv.kind:Int),.slice ta lv.tokens.length tc,.slice aa lv.tokens.length ac] 147)).grown hgrow3 (fun k hk=>.inl (by have:=hge _ hk;omega));have h3:=(((h1.alloc (.cells #[.int .i64 (lv.kind:Int),.slice ta lv.tokens.length tc,.slice aa lv.tokens.length ac] 147)).alloc (.cells #[.int .i64 (lv.kind:Int),.slice ta lv.tokens.length tc,.slice aa lv.tokens.length ac] 147)).move (hgrow3.block (w.heap.size+1) (by simp;omega) (fun e=>by have:=hge _ e.symm;omega)) (fun g hg=>hgrow3.block g (by have:=h1.dQ g hg;simp;omega) (fun e=>hrg1.2.2 g e.symm hg)));have G3:=iV.push jT hrg (q:=(w.heap.size+1)) (by omega) (by omega) m1 x1 h1.dQ (.agg #[.slice ta lv.tokens.length tc,.slice aa lv.tokens.length ac],lv) Hz (aW (bZ w1 _ none) (bZ _ _ none)) hown3 hgrow3 iI;go_roundg (aB.length+1)
     case measure=>omega
     case rel=>exact .inl ⟨aB,acc++[lv],_,sg1,sl1,f',rfl,by omega,by simp;omega,h3.other _ _ (by omega) kV,dB.set 0 _,kB3.other (by omega) _,aZ,kV,jr.kept jT G3 (gu w3 (w.heap.size+1+1) 0 _) (fun k hk=>by cases hk;omega),M3.new (by omega) _ _,X1,jO⟩
   have Jv:=hkd;clear hkd
   by_cases hkd:Lx.hd aA=zW
   ·clear Jv
    have HK:Hid (Lx.known (Lx.hd aA)=true):=by show _=_;rw[hkd];decide
    have yZ:Hid (Lx.hd aA≠aL):=by show _≠_;rw[hkd];decide
    have HKK:Hid (1=(fF (Lx.hd aA)).toNat):=by show _=_;rw[hkd];decide
    have xM:Hid (0<=fF (Lx.hd aA)):=by show _<=_;rw[hkd];decide
    have tl:((fw (Lx.hd aA)).toList == [37,108,101,102,116])=false:=lC (l:=[37,108,101,102,116]) (fun e=>by have:=(rZ (b:=Aa) (by decide) (by decide)).1 e;rw[hkd]at this;exact absurd this (by decide));have tr:((fw (Lx.hd aA)).toList == [37,114,105,103,104,116])=true:=by rw[hkd,nE (by decide),ByteArray.toList_eq];rfl
    have tn:((fw (Lx.hd aA)).toList == [37,110,111,110,101])=false:=lC (l:=[37,110,111,110,101]) (fun e=>by have:=(rZ (b:=Ab) (by decide) (by decide)).1 e;rw[hkd]at this;exact absurd this (by decide));clear hkd;go_wp2_with fail;refine(Oz s (w.heap.size+1) wz aA bH fZ 1 hr HK.out yZ.out HKK.out).mono ?_;intro e w1 he;cases hit:gJ aA with
    |error x=>
     obtain⟨n,a⟩:=x;obtain⟨v1,sg1,sl1,rfl,m1,x1,h1,yk,ya,yl,yc,za,zl,zc,rfl⟩:=he.err hit;have HE:Hid (jZ s=.error (n,a)):=by
      show _=_;rw[FH.out,FT,<-hpi.out];simp only[fI];rw[if_pos xM.out,hit];rfl
     clear hit he hpi;have hrg1:=hrg.mv jT m1 x1 (by omega);have dZ:=kG.mv m1 (by omega) fG;have kB1:=kB.mv m1 (by omega) fB;have aZ:=x1.keep (b:=w.heap.size) kB.lt fB;have kV:=x1.keep (b:=w.heap.size+1+1) kG.lt fG;have M1:=M.trans X m1;have zB:=m1.size;have X1:=X.trans M.size x1;have zC:=dZ.lt;have qL:w1.cell? ⟨w.heap.size+1+1,0,none⟩=some (Value.slice va acc.length vc):=dZ.cell 0;have hown1:=hrg1.1.2.1;have hge:∀k,(Value.slice va acc.length vc).ownBlock=some k->(w.heap.size+3)<=k:=fun k hk=>(hown1.lt _ hk).1
     go_wp2_with (first
      | (at_builtin;refine wpList_append_lies _ rfl _ _ 83 rfl (w.heap.size+3) 147 k0 _ 3 56 underlying83 ki FC FD FE rfl (by decide) (Value.slice va acc.length vc) acc.length (ps.flatMap xB) rfl ((hown1.alloc _).alloc _) ⟨w1.heap.size+1,0,none⟩ 1 1 [.int .i64 yk,.slice ya yl yc,.slice za zl zc] rfl rfl (by have:=bC (aj.new (w1.alloc (.cells #[.int .i64 yk,.slice ya yl yc,.slice za zl zc] 147)) #[.int .i64 yk,.slice ya yl yc,.slice za zl zc] 147);simpa using this) (by simp[Value.oneCell']) (by decide) (by unfold maxLen;omega) (by omega) (by simp;omega) _ rfl ?_;intro g3 ng w3 hown3 hgrow3 iI hlt3;have dB:=((dZ.alloc _).alloc _).grown hgrow3 (fun e=>by have:=hge _ e.symm;omega);have c03:w3.cell? ⟨w.heap.size+1+1,0,none⟩=some (Value.slice va acc.length vc):=dB.cell 0;have oJ:∀i,w3.frozen? ⟨w.heap.size+1+1,i,none⟩=false:=dB.frozen))
     have kB3:=((kB1.alloc (.cells #[.int .i64 yk,.slice ya yl yc,.slice za zl zc] 147)).alloc (.cells #[.int .i64 yk,.slice ya yl yc,.slice za zl zc] 147)).grown hgrow3 (fun e=>by have:=hge _ e.symm;omega);have M3:=((M1.alloc (.cells #[.int .i64 yk,.slice ya yl yc,.slice za zl zc] 147)).alloc (.cells #[.int .i64 yk,.slice ya yl yc,.slice za zl zc] 147)).grown hgrow3 (fun k hk=>.inl (by have:=hge _ hk;omega));have h3:=(((h1.alloc (.cells #[.int .i64 yk,.slice ya yl yc,.slice za zl zc] 147)).alloc (.cells #[.int .i64 yk,.slice ya yl yc,.slice za zl zc] 147)).move (hgrow3.block (w.heap.size+1) (by simp;omega) (fun e=>by have:=hge _ e.symm;omega)) (fun g hg=>hgrow3.block g (by have:=h1.dQ g hg;simp;omega) (fun e=>hrg1.2.2 g e.symm hg)));go_roundg 0
     case measure=>omega
     case rel=>exact .inr ⟨n,a,_,_,_,sg1,sl1,rfl,h3.other _ _ (by omega) kV,dB.set 0 _,kB3.other (by omega) _,aZ,M3.new (by omega) _ _,X1,HE⟩
    |ok x=>
     obtain⟨lv,aB⟩:=x;obtain⟨v1,sg1,sl1,rfl,m1,x1,h1,vT,vA,rfl,hrows⟩:=he.ok hit;obtain⟨ta,tc,rfl⟩:=wT hrows.1;obtain⟨aa,ac,rfl⟩:=wT hrows.2.1;have Hz:=hrows.Ti;have hl1:=JQ hit;have jO:Hid (fI f' aB (acc++[lv])=fI (Lx.lex s).length (Lx.lex s) []):=by
      show _=_;rw[<-hpi.out];simp only[fI];rw[if_pos xM.out,hit]
     clear hit he hpi;have hrg1:=hrg.mv jT m1 x1 (by omega);have dZ:=kG.mv m1 (by omega) fG;have kB1:=kB.mv m1 (by omega) fB;have aZ:=x1.keep (b:=w.heap.size) kB.lt fB;have kV:=x1.keep (b:=w.heap.size+1+1) kG.lt fG;have M1:=M.trans X m1;have zB:=m1.size;have X1:=X.trans M.size x1;have zC:=dZ.lt;have qL:w1.cell? ⟨w.heap.size+1+1,0,none⟩=some (Value.slice va acc.length vc):=dZ.cell 0;have hown1:=hrg1.1.2.1;have hge:∀k,(Value.slice va acc.length vc).ownBlock=some k->(w.heap.size+3)<=k:=fun k hk=>(hown1.lt _ hk).1
     go_wp2_with (first
      | (at_builtin;refine wpList_append_lies _ rfl _ _ 83 rfl (w.heap.size+3) 147 k0 _ 3 56 underlying83 ki FC FD FE rfl (by decide) (Value.slice va acc.length vc) acc.length (ps.flatMap xB) rfl ((hown1.alloc _).alloc _) ⟨w1.heap.size+1,0,none⟩ 1 1 [.int .i64 (lv.kind:Int),.slice ta lv.tokens.length tc,.slice aa lv.tokens.length ac] rfl rfl (by have:=bC (aj.new (w1.alloc (.cells #[.int .i64 (lv.kind:Int),.slice ta lv.tokens.length tc,.slice aa lv.tokens.length ac] 147)) #[.int .i64 (lv.kind:Int),.slice ta lv.tokens.length tc,.slice aa lv.tokens.length ac] 147);simpa using this) (by simp[Value.oneCell']) (by decide) (by unfold maxLen;omega) (by omega) (by simp;omega) _ rfl ?_;intro g3 ng w3 hown3 hgrow3 iI hlt3;have dB:=((dZ.alloc _).alloc _).grown hgrow3 (fun e=>by have:=hge _ e.symm;omega);have c03:w3.cell? ⟨w.heap.size+1+1,0,none⟩=some (Value.slice va acc.length vc):=dB.cell 0;have oJ:∀i,w3.frozen? ⟨w.heap.size+1+1,i,none⟩=false:=dB.frozen))
     have kB3:=((kB1.alloc (.cells #[.int .i64 (lv.kind:Int),.slice ta lv.tokens.length tc,.slice aa lv.tokens.length ac] 147)).alloc (.cells #[.int .i64 (lv.kind:Int),.slice ta lv.tokens.length tc,.slice aa lv.tokens.length ac] 147)).grown hgrow3 (fun e=>by have:=hge _ e.symm;omega);have M3:=((M1.alloc (.cells #[.int .i64 (lv.kind:Int),.slice ta lv.tokens.length tc,.slice aa lv.tokens.length ac] 147)).alloc (.cells #[.int .i64 (lv.kind:Int),.slice ta lv.tokens.length tc,.slice aa lv.tokens.length ac] 147)).grown hgrow3 (fun k hk=>.inl (by have:=hge _ hk;omega));have h3:=(((h1.alloc (.cells #[.int .i64 (lv.kind:Int),.slice ta lv.tokens.length tc,.slice aa lv.tokens.length ac] 147)).alloc (.cells #[.int .i64 (lv.kind:Int),.slice ta lv.tokens.length tc,.slice aa lv.tokens.length ac] 147)).move (hgrow3.block (w.heap.size+1) (by simp;omega) (fun e=>by have:=hge _ e.symm;omega)) (fun g hg=>hgrow3.block g (by have:=h1.dQ g hg;simp;omega) (fun e=>hrg1.2.2 g e.symm hg)));have G3:=iV.push jT hrg (q:=(w.heap.size+1)) (by omega) (by omega) m1 x1 h1.dQ (.agg #[.slice ta lv.tokens.length tc,.slice aa lv.tokens.length ac],lv) Hz (aW (bZ w1 _ none) (bZ _ _ none)) hown3 hgrow3 iI;go_roundg (aB.length+1)
     case measure=>omega
     case rel=>exact .inl ⟨aB,acc++[lv],_,sg1,sl1,f',rfl,by omega,by simp;omega,h3.other _ _ (by omega) kV,dB.set 0 _,kB3.other (by omega) _,aZ,kV,jr.kept jT G3 (gu w3 (w.heap.size+1+1) 0 _) (fun k hk=>by cases hk;omega),M3.new (by omega) _ _,X1,jO⟩
   have Nt:=hkd;clear hkd
   by_cases hkd:Lx.hd aA=Ab
   ·clear Jv Nt
    have HK:Hid (Lx.known (Lx.hd aA)=true):=by show _=_;rw[hkd];decide
    have yZ:Hid (Lx.hd aA≠aL):=by show _≠_;rw[hkd];decide
    have HKK:Hid (2=(fF (Lx.hd aA)).toNat):=by show _=_;rw[hkd];decide
    have xM:Hid (0<=fF (Lx.hd aA)):=by show _<=_;rw[hkd];decide
    have tl:((fw (Lx.hd aA)).toList == [37,108,101,102,116])=false:=lC (l:=[37,108,101,102,116]) (fun e=>by have:=(rZ (b:=Aa) (by decide) (by decide)).1 e;rw[hkd]at this;exact absurd this (by decide));have tr:((fw (Lx.hd aA)).toList == [37,114,105,103,104,116])=false:=lC (l:=[37,114,105,103,104,116]) (fun e=>by have:=(rZ (b:=zW) (by decide) (by decide)).1 e;rw[hkd]at this;exact absurd this (by decide));have tn:((fw (Lx.hd aA)).toList == [37,110,111,110,101])=true:=by rw[hkd,nE (by decide),ByteArray.toList_eq];rfl
    clear hkd;go_wp2_with fail;refine(Oz s (w.heap.size+1) wz aA bH fZ 2 hr HK.out yZ.out HKK.out).mono ?_;intro e w1 he;cases hit:gJ aA with
    |error x=>
     obtain⟨n,a⟩:=x;obtain⟨v1,sg1,sl1,rfl,m1,x1,h1,yk,ya,yl,yc,za,zl,zc,rfl⟩:=he.err hit;have HE:Hid (jZ s=.error (n,a)):=by
      show _=_;rw[FH.out,FT,<-hpi.out];simp only[fI];rw[if_pos xM.out,hit];rfl
     clear hit he hpi;have hrg1:=hrg.mv jT m1 x1 (by omega);have dZ:=kG.mv m1 (by omega) fG;have kB1:=kB.mv m1 (by omega) fB;have aZ:=x1.keep (b:=w.heap.size) kB.lt fB;have kV:=x1.keep (b:=w.heap.size+1+1) kG.lt fG;have M1:=M.trans X m1;have zB:=m1.size;have X1:=X.trans M.size x1;have zC:=dZ.lt;have qL:w1.cell? ⟨w.heap.size+1+1,0,none⟩=some (Value.slice va acc.length vc):=dZ.cell 0;have hown1:=hrg1.1.2.1;have hge:∀k,(Value.slice va acc.length vc).ownBlock=some k->(w.heap.size+3)<=k:=fun k hk=>(hown1.lt _ hk).1
     go_wp2_with (first
      | (at_builtin;refine wpList_append_lies _ rfl _ _ 83 rfl (w.heap.size+3) 147 k0 _ 3 56 underlying83 ki FC FD FE rfl (by decide) (Value.slice va acc.length vc) acc.length (ps.flatMap xB) rfl ((hown1.alloc _).alloc _) ⟨w1.heap.size+1,0,none⟩ 1 1 [.int .i64 yk,.slice ya yl yc,.slice za zl zc] rfl rfl (by have:=bC (aj.new (w1.alloc (.cells #[.int .i64 yk,.slice ya yl yc,.slice za zl zc] 147)) #[.int .i64 yk,.slice ya yl yc,.slice za zl zc] 147);simpa using this) (by simp[Value.oneCell']) (by decide) (by unfold maxLen;omega) (by omega) (by simp;omega) _ rfl ?_;intro g3 ng w3 hown3 hgrow3 iI hlt3;have dB:=((dZ.alloc _).alloc _).grown hgrow3 (fun e=>by have:=hge _ e.symm;omega);have c03:w3.cell? ⟨w.heap.size+1+1,0,none⟩=some (Value.slice va acc.length vc):=dB.cell 0;have oJ:∀i,w3.frozen? ⟨w.heap.size+1+1,i,none⟩=false:=dB.frozen))
     have kB3:=((kB1.alloc (.cells #[.int .i64 yk,.slice ya yl yc,.slice za zl zc] 147)).alloc (.cells #[.int .i64 yk,.slice ya yl yc,.slice za zl zc] 147)).grown hgrow3 (fun e=>by have:=hge _ e.symm;omega);have M3:=((M1.alloc (.cells #[.int .i64 yk,.slice ya yl yc,.slice za zl zc] 147)).alloc (.cells #[.int .i64 yk,.slice ya yl yc,.slice za zl zc] 147)).grown hgrow3 (fun k hk=>.inl (by have:=hge _ hk;omega));have h3:=(((h1.alloc (.cells #[.int .i64 yk,.slice ya yl yc,.slice za zl zc] 147)).alloc (.cells #[.int .i64 yk,.slice ya yl yc,.slice za zl zc] 147)).move (hgrow3.block (w.heap.size+1) (by simp;omega) (fun e=>by have:=hge _ e.symm;omega)) (fun g hg=>hgrow3.block g (by have:=h1.dQ g hg;simp;omega) (fun e=>hrg1.2.2 g e.symm hg)));go_roundg 0
     case measure=>omega
     case rel=>exact .inr ⟨n,a,_,_,_,sg1,sl1,rfl,h3.other _ _ (by omega) kV,dB.set 0 _,kB3.other (by omega) _,aZ,M3.new (by omega) _ _,X1,HE⟩
    |ok x=>
     obtain⟨lv,aB⟩:=x;obtain⟨v1,sg1,sl1,rfl,m1,x1,h1,vT,vA,rfl,hrows⟩:=he.ok hit;obtain⟨ta,tc,rfl⟩:=wT hrows.1;obtain⟨aa,ac,rfl⟩:=wT hrows.2.1;have Hz:=hrows.Ti;have hl1:=JQ hit;have jO:Hid (fI f' aB (acc++[lv])=fI (Lx.lex s).length (Lx.lex s) []):=by
      show _=_;rw[<-hpi.out];simp only[fI];rw[if_pos xM.out,hit]
     clear hit he hpi;have hrg1:=hrg.mv jT m1 x1 (by omega);have dZ:=kG.mv m1 (by omega) fG;have kB1:=kB.mv m1 (by omega) fB;have aZ:=x1.keep (b:=w.heap.size) kB.lt fB;have kV:=x1.keep (b:=w.heap.size+1+1) kG.lt fG;have M1:=M.trans X m1;have zB:=m1.size;have X1:=X.trans M.size x1;have zC:=dZ.lt;have qL:w1.cell? ⟨w.heap.size+1+1,0,none⟩=some (Value.slice va acc.length vc):=dZ.cell 0;have hown1:=hrg1.1.2.1;have hge:∀k,(Value.slice va acc.length vc).ownBlock=some k->(w.heap.size+3)<=k:=fun k hk=>(hown1.lt _ hk).1
     go_wp2_with (first
      | (at_builtin;refine wpList_append_lies _ rfl _ _ 83 rfl (w.heap.size+3) 147 k0 _ 3 56 underlying83 ki FC FD FE rfl (by decide) (Value.slice va acc.length vc) acc.length (ps.flatMap xB) rfl ((hown1.alloc _).alloc _) ⟨w1.heap.size+1,0,none⟩ 1 1 [.int .i64 (lv.kind:Int),.slice ta lv.tokens.length tc,.slice aa lv.tokens.length ac] rfl rfl (by have:=bC (aj.new (w1.alloc (.cells #[.int .i64 (lv.kind:Int),.slice ta lv.tokens.length tc,.slice aa lv.tokens.length ac] 147)) #[.int .i64 (lv.kind:Int),.slice ta lv.tokens.length tc,.slice aa lv.tokens.length ac] 147);simpa using this) (by simp[Value.oneCell']) (by decide) (by unfold maxLen;omega) (by omega) (by simp;omega) _ rfl ?_;intro g3 ng w3 hown3 hgrow3 iI hlt3;have dB:=((dZ.alloc _).alloc _).grown hgrow3 (fun e=>by have:=hge _ e.symm;omega);have c03:w3.cell? ⟨w.heap.size+1+1,0,none⟩=some (Value.slice va acc.length vc):=dB.cell 0;have oJ:∀i,w3.frozen? ⟨w.heap.size+1+1,i,none⟩=false:=dB.frozen))
     have kB3:=((kB1.alloc (.cells #[.int .i64 (lv.kind:Int),.slice ta lv.tokens.length tc,.slice aa lv.tokens.length ac] 147)).alloc (.cells #[.int .i64 (lv.kind:Int),.slice ta lv.tokens.length tc,.slice aa lv.tokens.length ac] 147)).grown hgrow3 (fun e=>by have:=hge _ e.symm;omega);have M3:=((M1.alloc (.cells #[.int .i64 (lv.kind:Int),.slice ta lv.tokens.length tc,.slice aa lv.tokens.length ac] 147)).alloc (.cells #[.int .i64 (lv.kind:Int),.slice ta lv.tokens.length tc,.slice aa lv.tokens.length ac] 147)).grown hgrow3 (fun k hk=>.inl (by have:=hge _ hk;omega));have h3:=(((h1.alloc (.cells #[.int .i64 (lv.kind:Int),.slice ta lv.tokens.length tc,.slice aa lv.tokens.length ac] 147)).alloc (.cells #[.int .i64 (lv.kind:Int),.slice ta lv.tokens.length tc,.slice aa lv.tokens.length ac] 147)).move (hgrow3.block (w.heap.size+1) (by simp;omega) (fun e=>by have:=hge _ e.symm;omega)) (fun g hg=>hgrow3.block g (by have:=h1.dQ g hg;simp;omega) (fun e=>hrg1.2.2 g e.symm hg)));have G3:=iV.push jT hrg (q:=(w.heap.size+1)) (by omega) (by omega) m1 x1 h1.dQ (.agg #[.slice ta lv.tokens.length tc,.slice aa lv.tokens.length ac],lv) Hz (aW (bZ w1 _ none) (bZ _ _ none)) hown3 hgrow3 iI;go_roundg (aB.length+1)
     case measure=>omega
     case rel=>exact .inl ⟨aB,acc++[lv],_,sg1,sl1,f',rfl,by omega,by simp;omega,h3.other _ _ (by omega) kV,dB.set 0 _,kB3.other (by omega) _,aZ,kV,jr.kept jT G3 (gu w3 (w.heap.size+1+1) 0 _) (fun k hk=>by cases hk;omega),M3.new (by omega) _ _,X1,jO⟩
   have Tj:=hkd;clear hkd;have tl:((fw (Lx.hd aA)).toList == [37,108,101,102,116])=false:=lC (l:=[37,108,101,102,116]) (fun e=>Jv ((rZ (b:=Aa) (by decide) (by decide)).1 e));have tr:((fw (Lx.hd aA)).toList == [37,114,105,103,104,116])=false:=lC (l:=[37,114,105,103,104,116]) (fun e=>Nt ((rZ (b:=zW) (by decide) (by decide)).1 e));have tn:((fw (Lx.hd aA)).toList == [37,110,111,110,101])=false:=lC (l:=[37,110,111,110,101]) (fun e=>Tj ((rZ (b:=Ab) (by decide) (by decide)).1 e));have HG:Hid (gQ (Lx.lex s)=yw acc aA):=by
    show _=_;rw[FT,<-hpi.out];simp only[fI];rw[if_neg (by unfold fF;rw[if_neg Jv,if_neg Nt,if_neg Tj];decide)];rfl
   clear Jv Nt Tj hpi;have hFN:∀b,F b->b<wz.heap.size:=fun b hb=>(hrg.1.2.2.2.1 b hb).2
   have hVN:∀g,(Value.slice va acc.length vc).ownBlock=some g->g<wz.heap.size:=fun g hg=>(hrg.1.2.1.lt g hg).2
   go_wp2_with fail
   go_loopg [] (aA.length+1) (fun k wr=>(∃(oI:List Tk)(rs:List Lx.Rl)(vR yM:Value)(L8:List ByteArray),oI.length+1=k/\rs.length+oI.length<=(Lx.lex s).length/\wz.heap.size<=wr.heap.size/\RR s (w.heap.size+1) wr oI 0 yM L8/\aj wr (w.heap.size+1+1) #[.slice va acc.length vc,vR] 86/\aj wr w.heap.size #[.slice none 0 0,.slice none 0 0] 86/\yM.ownBlock≠some w.heap.size/\yM.ownBlock≠some (w.heap.size+1+1) /\
     iV (w.heap.size+3) yM wr 147 3 xB EN (.slice va acc.length vc) acc ps F/\jr wz.heap.size yM wr 139 3 CJ QY vR rs/\Mv (w.heap.size+1) (.slice none 0 0) w wr/\Nx (.slice none 0 0) w yM/\Hid (RC (Lx.lex s) acc aA oI rs)) \/
    (∃(n a:Nat)(xa:Option Addr)(xk xc:Nat)(tN:Option Addr)(tO tQ:Nat)(bH:Value)(fZ:List ByteArray),k=0/\RX s (w.heap.size+1) wr 0 n a bH fZ/\aj wr (w.heap.size+1+1) #[.slice xa xk xc,.slice tN tO tQ] 86/\aj wr w.heap.size #[.slice none 0 0,.slice none 0 0] 86/\bH.ownBlock≠some w.heap.size/\Mv (w.heap.size+1) (.slice none 0 0) w wr/\Nx (.slice none 0 0) w bH/\Hid (jZ s=.error (n,a))))
   case atStart=>exact .inl ⟨aA,[],_,bH,fZ,rfl,by simp;omega,zL0,hr,kG,kB,fB,fG,hrg,jr.nil _ _ _ _ _ _ _,M,X,.inl ⟨rfl,rfl,HG.out⟩⟩
   case round=>
    have lZ:=lG;clear M X kG kB fB fG c2 c4 hr hrg lG;rcases hrel with ⟨oI,rs,vR,yM,L8,hk,hrs,hzr,hr2,jG,jB,fB,fG,hlv,hgrow,M,X,hrc⟩|⟨n,a,xa,xk,xc,tN,tO,tQ,bH,fZ,hk,hx,Bp,jD,fB,M,X,HE⟩
    ·have hne:=hr2.wf.ne
     have amJ:=hr2.wf.mD;obtain⟨pr,Fr,hrr⟩:=hgrow;obtain⟨ra,rc,rfl⟩:=wT hrr.1.2.1;have lG:=jG.lt;have szM:=M.size;have c1:wr.cell? ⟨w.heap.size+1,1,none⟩=some (.int .i64 (Lx.pl oI:Int)):=hr2.blk.cell 1;have c4:wr.cell? ⟨w.heap.size+1,4,none⟩=some (.int .i64 0):=hr2.blk.cell 4;have g1:wr.cell? ⟨w.heap.size+1+1,1,none⟩=some (.slice ra rs.length rc):=jG.cell 1
     by_cases ha:rs=[]
     ·have hl0:((rs.length:Int) == 0)=true:=by rw[ha];rfl
      have vO:Hid (rs=[]\/¬Lx.hd oI=aL):=.inl ha;clear ha;go_wp2_with fail;refine(Xk s (w.heap.size+1) wr oI yM L8 hr2).mono ?_;intro e w1 he;cases hit:dF oI with
      |error x=>
       obtain⟨n,a⟩:=x;obtain⟨v1,sg1,sl1,rfl,m1,x1,h1,yn,ya,yl,yc,yp,rfl⟩:=he.err hit;have HE:Hid (jZ s=.error (n,a)):=by show _=_;rw[FH.out];exact hrc.out.err hne vO.out hit
       clear hit he hrc;have hrg1:=hrr.mv (tT YR 9) m1 x1 (by omega);have dZ:=jG.mv m1 (by omega) fG;have kB1:=jB.mv m1 (by omega) fB;have aZ:=x1.keep (b:=w.heap.size) jB.lt fB;have kV:=x1.keep (b:=w.heap.size+1+1) jG.lt fG;have M1:=M.trans X m1;have zB:=m1.size;have X1:=X.trans M.size x1;have zC:=dZ.lt;have qL:w1.cell? ⟨w.heap.size+1+1,1,none⟩=some (Value.slice ra rs.length rc):=dZ.cell 1;have hown1:=hrg1.1.2.1;have hge:∀k,(Value.slice ra rs.length rc).ownBlock=some k->wz.heap.size<=k:=fun k hk=>(hown1.lt _ hk).1
       go_wp2_with (first
        | (at_builtin;refine wpList_append_lies _ rfl _ _ 84 rfl wz.heap.size 139 j0 _ 3 48 underlying84 ji Nr jz1 Ns rfl (by decide) (Value.slice ra rs.length rc) rs.length (pr.flatMap CJ) rfl ((hown1.alloc _).alloc _) ⟨w1.heap.size+1,0,none⟩ 1 1 [.string yn,.slice ya yl yc,.int .i64 yp] rfl rfl (by have:=bC (aj.new (w1.alloc (.cells #[.string yn,.slice ya yl yc,.int .i64 yp] 139)) #[.string yn,.slice ya yl yc,.int .i64 yp] 139);simpa using this) (by simp[Value.oneCell']) (by decide) (by unfold maxLen;omega) (by omega) (by simp;omega) _ rfl ?_;intro g3 ng w3 hown3 hgrow3 iI hlt3;have dB:=((dZ.alloc _).alloc _).grown hgrow3 (fun e=>by have:=hge _ e.symm;omega);have c03:w3.cell? ⟨w.heap.size+1+1,1,none⟩=some (Value.slice ra rs.length rc):=dB.cell 1;have oJ:∀i,w3.frozen? ⟨w.heap.size+1+1,i,none⟩=false:=dB.frozen))
       have kB3:=((kB1.alloc (.cells #[.string yn,.slice ya yl yc,.int .i64 yp] 139)).alloc (.cells #[.string yn,.slice ya yl yc,.int .i64 yp] 139)).grown hgrow3 (fun e=>by have:=hge _ e.symm;omega);have M3:=((M1.alloc (.cells #[.string yn,.slice ya yl yc,.int .i64 yp] 139)).alloc (.cells #[.string yn,.slice ya yl yc,.int .i64 yp] 139)).grown hgrow3 (fun k hk=>.inl (by have:=hge _ hk;omega));have h3:=(((h1.alloc (.cells #[.string yn,.slice ya yl yc,.int .i64 yp] 139)).alloc (.cells #[.string yn,.slice ya yl yc,.int .i64 yp] 139)).move (hgrow3.block (w.heap.size+1) (by simp;omega) (fun e=>by have:=hge _ e.symm;omega)) (fun g hg=>hgrow3.block g (by have:=h1.dQ g hg;simp;omega) (fun e=>hrg1.2.2 g e.symm hg)));go_roundg 0
       case measure=>omega
       case rel=>exact .inr ⟨n,a,_,_,_,_,_,_,sg1,sl1,rfl,h3.other _ _ (by omega) kV,dB.set 1 _,kB3.other (by omega) _,aZ,M3.new (by omega) _ _,X1,HE⟩
      |ok x=>
       obtain⟨rl,aB⟩:=x;obtain⟨v1,sg1,sl1,rfl,m1,x1,h1,Mw,rfl,hax⟩:=he.ok hit;obtain⟨ya,yl,yc,rfl⟩:=ay.form hax;have hl1:=F5 hit;have Tn:Hid (RC (Lx.lex s) acc aA aB (rs++[rl])):=hrc.out.ok (by omega) vO.out hit;clear hit he hrc;have hrg1:=hrr.mv (tT YR 9) m1 x1 (by omega);have hlv1:=hlv.mv jT m1 x1 (by omega);have dZ:=jG.mv m1 (by omega) fG;have kB1:=jB.mv m1 (by omega) fB;have aZ:=x1.keep (b:=w.heap.size) jB.lt fB;have kV:=x1.keep (b:=w.heap.size+1+1) jG.lt fG;have M1:=M.trans X m1;have zB:=m1.size;have X1:=X.trans M.size x1;have zC:=dZ.lt;have qL:w1.cell? ⟨w.heap.size+1+1,1,none⟩=some (Value.slice ra rs.length rc):=dZ.cell 1;have hown1:=hrg1.1.2.1;have hge:∀k,(Value.slice ra rs.length rc).ownBlock=some k->wz.heap.size<=k:=fun k hk=>(hown1.lt _ hk).1
       go_wp2_with (first
        | (at_builtin;refine wpList_append_lies _ rfl _ _ 84 rfl wz.heap.size 139 j0 _ 3 48 underlying84 ji Nr jz1 Ns rfl (by decide) (Value.slice ra rs.length rc) rs.length (pr.flatMap CJ) rfl ((hown1.alloc _).alloc _) ⟨w1.heap.size+1,0,none⟩ 1 1 [.string rl.name,.slice ya yl yc,.int .i64 (rl.place:Int)] rfl rfl (by have:=bC (aj.new (w1.alloc (.cells #[.string rl.name,.slice ya yl yc,.int .i64 (rl.place:Int)] 139)) #[.string rl.name,.slice ya yl yc,.int .i64 (rl.place:Int)] 139);simpa using this) (by simp[Value.oneCell']) (by decide) (by unfold maxLen;omega) (by omega) (by simp;omega) _ rfl ?_;intro g3 ng w3 hown3 hgrow3 iI hlt3;have dB:=((dZ.alloc _).alloc _).grown hgrow3 (fun e=>by have:=hge _ e.symm;omega);have c03:w3.cell? ⟨w.heap.size+1+1,1,none⟩=some (Value.slice ra rs.length rc):=dB.cell 1;have oJ:∀i,w3.frozen? ⟨w.heap.size+1+1,i,none⟩=false:=dB.frozen))
       have kB3:=((kB1.alloc (.cells #[.string rl.name,.slice ya yl yc,.int .i64 (rl.place:Int)] 139)).alloc (.cells #[.string rl.name,.slice ya yl yc,.int .i64 (rl.place:Int)] 139)).grown hgrow3 (fun e=>by have:=hge _ e.symm;omega);have M3:=((M1.alloc (.cells #[.string rl.name,.slice ya yl yc,.int .i64 (rl.place:Int)] 139)).alloc (.cells #[.string rl.name,.slice ya yl yc,.int .i64 (rl.place:Int)] 139)).grown hgrow3 (fun k hk=>.inl (by have:=hge _ hk;omega));have h3:=(((h1.alloc (.cells #[.string rl.name,.slice ya yl yc,.int .i64 (rl.place:Int)] 139)).alloc (.cells #[.string rl.name,.slice ya yl yc,.int .i64 (rl.place:Int)] 139)).move (hgrow3.block (w.heap.size+1) (by simp;omega) (fun e=>by have:=hge _ e.symm;omega)) (fun g hg=>hgrow3.block g (by have:=h1.dQ g hg;simp;omega) (fun e=>hrg1.2.2 g e.symm hg)));have G3:=iV.push (tT YR 9) hrr (q:=(w.heap.size+1)) (by omega) (by omega) m1 x1 h1.dQ (.slice ya yl yc,rl) hax (aW (bZ w1 _ none) (bZ _ _ none)) hown3 hgrow3 iI;have Ir:wz.heap.size<=(w3.setCell ⟨w.heap.size+1+1,1,none⟩ (.slice (some ⟨g3,0,none⟩) (rs.length+1) ng)).heap.size:=by
        have s2:w1.heap.size+2<=w3.heap.size:=by have:=hgrow3.size;simpa using this
        simp[World.setCell];omega
       have L3:=((hlv1.apart jT (aW (bZ w1 (.cells #[.string rl.name,.slice ya yl yc,.int .i64 (rl.place:Int)] 139) none) (bZ _ (.cells #[.string rl.name,.slice ya yl yc,.int .i64 (rl.place:Int)] 139) none)) (fun k hk=>by simp at hk)).apart jT hgrow3 (fun k hk=>⟨fun hF=>by have:=hFN k hF;have:=hge _ hk;omega,fun e=>by have:=hVN k e;have:=hge _ hk;omega⟩)).kept jT (gu w3 (w.heap.size+1+1) 1 (.slice (some ⟨g3,0,none⟩) (rs.length+1) ng)) (fun k hk=>by cases hk;omega);go_roundg (aB.length+1)
       case measure=>omega
       case rel=>exact .inl ⟨aB,rs++[rl],_,sg1,sl1,rfl,by simp;omega,Ir,h3.other _ _ (by omega) kV,dB.set 1 _,kB3.other (by omega) _,aZ,kV,L3,jr.kept (tT YR 9) G3 (gu w3 (w.heap.size+1+1) 1 _) (fun k hk=>by cases hk;omega),M3.new (by omega) _ _,X1,Tn⟩
     ·have hl0:((rs.length:Int) == 0)=false:=beq_eq_false_iff_ne.2 (by have:=List.length_pos_iff.2 ha;omega)
      by_cases hlt:Lx.pl oI<s.size
      ·have hlt':decide ((Lx.pl oI:Int)<(s.size:Int))=true:=decide_eq_true (by omega)
       have hlt2:decide (Lx.pl oI<s.size)=true:=decide_eq_true hlt;have vO:Hid (rs=[]\/¬Lx.hd oI=aL):=.inr (fun e=>(Zb hr2).1 e hlt);clear ha;go_wp2_with fail;refine(Xk s (w.heap.size+1) wr oI yM L8 hr2).mono ?_;intro e w1 he;cases hit:dF oI with
       |error x=>
        obtain⟨n,a⟩:=x;obtain⟨v1,sg1,sl1,rfl,m1,x1,h1,yn,ya,yl,yc,yp,rfl⟩:=he.err hit;have HE:Hid (jZ s=.error (n,a)):=by show _=_;rw[FH.out];exact hrc.out.err hne vO.out hit
        clear hit he hrc;have hrg1:=hrr.mv (tT YR 9) m1 x1 (by omega);have dZ:=jG.mv m1 (by omega) fG;have kB1:=jB.mv m1 (by omega) fB;have aZ:=x1.keep (b:=w.heap.size) jB.lt fB;have kV:=x1.keep (b:=w.heap.size+1+1) jG.lt fG;have M1:=M.trans X m1;have zB:=m1.size;have X1:=X.trans M.size x1;have zC:=dZ.lt;have qL:w1.cell? ⟨w.heap.size+1+1,1,none⟩=some (Value.slice ra rs.length rc):=dZ.cell 1;have hown1:=hrg1.1.2.1;have hge:∀k,(Value.slice ra rs.length rc).ownBlock=some k->wz.heap.size<=k:=fun k hk=>(hown1.lt _ hk).1
        go_wp2_with (first
         | (at_builtin;refine wpList_append_lies _ rfl _ _ 84 rfl wz.heap.size 139 j0 _ 3 48 underlying84 ji Nr jz1 Ns rfl (by decide) (Value.slice ra rs.length rc) rs.length (pr.flatMap CJ) rfl ((hown1.alloc _).alloc _) ⟨w1.heap.size+1,0,none⟩ 1 1 [.string yn,.slice ya yl yc,.int .i64 yp] rfl rfl (by have:=bC (aj.new (w1.alloc (.cells #[.string yn,.slice ya yl yc,.int .i64 yp] 139)) #[.string yn,.slice ya yl yc,.int .i64 yp] 139);simpa using this) (by simp[Value.oneCell']) (by decide) (by unfold maxLen;omega) (by omega) (by simp;omega) _ rfl ?_;intro g3 ng w3 hown3 hgrow3 iI hlt3;have dB:=((dZ.alloc _).alloc _).grown hgrow3 (fun e=>by have:=hge _ e.symm;omega);have c03:w3.cell? ⟨w.heap.size+1+1,1,none⟩=some (Value.slice ra rs.length rc):=dB.cell 1;have oJ:∀i,w3.frozen? ⟨w.heap.size+1+1,i,none⟩=false:=dB.frozen))
        have kB3:=((kB1.alloc (.cells #[.string yn,.slice ya yl yc,.int .i64 yp] 139)).alloc (.cells #[.string yn,.slice ya yl yc,.int .i64 yp] 139)).grown hgrow3 (fun e=>by have:=hge _ e.symm;omega);have M3:=((M1.alloc (.cells #[.string yn,.slice ya yl yc,.int .i64 yp] 139)).alloc (.cells #[.string yn,.slice ya yl yc,.int .i64 yp] 139)).grown hgrow3 (fun k hk=>.inl (by have:=hge _ hk;omega));have h3:=(((h1.alloc (.cells #[.string yn,.slice ya yl yc,.int .i64 yp] 139)).alloc (.cells #[.string yn,.slice ya yl yc,.int .i64 yp] 139)).move (hgrow3.block (w.heap.size+1) (by simp;omega) (fun e=>by have:=hge _ e.symm;omega)) (fun g hg=>hgrow3.block g (by have:=h1.dQ g hg;simp;omega) (fun e=>hrg1.2.2 g e.symm hg)));go_roundg 0
        case measure=>omega
        case rel=>exact .inr ⟨n,a,_,_,_,_,_,_,sg1,sl1,rfl,h3.other _ _ (by omega) kV,dB.set 1 _,kB3.other (by omega) _,aZ,M3.new (by omega) _ _,X1,HE⟩
       |ok x=>
        obtain⟨rl,aB⟩:=x;obtain⟨v1,sg1,sl1,rfl,m1,x1,h1,Mw,rfl,hax⟩:=he.ok hit;obtain⟨ya,yl,yc,rfl⟩:=ay.form hax;have hl1:=F5 hit;have Tn:Hid (RC (Lx.lex s) acc aA aB (rs++[rl])):=hrc.out.ok (by omega) vO.out hit;clear hit he hrc;have hrg1:=hrr.mv (tT YR 9) m1 x1 (by omega);have hlv1:=hlv.mv jT m1 x1 (by omega);have dZ:=jG.mv m1 (by omega) fG;have kB1:=jB.mv m1 (by omega) fB;have aZ:=x1.keep (b:=w.heap.size) jB.lt fB;have kV:=x1.keep (b:=w.heap.size+1+1) jG.lt fG;have M1:=M.trans X m1;have zB:=m1.size;have X1:=X.trans M.size x1;have zC:=dZ.lt;have qL:w1.cell? ⟨w.heap.size+1+1,1,none⟩=some (Value.slice ra rs.length rc):=dZ.cell 1;have hown1:=hrg1.1.2.1;have hge:∀k,(Value.slice ra rs.length rc).ownBlock=some k->wz.heap.size<=k:=fun k hk=>(hown1.lt _ hk).1
        go_wp2_with (first
         | (at_builtin;refine wpList_append_lies _ rfl _ _ 84 rfl wz.heap.size 139 j0 _ 3 48 underlying84 ji Nr jz1 Ns rfl (by decide) (Value.slice ra rs.length rc) rs.length (pr.flatMap CJ) rfl ((hown1.alloc _).alloc _) ⟨w1.heap.size+1,0,none⟩ 1 1 [.string rl.name,.slice ya yl yc,.int .i64 (rl.place:Int)] rfl rfl (by have:=bC (aj.new (w1.alloc (.cells #[.string rl.name,.slice ya yl yc,.int .i64 (rl.place:Int)] 139)) #[.string rl.name,.slice ya yl yc,.int .i64 (rl.place:Int)] 139);simpa using this) (by simp[Value.oneCell']) (by decide) (by unfold maxLen;omega) (by omega) (by simp;omega) _ rfl ?_;intro g3 ng w3 hown3 hgrow3 iI hlt3;have dB:=((dZ.alloc _).alloc _).grown hgrow3 (fun e=>by have:=hge _ e.symm;omega);have c03:w3.cell? ⟨w.heap.size+1+1,1,none⟩=some (Value.slice ra rs.length rc):=dB.cell 1;have oJ:∀i,w3.frozen? ⟨w.heap.size+1+1,i,none⟩=false:=dB.frozen))
        have kB3:=((kB1.alloc (.cells #[.string rl.name,.slice ya yl yc,.int .i64 (rl.place:Int)] 139)).alloc (.cells #[.string rl.name,.slice ya yl yc,.int .i64 (rl.place:Int)] 139)).grown hgrow3 (fun e=>by have:=hge _ e.symm;omega);have M3:=((M1.alloc (.cells #[.string rl.name,.slice ya yl yc,.int .i64 (rl.place:Int)] 139)).alloc (.cells #[.string rl.name,.slice ya yl yc,.int .i64 (rl.place:Int)] 139)).grown hgrow3 (fun k hk=>.inl (by have:=hge _ hk;omega));have h3:=(((h1.alloc (.cells #[.string rl.name,.slice ya yl yc,.int .i64 (rl.place:Int)] 139)).alloc (.cells #[.string rl.name,.slice ya yl yc,.int .i64 (rl.place:Int)] 139)).move (hgrow3.block (w.heap.size+1) (by simp;omega) (fun e=>by have:=hge _ e.symm;omega)) (fun g hg=>hgrow3.block g (by have:=h1.dQ g hg;simp;omega) (fun e=>hrg1.2.2 g e.symm hg)));have G3:=iV.push (tT YR 9) hrr (q:=(w.heap.size+1)) (by omega) (by omega) m1 x1 h1.dQ (.slice ya yl yc,rl) hax (aW (bZ w1 _ none) (bZ _ _ none)) hown3 hgrow3 iI;have Ir:wz.heap.size<=(w3.setCell ⟨w.heap.size+1+1,1,none⟩ (.slice (some ⟨g3,0,none⟩) (rs.length+1) ng)).heap.size:=by
         have s2:w1.heap.size+2<=w3.heap.size:=by have:=hgrow3.size;simpa using this
         simp[World.setCell];omega
        have L3:=((hlv1.apart jT (aW (bZ w1 (.cells #[.string rl.name,.slice ya yl yc,.int .i64 (rl.place:Int)] 139) none) (bZ _ (.cells #[.string rl.name,.slice ya yl yc,.int .i64 (rl.place:Int)] 139) none)) (fun k hk=>by simp at hk)).apart jT hgrow3 (fun k hk=>⟨fun hF=>by have:=hFN k hF;have:=hge _ hk;omega,fun e=>by have:=hVN k e;have:=hge _ hk;omega⟩)).kept jT (gu w3 (w.heap.size+1+1) 1 (.slice (some ⟨g3,0,none⟩) (rs.length+1) ng)) (fun k hk=>by cases hk;omega);go_roundg (aB.length+1)
        case measure=>omega
        case rel=>exact .inl ⟨aB,rs++[rl],_,sg1,sl1,rfl,by simp;omega,Ir,h3.other _ _ (by omega) kV,dB.set 1 _,kB3.other (by omega) _,aZ,kV,L3,jr.kept (tT YR 9) G3 (gu w3 (w.heap.size+1+1) 1 _) (fun k hk=>by cases hk;omega),M3.new (by omega) _ _,X1,Tn⟩
      ·have hlt':decide ((Lx.pl oI:Int)<(s.size:Int))=false:=decide_eq_false (by omega)
       have hlt2:decide (Lx.pl oI<s.size)=false:=decide_eq_false hlt;have HP:Hid (jZ s=.ok (⟨acc,rs⟩,oI)):=by show _=_;rw[FH.out];exact hrc.out.done hne ha ((Zb hr2).2 hlt)
       clear ha;have jD:=jB;have Bp:=jG;have e0:wr.cell? ⟨w.heap.size,0,none⟩=some (.slice none 0 0):=jD.cell 0;have e1:wr.cell? ⟨w.heap.size,1,none⟩=some (.slice none 0 0):=jD.cell 1;have d0:wr.cell? ⟨w.heap.size+1+1,0,none⟩=some (.slice va acc.length vc):=Bp.cell 0;have d1:wr.cell? ⟨w.heap.size+1+1,1,none⟩=some (.slice ra rs.length rc):=Bp.cell 1;have ff:∀i,wr.frozen? ⟨w.heap.size,i,none⟩=false:=jD.frozen;go_wp2_with fail;refine bodyPost_ret (v:=.tuple #[.agg #[(.slice va acc.length vc),(.slice ra rs.length rc)],.pointer (some ⟨w.heap.size+1,0,none⟩)]) (by simp[results,results50,go_sem,e0,e1]) rfl ?_;refine bO.yes HP.out ((M.new (zL0) _ _).new (zL0) _ _) X ((hr2.other _ _ (by omega) fB).other _ _ (by omega) fB) ⟨_,_,rfl,?_,?_⟩
       ·refine Seq.move (jr.seq jT ⟨ps,F,hlv⟩) (fun b hb=>?_) (fun b hb=>⟨by have:=hb.1;omega,by simpa [World.setCell]using hb.2.1,hb.2.2⟩) (fun v x hk=>jT _ _ _ _ v x (fun b hb=>?_) (fun b hb=>⟨by have:=hb.1;omega,by simpa [World.setCell]using hb.2.1,hb.2.2⟩) hk)
        all_goals
         have hbb:b≠w.heap.size:=by have:=hb.1;omega
         rw[zS0 hbb,zS0 hbb]
       ·refine Seq.move (jr.seq (tT YR 9) ⟨pr,Fr,hrr⟩) (fun b hb=>?_) (fun b hb=>⟨by have:=hb.1;omega,by simpa [World.setCell]using hb.2.1,hb.2.2⟩) (fun v x hk=>tT YR 9 _ _ _ _ v x (fun b hb=>?_) (fun b hb=>⟨by have:=hb.1;omega,by simpa [World.setCell]using hb.2.1,hb.2.2⟩) hk)
        all_goals
         have hbb:b≠w.heap.size:=by have:=hb.1;omega
         rw[zS0 hbb,zS0 hbb]
    ·have h0:((n:Int) == 0)=false:=beq_eq_false_iff_ne.2 (by have:=hx.pos;omega)
     obtain⟨ii,WW,rM⟩:=hx.blk;have c4:wr.cell? ⟨w.heap.size+1,4,none⟩=some (.int .i64 (n:Int)):=rM.cell 4;have e0:wr.cell? ⟨w.heap.size,0,none⟩=some (.slice none 0 0):=jD.cell 0;have e1:wr.cell? ⟨w.heap.size,1,none⟩=some (.slice none 0 0):=jD.cell 1;have d0:wr.cell? ⟨w.heap.size+1+1,0,none⟩=some (.slice xa xk xc):=Bp.cell 0;have d1:wr.cell? ⟨w.heap.size+1+1,1,none⟩=some (.slice tN tO tQ):=Bp.cell 1;have ff:∀i,wr.frozen? ⟨w.heap.size,i,none⟩=false:=jD.frozen;go_wp2_with fail;refine bodyPost_ret (v:=.tuple #[.agg #[(.slice xa xk xc),(.slice tN tO tQ)],.pointer (some ⟨w.heap.size+1,0,none⟩)]) (by simp[results,results50,go_sem,e0,e1]) rfl ?_;exact bO.no HE.out ((M.new (zL0) _ _).new (zL0) _ _) X ((hx.other _ _ (by omega) fB).other _ _ (by omega) fB) ⟨_,_,_,_,_,_,rfl⟩
  ·have h0:((n:Int) == 0)=false:=beq_eq_false_iff_ne.2 (by have:=hx.pos;omega)
   obtain⟨ii,WW,rM⟩:=hx.blk;have c4:wz.cell? ⟨w.heap.size+1,4,none⟩=some (.int .i64 (n:Int)):=rM.cell 4;go_wp2_with fail
   go_loopg [] 0 (fun k wr=>∃(n a:Nat)(xa:Option Addr)(xk xc:Nat)(tN:Option Addr)(tO tQ:Nat)(bH:Value)(fZ:List ByteArray),k=0/\RX s (w.heap.size+1) wr 0 n a bH fZ/\aj wr (w.heap.size+1+1) #[.slice xa xk xc,.slice tN tO tQ] 86/\aj wr w.heap.size #[.slice none 0 0,.slice none 0 0] 86/\bH.ownBlock≠some w.heap.size/\Mv (w.heap.size+1) (.slice none 0 0) w wr/\Nx (.slice none 0 0) w bH/\Hid (jZ s=.error (n,a)))
   case atStart=>exact⟨n,a,_,_,_,_,_,_,bH,fZ,rfl,hx,kG,kB,fB,M,X,HE⟩
   case round=>
    clear M X kG kB fB c4 hx HE rM h0;obtain⟨n,a,xa,xk,xc,tN,tO,tQ,bH,fZ,hk,hx,Bp,jD,fB,M,X,HE⟩:=hrel;have h0:((n:Int) == 0)=false:=beq_eq_false_iff_ne.2 (by have:=hx.pos;omega);obtain⟨ii,WW,rM⟩:=hx.blk;have c4:wr.cell? ⟨w.heap.size+1,4,none⟩=some (.int .i64 (n:Int)):=rM.cell 4;have e0:wr.cell? ⟨w.heap.size,0,none⟩=some (.slice none 0 0):=jD.cell 0;have e1:wr.cell? ⟨w.heap.size,1,none⟩=some (.slice none 0 0):=jD.cell 1;have d0:wr.cell? ⟨w.heap.size+1+1,0,none⟩=some (.slice xa xk xc):=Bp.cell 0;have d1:wr.cell? ⟨w.heap.size+1+1,1,none⟩=some (.slice tN tO tQ):=Bp.cell 1;have ff:∀i,wr.frozen? ⟨w.heap.size,i,none⟩=false:=jD.frozen;go_wp2_with fail;refine bodyPost_ret (v:=.tuple #[.agg #[(.slice xa xk xc),(.slice tN tO tQ)],.pointer (some ⟨w.heap.size+1,0,none⟩)]) (by simp[results,results50,go_sem,e0,e1]) rfl ?_;exact bO.no HE.out ((M.new (zL0) _ _).new (zL0) _ _) X ((hx.other _ _ (by omega) fB).other _ _ (by omega) fB) ⟨_,_,_,_,_,_,rfl⟩
end
section
open Go.RowKit
open Lx (Tk)
open Tr
theorem agS(s:ByteArray)(w:World):
  Calls prog 50 #[.string s] w (bO s (w.heap.size+1) 0 (PE w.heap.size (w.heap.size+1)) (PS (w.heap.size+1)) w (.slice none 0 0) (jZ s)):=by
 by_cases h:2000<s.size
 ·exact afJ s w h
 ·exact aeY s w h
def afK(s:ByteArray)(w:World)(e:Ending)(w':World):Prop :=
 ∃vL vR aG,∃n a:Nat,e=.returned (.tuple #[.agg #[vL,vR],.int .i64 (n:Int),.int .i64 (a:Int)])/\Mv (w.heap.size+1+1) (.slice none 0 0) w w' /\
  match jZ s with
  | .ok (g,_)=>n=0/\a=0/\YA w.heap.size aG w' vL vR g
  | .error (m,b)=>n=m/\a=b/\vL=.slice none 0 0/\vR=.slice none 0 0
theorem VQ(s:ByteArray)(w:World):Calls prog 24 #[.string s] w (afK s w):=by
 have hu:(w.alloc (.cells #[.slice none 0 0,.slice none 0 0] 86)).heap.size=w.heap.size+1:=by simp
 have R:=agS s (w.alloc (.cells #[.slice none 0 0,.slice none 0 0] 86));rw[hu]at R;have kB:=aj.new w #[.slice none 0 0,.slice none 0 0] 86;have M0:=(Mv.refl (w.heap.size+1+1) (.slice none 0 0) w).alloc (.cells #[.slice none 0 0,.slice none 0 0] 86);go_enter func24,ntmps24;go_wp2_with fail;refine R.mono ?_;intro e w1 he;cases hr:jZ s with
 |error x=>
  obtain⟨n,a⟩:=x;obtain⟨v1,sg1,sl1,rfl,m1,x1,hx1,xa,xk,xc,tN,tO,tQ,rfl⟩:=he.err hr;have HR:Hid (jZ s=.error (n,a)):=hr;clear hr he R;have kB1:=kB.mv m1 (by omega) (by simp[Value.ownBlock]);have M1:=M0.trans (Nx.refl _ _) m1;obtain⟨ii,WW,rM⟩:=hx1.blk;have lq:=rM.lt;have lB:=kB1.lt;have c4:w1.cell? ⟨w.heap.size+1+1,4,none⟩=some (.int .i64 (n:Int)):=rM.cell 4;have c5:w1.cell? ⟨w.heap.size+1+1,5,none⟩=some (.int .i64 (a:Int)):=rM.cell 5;have h0:((n:Int) == 0)=false:=beq_eq_false_iff_ne.2 (by have:=hx1.pos;omega);have e0:w1.cell? ⟨w.heap.size,0,none⟩=some (.slice none 0 0):=kB1.cell 0;have e1:w1.cell? ⟨w.heap.size,1,none⟩=some (.slice none 0 0):=kB1.cell 1;have ff:∀i,w1.frozen? ⟨w.heap.size,i,none⟩=false:=kB1.frozen;have jD:=((kB1.set 0 (.slice none 0 0)).set 1 (.slice none 0 0)).alloc (.cells #[.slice xa xk xc,.slice tN tO tQ] 86);have y0:(((w1.setCell ⟨w.heap.size,0,none⟩ (.slice none 0 0)).setCell ⟨w.heap.size,1,none⟩ (.slice none 0 0)).alloc (.cells #[.slice xa xk xc,.slice tN tO tQ] 86)).cell? ⟨w.heap.size,0,none⟩=some (.slice none 0 0):=jD.cell 0;have y1:(((w1.setCell ⟨w.heap.size,0,none⟩ (.slice none 0 0)).setCell ⟨w.heap.size,1,none⟩ (.slice none 0 0)).alloc (.cells #[.slice xa xk xc,.slice tN tO tQ] 86)).cell? ⟨w.heap.size,1,none⟩=some (.slice none 0 0):=jD.cell 1;go_wp2_with fail
  go_region
  all_goals
   go_wp2_with fail;refine bodyPost_ret (v:=.tuple #[.agg #[.slice none 0 0,.slice none 0 0],.int .i64 (n:Int),.int .i64 (a:Int)]) (by simp[results,results24,go_sem,y0,y1]) rfl ?_;refine⟨_,_,sg1,n,a,rfl,?_,?_⟩
   ·first
     | exact(((M1.new (zL0) _ _).new (zL0) _ _).alloc _).drew
     | exact(((M1.alloc _).new (zL0) _ _).new (zL0) _ _).drew
     | exact(((M1.alloc _).drew).new (zL0) _ _).new (zL0) _ _
     | exact(((M1.new (zL0) _ _).new (zL0) _ _).drew).alloc _
   ·rw[HR.out];exact⟨rfl,rfl,rfl,rfl⟩
 |ok x=>
  obtain⟨g,ts'⟩:=x;obtain⟨v1,sg1,sl1,rfl,m1,x1,hr1,vL,vR,rfl,hg⟩:=he.ok hr;have HR:Hid (jZ s=.ok (g,ts')):=hr;clear hr he R;obtain⟨la,lk,lc,rfl⟩:=Seq.form hg.1;obtain⟨ra,rk,rc,rfl⟩:=Seq.form hg.2;have kB1:=kB.mv m1 (by omega) (by simp[Value.ownBlock]);have M1:=M0.trans (Nx.refl _ _) m1;have c4:w1.cell? ⟨w.heap.size+1+1,4,none⟩=some (.int .i64 0):=hr1.blk.cell 4;have lq:=hr1.lt;have e0:w1.cell? ⟨w.heap.size,0,none⟩=some (.slice none 0 0):=kB1.cell 0;have e1:w1.cell? ⟨w.heap.size,1,none⟩=some (.slice none 0 0):=kB1.cell 1;have ff:∀i,w1.frozen? ⟨w.heap.size,i,none⟩=false:=kB1.frozen;have lB:w.heap.size<w1.heap.size:=by have:=m1.size;rw[hu]at this;omega
  have jD:=((kB1.set 0 (.slice la lk lc)).set 1 (.slice ra rk rc)).alloc (.cells #[.slice la lk lc,.slice ra rk rc] 86);have z0:(((w1.setCell ⟨w.heap.size,0,none⟩ (.slice la lk lc)).setCell ⟨w.heap.size,1,none⟩ (.slice ra rk rc)).alloc (.cells #[.slice la lk lc,.slice ra rk rc] 86)).cell? ⟨w.heap.size,0,none⟩=some (.slice la lk lc):=jD.cell 0;have z1:(((w1.setCell ⟨w.heap.size,0,none⟩ (.slice la lk lc)).setCell ⟨w.heap.size,1,none⟩ (.slice ra rk rc)).alloc (.cells #[.slice la lk lc,.slice ra rk rc] 86)).cell? ⟨w.heap.size,1,none⟩=some (.slice ra rk rc):=jD.cell 1;go_wp2_with fail;refine bodyPost_ret (v:=.tuple #[.agg #[.slice la lk lc,.slice ra rk rc],.int .i64 0,.int .i64 0]) (by simp[results,results24,go_sem,z0,z1]) rfl ?_;refine⟨_,_,sg1,0,0,rfl,((M1.new (zL0) _ _).new (zL0) _ _).alloc _,?_⟩;rw[HR.out];refine⟨rfl,rfl,?_,?_⟩
  ·refine Seq.move hg.1 (fun b hb=>?_) (fun b hb=>⟨by have:=hb.1;omega,by have:=hb.2.1;simp[World.setCell];omega,hb.2.2⟩) (fun v x hk=>jT _ _ _ _ v x (fun b hb=>?_) (fun b hb=>⟨by have:=hb.1;omega,by have:=hb.2.1;simp[World.setCell];omega,hb.2.2⟩) hk)
   all_goals
    have hbb:b≠w.heap.size:=by have:=hb.1;omega
    rw[Below.heap_alloc _ _ _ (by have:=hb.2.1;simpa [World.setCell]using this),zS0 hbb,zS0 hbb]
  ·refine Seq.move hg.2 (fun b hb=>?_) (fun b hb=>⟨by have:=hb.1;omega,by have:=hb.2.1;simp[World.setCell];omega,hb.2.2⟩) (fun v x hk=>tT YR 9 _ _ _ _ v x (fun b hb=>?_) (fun b hb=>⟨by have:=hb.1;omega,by have:=hb.2.1;simp[World.setCell];omega,hb.2.2⟩) hk)
   all_goals
    have hbb:b≠w.heap.size:=by have:=hb.1;omega
    rw[Below.heap_alloc _ _ _ (by have:=hb.2.1;simpa [World.setCell]using this),zS0 hbb,zS0 hbb]
end
theorem XJ{s:ByteArray}{g:Lx.Gr}{ts:List Lx.Tk}(h:jZ s=.ok (g,ts)):Lx.parse s=.ok g:=by
 unfold jZ at h;unfold Lx.parse
 split at h
 ·cases h
 ·rename_i h1
  rw[if_neg h1,h]
theorem WS{s:ByteArray}{e:Nat×Nat}(h:jZ s=.error e):Lx.parse s=.error e:=by
 unfold jZ at h;unfold Lx.parse
 split at h
 ·rename_i h1;rw[if_pos h1];cases h;rfl
 ·rename_i h1
  rw[if_neg h1,h]
def agT(s:ByteArray)(w:World)(e:Ending)(w':World):Prop :=
 ∃v,∃n a:Nat,e=.returned (.tuple #[v,.int .i64 (n:Int),.int .i64 (a:Int)])/\Below w.heap.size w w'/\(∀g,eZ s=.ok g->n=0/\a=0/\ZT w' v (aD g) (bg g) (bI g) ((aD g).map fun t=>(eT g t).1) ((aD g).map fun t=>(eT g t).2))/\(∀x,eZ s=.error x->n=x.1/\a=x.2/\v=.agg #[.slice none 0 0,.slice none 0 0,.slice none 0 0,.slice none 0 0,.slice none 0 0])
def ajf(s:ByteArray)(w:World)(e:Ending)(w':World):Prop :=
 ∃v,∃n a:Nat,e=.returned (.tuple #[v,.int .i64 (n:Int),.int .i64 (a:Int)])/\Below w.heap.size w w'/\(∀g,eZ s=.ok g->n=0/\a=0/\K6 w.heap.size w' v (aD g) (bg g) (bI g) ((aD g).map fun t=>(eT g t).1) ((aD g).map fun t=>(eT g t).2))/\(∀x,eZ s=.error x->n=x.1/\a=x.2/\v=.agg #[.slice none 0 0,.slice none 0 0,.slice none 0 0,.slice none 0 0,.slice none 0 0])
theorem _root_.Go.RowKit.Below.L9{B:Nat}{a w:World}(h:Below B a w){r:Nat}(hr:B<=r)(x0 x1 x2 x3 x4:Value):Below B a (((((w.setCell ⟨r,0,none⟩ x0).setCell ⟨r,1,none⟩ x1).setCell ⟨r,2,none⟩ x2).setCell ⟨r,3,none⟩ x3).setCell ⟨r,4,none⟩ x4) :=
 ((((h.setCell (p:=⟨r,0,none⟩) hr x0).setCell (p:=⟨r,1,none⟩) hr x1).setCell (p:=⟨r,2,none⟩) hr x2).setCell (p:=⟨r,3,none⟩) hr x3).setCell (p:=⟨r,4,none⟩) hr x4
theorem Eb(w:World)(r:Nat)(x0 x1 x2 x3 x4:Value)(o:Obj)(g:Nat)(hl:g<w.heap.size)(hn:g≠r):((((((w.setCell ⟨r,0,none⟩ x0).setCell ⟨r,1,none⟩ x1).setCell ⟨r,2,none⟩ x2).setCell ⟨r,3,none⟩ x3).setCell ⟨r,4,none⟩ x4).alloc o).heap[g]?=w.heap[g]?:=by
 rw[Below.heap_alloc _ _ _ (by simp[World.setCell];exact hl),zS0 hn,zS0 hn,zS0 hn,zS0 hn,zS0 hn]
theorem ah7{q:Nat}{w w':World}(h:Mv q (.slice none 0 0) w w')(hq:w.heap.size<=q):Below w.heap.size w w':=⟨h.os,h.tape,h.output,h.size,fun k hk=>h.block k hk (by omega) (by simp[Value.ownBlock])⟩
theorem DG.fit{F:Nat->Prop}{w:World}{vL vR:Value}{g:Lx.Gr}(h:DG F w vL vR g){s:ByteArray}(hp:Lx.parse s=.ok g)(hc:(dK g).1=0):Lx.Fit g:=by
 obtain⟨h1,h2,h3⟩:=BL hp;obtain⟨h4,h5⟩:=JU hp;have h6:=XA hc;refine⟨h1,h2,h3,fun r hr=>?_,h4,h5,h6.2,h6.1⟩;obtain⟨i,hi,rfl⟩:=List.mem_iff_getElem.1 hr;obtain⟨_,_,_,-,-,hA,-⟩:=h.rule hi;exact OA hA
theorem aeZ(s:ByteArray)(w:World):Calls prog 15 #[.string s] w (ajf s w):=by
 go_enter func15,ntmps15;go_wp2_with fail;obtain⟨W,hW⟩:∃W,W=w.alloc (.cells #[.slice none 0 0,.slice none 0 0,.slice none 0 0,.slice none 0 0,.slice none 0 0] 54):=⟨_,rfl⟩;rw[<-hW];have kR:aj W w.heap.size #[.slice none 0 0,.slice none 0 0,.slice none 0 0,.slice none 0 0,.slice none 0 0] 54:=by rw[hW];exact aj.new w _ 54
 have hB:Below w.heap.size w W:=by rw[hW];exact(Below.refl _ _).alloc (zL0) _
 have hWs:W.heap.size=w.heap.size+1:=by rw[hW];simp
 clear hW;refine(VQ s W).mono ?_;intro e w1 he;obtain⟨vL,vR,aG,n,a,rfl,hMv,hm⟩:=he;have hb1:=ah7 hMv (by omega);clear hMv;have hs1:=hb1.size;have fM:Below w.heap.size w w1:=hB.trans (hb1.mono (by omega));have nZ:aj w1 w.heap.size _ 54:=(hb1.block _ (by omega)).trans kR;cases hr:jZ s with
 |error x=>
  rw[hr]at hm;obtain⟨m,b⟩:=x;obtain⟨rfl,rfl,rfl,rfl⟩:=hm;have hpe:=WS hr;have hpos:=Ol hpe;have HE:Hid (eZ s=.error (n,a)):=KH hpe;have hnb:((n:Int) == 0)=false:=zB0 (by omega);have hnn:((n:Int) != 0)=true:=bne_iff_ne.2 (by omega);have hnd:¬(n:Int)=0:=by omega
  have r0:w1.cell? ⟨w.heap.size,0,none⟩=some (.slice none 0 0):=nZ.cell 0;have r1:w1.cell? ⟨w.heap.size,1,none⟩=some (.slice none 0 0):=nZ.cell 1;have r2:w1.cell? ⟨w.heap.size,2,none⟩=some (.slice none 0 0):=nZ.cell 2;have r3:w1.cell? ⟨w.heap.size,3,none⟩=some (.slice none 0 0):=nZ.cell 3;have r4:w1.cell? ⟨w.heap.size,4,none⟩=some (.slice none 0 0):=nZ.cell 4;have rf:∀i,w1.frozen? ⟨w.heap.size,i,none⟩=false:=nZ.frozen;have lr:w.heap.size<w1.heap.size:=nZ.lt;clear hr hpe hpos;go_wp2_with fail;have kF:=((((((nZ.set 0 (.slice none 0 0)).set 1 (.slice none 0 0)).set 2 (.slice none 0 0)).set 3 (.slice none 0 0)).set 4 (.slice none 0 0)).alloc (.cells #[.slice none 0 0,.slice none 0 0] 86));have s0:=kF.cell 0;have s1:=kF.cell 1;have s2:=kF.cell 2;have s3:=kF.cell 3;have s4:=kF.cell 4;simp at s0 s1 s2 s3 s4;refine bodyPost_ret (v:=.tuple #[.agg #[.slice none 0 0,.slice none 0 0,.slice none 0 0,.slice none 0 0,.slice none 0 0],.int .i64 (n:Int),.int .i64 (a:Int)]) (by simp[results,results15,go_sem,s0,s1,s2,s3,s4]) rfl ⟨_,n,a,rfl,?_,?_,?_⟩
  ·exact((fM.L9 (zL0) _ _ _ _ _)).alloc (by simp;omega) _
  ·intro g hg;rw[HE.out]at hg;cases hg
  ·intro x hx;rw[HE.out]at hx;cases hx;exact⟨rfl,rfl,rfl⟩
 |ok x=>
  obtain⟨g,ts⟩:=x;rw[hr]at hm;obtain⟨rfl,rfl,hgi⟩:=hm;have hpe:=XJ hr;have hd1:DG (Fp W.heap.size aG w1) w1 vL vR g:=⟨fun b hb=>hb.2.1,hgi.1,hgi.2⟩;clear hr hgi;obtain⟨la,lc,AX,-⟩:=hd1.uh;obtain⟨ra,rc,Rx,-⟩:=hd1.sF;subst AX Rx;have hsz:=(JU hpe).1;have hne:=(BL hpe).2.2;have hlw:=aeW g;have hrl:g.rules.length<=uf g.rules:=zU (fun r:Lx.Rl=>1+iF 9 r.alts) fun _ _=>by omega
  generalize Fp W.heap.size aG w1=F at hd1;have ha1:Below w1.heap.size w1 (w1.alloc (.cells #[.slice la g.levels.length lc,.slice ra g.rules.length rc] 86)):=(Below.refl _ _).alloc (zL0) _;have hq:=aeo (hd1.below ha1) (by omega) (by omega) hne;go_wp2_with fail;refine hq.mono ?_;rintro e w2⟨rfl,hb2⟩;have xC:aj w2 w1.heap.size #[.slice la g.levels.length lc,.slice ra g.rules.length rc] 86:=(hb2.block _ (by simp)).trans (aj.new w1 _ 86);have l7:Below w1.heap.size w1 w2:=ha1.trans (hb2.mono (by simp));have hs2:=l7.size;have hd2:=hd1.below l7;have hbw2:Below w.heap.size w w2:=fM.trans (l7.mono (by omega));have mP:aj w2 w.heap.size _ 54:=(l7.block _ (by omega)).trans nZ;clear hq ha1 hd1;unfold Js
  by_cases hc:(dK g).1=0
  ·have hf:=hd2.fit hpe hc
   have hcb:(((dK g).1:Int) == 0)=true:=by simp[hc]
   have hcn:(((dK g).1:Int) != 0)=false:=by simp[hc]
   have HC:Hid ((dK g).1=0):=hc;clear hc;generalize hce:dK g=cr at hcb hcn;clear hce;have ha2:Below w2.heap.size w2 (w2.alloc (.cells #[.int .i64 (cr.1:Int),.int .i64 (cr.2:Int)] 90)):=(Below.refl _ _).alloc (zL0) _;have hq:=agR (hd2.below ha2) hf;have c20:w2.cell? ⟨w1.heap.size,0,none⟩=some (.slice la g.levels.length lc):=xC.cell 0;have c21:w2.cell? ⟨w1.heap.size,1,none⟩=some (.slice ra g.rules.length rc):=xC.cell 1;have lg2:w1.heap.size<w2.heap.size:=xC.lt;go_wp2_with fail;refine hq.mono ?_;rintro e w3⟨v,rfl,hpl,hb3⟩;have QW:Below w2.heap.size w2 w3:=ha2.trans (hb3.mono (by simp));have hs3:=QW.size;have qJ:Below w.heap.size w w3:=hbw2.trans (QW.mono (by omega));have iy:aj w3 w.heap.size _ 54:=(QW.block _ (by omega)).trans mP;obtain⟨vT,vN,vP,vB,vK,rfl,z2,z3,z4,z5,z6,z7,z8⟩:=hpl;have hbs:w.heap.size<=(w2.alloc (.cells #[.int .i64 (cr.1:Int),.int .i64 (cr.2:Int)] 90)).heap.size:=by simp;omega
   obtain⟨ps,p1,p2,p3⟩:=z4;obtain⟨xQ,xc0,hx0,-⟩:=aF z2;obtain⟨xa1,xR,hx1,-⟩:=aF z3;obtain⟨xS,xU,hx2,hm2⟩:=aF p2;obtain⟨xV,xW,hx3,-⟩:=aF z5;obtain⟨xX,xY,hx4,-⟩:=aF z6;subst hx0 hx1 hx2 hx3 hx4;unfold maxLen at hm2;have r0:w3.cell? ⟨w.heap.size,0,none⟩=some (.slice none 0 0):=iy.cell 0;have r1:w3.cell? ⟨w.heap.size,1,none⟩=some (.slice none 0 0):=iy.cell 1;have r2:w3.cell? ⟨w.heap.size,2,none⟩=some (.slice none 0 0):=iy.cell 2;have r3:w3.cell? ⟨w.heap.size,3,none⟩=some (.slice none 0 0):=iy.cell 3;have r4:w3.cell? ⟨w.heap.size,4,none⟩=some (.slice none 0 0):=iy.cell 4;have rf:∀i,w3.frozen? ⟨w.heap.size,i,none⟩=false:=iy.frozen;have lr:w.heap.size<w3.heap.size:=iy.lt;have nR:∀{e s:Nat}{v:Value}{n:Nat}{xs:List Value},w3.ownsRow 0 e s v n xs->e≠54->∀g,v.ownBlock=some g->g≠w.heap.size:=by
    intro e s v n xs ho he g hg eg;rcases ho.2 with ⟨rfl,-⟩|⟨g',cap,cur,rfl,-,hh,-⟩
    ·cases hg
    ·have e1:g'=g:=Option.some.inj hg
     have SY:w3.heap[w.heap.size]?=some (.cells cur e (0,0)):=by rw[<-eg,<-e1];exact hh
     have rU:=iy;unfold aj at rU;rw[SY]at rU;have e2:=Option.some.inj rU;injection e2 with _ e3
     exact he e3
   by_cases Ca:200<(bI g).length
   ·have HE:Hid (eZ s=.error (8,0)):=Kr hpe HC.out Ca
    go_wp2_with fail;have kF:=((((((iy.set 0 (.slice none 0 0)).set 1 (.slice none 0 0)).set 2 (.slice none 0 0)).set 3 (.slice none 0 0)).set 4 (.slice none 0 0)).alloc (.cells #[.slice xQ (aD g).length xc0,.slice xa1 (bg g).length xR,.slice xS (bI g).length xU,.slice xV ((aD g).map fun t=>(eT g t).1).length xW,.slice xX ((aD g).map fun t=>(eT g t).2).length xY] 54));have s0:=kF.cell 0;have s1:=kF.cell 1;have s2:=kF.cell 2;have s3:=kF.cell 3;have s4:=kF.cell 4;simp at s0 s1 s2 s3 s4;refine bodyPost_ret (v:=.tuple #[.agg #[.slice none 0 0,.slice none 0 0,.slice none 0 0,.slice none 0 0,.slice none 0 0],.int .i64 8,.int .i64 0]) (by simp[results,results15,go_sem,s0,s1,s2,s3,s4]) rfl ⟨_,8,0,rfl,?_,?_,?_⟩
    ·exact((qJ.L9 (zL0) _ _ _ _ _)).alloc (by simp;omega) _
    ·intro g hg;rw[HE.out]at hg;cases hg
    ·intro x hx;rw[HE.out]at hx;cases hx;exact⟨rfl,rfl,rfl⟩
   ·have HE:Hid (eZ s=.ok g):=KW hpe HC.out Ca
    go_wp2_with fail;have kF:=((((((iy.set 0 (.slice xQ (aD g).length xc0)).set 1 (.slice xa1 (bg g).length xR)).set 2 (.slice xS (bI g).length xU)).set 3 (.slice xV ((aD g).map fun t=>(eT g t).1).length xW)).set 4 (.slice xX ((aD g).map fun t=>(eT g t).2).length xY)).alloc (.cells #[.slice xQ (aD g).length xc0,.slice xa1 (bg g).length xR,.slice xS (bI g).length xU,.slice xV ((aD g).map fun t=>(eT g t).1).length xW,.slice xX ((aD g).map fun t=>(eT g t).2).length xY] 54));have s0:=kF.cell 0;have s1:=kF.cell 1;have s2:=kF.cell 2;have s3:=kF.cell 3;have s4:=kF.cell 4;simp at s0 s1 s2 s3 s4;refine bodyPost_ret (v:=.tuple #[.agg #[.slice xQ (aD g).length xc0,.slice xa1 (bg g).length xR,.slice xS (bI g).length xU,.slice xV ((aD g).map fun t=>(eT g t).1).length xW,.slice xX ((aD g).map fun t=>(eT g t).2).length xY],.int .i64 0,.int .i64 0]) (by simp[results,results15,go_sem,s0,s1,s2,s3,s4]) rfl ⟨_,0,0,rfl,?_,?_,?_⟩
    ·exact((qJ.L9 (zL0) _ _ _ _ _)).alloc (by simp;omega) _
    ·intro g' hg
     rw[HE.out]at hg;cases hg;exact⟨rfl,rfl,_,_,_,_,_,rfl,aC z2 fun g hg=>Eb w3 w.heap.size _ _ _ _ _ _ g (z2.lt g hg).2 (nR z2 (by decide) g hg),aC z3 fun g hg=>Eb w3 w.heap.size _ _ _ _ _ _ g (z3.lt g hg).2 (nR z3 (by decide) g hg),⟨ps,p1,aC p2 fun g hg=>Eb w3 w.heap.size _ _ _ _ _ _ g (p2.lt g hg).2 (nR p2 (by decide) g hg),fun q hq=>⟨aC (p3 q hq).1 fun g hg=>Eb w3 w.heap.size _ _ _ _ _ _ g ((p3 q hq).1.lt g hg).2 (nR (p3 q hq).1 (by decide) g hg),fun g hg=>Nat.le_trans hbs ((p3 q hq).2 g hg)⟩⟩,aC z5 fun g hg=>Eb w3 w.heap.size _ _ _ _ _ _ g (z5.lt g hg).2 (nR z5 (by decide) g hg),aC z6 fun g hg=>Eb w3 w.heap.size _ _ _ _ _ _ g (z6.lt g hg).2 (nR z6 (by decide) g hg),fun g hg=>Nat.le_trans hbs (z7 g hg),fun g hg=>Nat.le_trans hbs (z8 g hg)⟩
    ·intro x hx;rw[HE.out]at hx;cases hx
  ·have HE:Hid (eZ s=.error (dK g)):=KJ hpe hc
   have hcb:(((dK g).1:Int) == 0)=false:=zB0 (by omega);have hcn:(((dK g).1:Int) != 0)=true:=bne_iff_ne.2 (by omega);have hcd:¬((dK g).1:Int)=0:=by omega
   clear hc;generalize dK g=cr at HE hcb hcn hcd;have r0:w2.cell? ⟨w.heap.size,0,none⟩=some (.slice none 0 0):=mP.cell 0;have r1:w2.cell? ⟨w.heap.size,1,none⟩=some (.slice none 0 0):=mP.cell 1;have r2:w2.cell? ⟨w.heap.size,2,none⟩=some (.slice none 0 0):=mP.cell 2;have r3:w2.cell? ⟨w.heap.size,3,none⟩=some (.slice none 0 0):=mP.cell 3;have r4:w2.cell? ⟨w.heap.size,4,none⟩=some (.slice none 0 0):=mP.cell 4;have rf:∀i,w2.frozen? ⟨w.heap.size,i,none⟩=false:=mP.frozen;have lr:w.heap.size<w2.heap.size:=mP.lt;go_wp2_with fail
   go_region
   all_goals
    have kF:=((((((mP.set 0 (.slice none 0 0)).set 1 (.slice none 0 0)).set 2 (.slice none 0 0)).set 3 (.slice none 0 0)).set 4 (.slice none 0 0)).alloc (.cells #[.int .i64 (cr.1:Int),.int .i64 (cr.2:Int)] 90)).drew;have s0:=kF.cell 0;have s1:=kF.cell 1;have s2:=kF.cell 2;have s3:=kF.cell 3;have s4:=kF.cell 4;simp at s0 s1 s2 s3 s4;go_wp2_with fail;refine bodyPost_ret (v:=.tuple #[.agg #[.slice none 0 0,.slice none 0 0,.slice none 0 0,.slice none 0 0,.slice none 0 0],.int .i64 (cr.1:Int),.int .i64 (cr.2:Int)]) (by simp[results,results15,go_sem,s0,s1,s2,s3,s4]) rfl ⟨_,cr.1,cr.2,rfl,?_,?_,?_⟩
    ·exact(((hbw2.L9 (zL0) _ _ _ _ _)).alloc (by simp;omega) _).drew
    ·intro g hg;rw[HE.out]at hg;cases hg
    ·intro x hx;rw[HE.out]at hx;cases hx;exact⟨rfl,rfl,rfl⟩
theorem UW(s:ByteArray)(w:World):Calls prog 15 #[.string s] w (agT s w):=by
 refine(aeZ s w).mono ?_;rintro e w'⟨v,n,a,h1,h2,h3,h4⟩;exact⟨v,n,a,h1,h2,fun g hg=>⟨(h3 g hg).1,(h3 g hg).2.1,(h3 g hg).2.2.pl⟩,h4⟩
section
variable {B0:Nat} {w w':World} {v:Value} {nT:Nat} {gs:List Nat} {B:List (List Bool)}
end
theorem Lx.Pp{s:ByteArray}{g:Lx.Gr}(h:eZ s=.ok g):Lx.parse s=.ok g/\(dK g).1=0/\(bI g).length<=200:=by
 cases hp:Lx.parse s with
 |error e=>rw[KH hp]at h;cases h
 |ok g' =>
  by_cases hc:(dK g').1=0
  ·by_cases hm:200<(bI g').length
   ·rw[Kr hp hc hm]at h;cases h
   ·rw[KW hp hc hm]at h;cases h;exact⟨rfl,hc,by omega⟩
  ·rw[KJ hp hc]at h;cases h
theorem YB{s:ByteArray}{g:Lx.Gr}(w:World)(h:eZ s=.ok g):Lx.Fit g:=by
 obtain⟨hp,hc,-⟩:=Pp h;obtain⟨e,w1,-,⟨vL,vR,aG,n,a,-,-,hm⟩,-⟩:=VQ s w [];cases hr:jZ s with
 |error x=>have:=WS hr;rw[hp]at this;cases this
 |ok x=>
  obtain⟨g',ts⟩:=x;rw[hr]at hm;obtain⟨-,-,hgi⟩:=hm;have:=XJ hr;rw[hp]at this;cases this;have hd1:DG (Fp w.heap.size aG w1) w1 vL vR g:=⟨fun b hb=>hb.2.1,hgi.1,hgi.2⟩;exact hd1.fit hp hc
end Go.Proofs.YtjaalkocdbkdeaaGreatDoor
