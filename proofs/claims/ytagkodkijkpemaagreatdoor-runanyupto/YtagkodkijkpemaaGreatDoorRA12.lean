import Derived.Test.YtagkodkijkpemaaGreatDoorRA09
import Derived.Deep.RegionWith
import Derived.Deep.CutRange
set_option maxHeartbeats 8000000
set_option maxRecDepth 1000000
namespace Go.Proofs.YtagkodkijkpemaaGreatDoor
open Lx Go.Proofs.Tryz
open Go.RowKit
open Tr
namespace Lx
def Jt(nx:ByteArray):Nat:=if nx=lZ then 1 else 2
def BM(aH:ByteArray)(il:Bool):Nat:=if il=true then 0 else if aH=jT then 4 else 3
theorem WF.at:∀{l:List Tk},WF l->∀{j:Nat}(h:j<l.length),l[j].1≠aT->j+1<l.length
 | [],h,_,_,_=>h.elim
 | [t],h,0,_,hn=>absurd h hn
 | [t],_,j+1,h,_=>by simp at h
 |t::u::r,_,0,_,_=>by simp
 |t::u::r,h,j+1,hj,hn=>by
  have:=WF.at (l:=u::r) h.2 (j:=j) (by simpa using hj) (by simpa using hn);simp at this|-;omega
end Lx
theorem wrap64{n:Nat}(h:n<=9223372036854775807):IntKind.i64.wrap (n:Int)=(n:Int):=by
 simp[IntKind.wrap,IntKind.bits,IntKind.signed];omega
theorem afm(a:ByteArray)(w:World):Calls prog 73 #[.string a] w fun e w'=>e=.returned (.int .i64 (Jt a:Int))/\w'=w:=by
 go_enter func73,ntmps73
 by_cases h:a=lZ
 ·have b:Jt a=1:=de h
  rw[b];have c:a=⟨#[61]⟩:=h;clear h b;go_wp2_with fail;go_ret;exact⟨rfl,rfl⟩
 ·have b:Jt a=2:=dk h
  rw[b];have c:(a.toList == [61])=false:=zR h;clear h b;go_wp2_with fail;go_ret;exact⟨rfl,rfl⟩
theorem aeW(aH:ByteArray)(b:Bool)(w:World):Calls prog 75 #[.string aH,.bool b] w fun e w'=>e=.returned (.int .i64 (BM aH b:Int))/\w'=w:=by
 go_enter func75,ntmps75;cases b with
 |true=>
  have a:BM aH true=0:=rfl;rw[a];clear a;go_wp2_with fail;go_ret;exact⟨rfl,rfl⟩
 |false=>
  by_cases h:aH=jT
  ·have a:BM aH false=4:=by unfold BM;rw[dk (by decide),de h]
   rw[a];have c:aH=⟨#[37,112,114,101,99]⟩:=h;clear h a;go_wp2_with fail;go_ret;exact⟨rfl,rfl⟩
  ·have a:BM aH false=3:=by unfold BM;rw[dk (by decide),dk h]
   rw[a];have c:(aH.toList == [37,112,114,101,99])=false:=zR h;clear h a;go_wp2_with fail;go_ret;exact⟨rfl,rfl⟩
theorem Tryz.akS:(prog.info? 190).map (fun i=>(i.zero,i.size,i.bytes))=some (some (.agg #[.int .i64 0,.string ByteArray.empty,.int .i64 0]),3,32):=by kernel_rfl
theorem Tryz.Xi:prog.underlying 108=some (.slice 190):=by kernel_rfl
def acf(s:ByteArray)(w:World)(e:Ending)(w':World):Prop:=∃v,e=.returned v/\w'.ownsRow w.heap.size 190 3 v (Lx.wl aT true (Lx.lex s)).length ((Lx.wl aT true (Lx.lex s)).flatMap tV)/\Below w.heap.size w w'
theorem afW(s:ByteArray)(w:World)(hs:s.size<=2000):Calls prog 42 #[.string s] w (acf s w):=by
 obtain⟨i0,hi,T,Q,W⟩:=fd Tryz.akS;have ab:=Lx.lex_wf s;have hsz:∀t∈Lx.lex s,t.1.size<=2000:=fun t ht=>dg (ab8 s t ht) hs
 have ak:(Lx.lex s).length<=2001:=by have:=Mr s (iT s 0 false);unfold Lx.lex;omega
 have q0:=aa6 s w hs;unfold acf;generalize Lx.lex s=L at *;go_enter func42,ntmps42;go_wp2_with fail;refine q0.mono ?_;rintro e w1⟨v,rfl,hL,Y⟩;obtain⟨va,vc,rfl,-⟩:=aB hL;clear q0;have P:=Y.size;have H0:Hid (Lx.wl aT true L=[]++Lx.wl aT true (L.drop 0)):=rfl;go_wp2_with fail
 go_loopg [3,5,6,13] L.length (fun k v vb vl i wr=>∃(j:Nat)(d:List Lx.Wd)(I:ByteArray)(n:Bool),j+k=L.length/\d.length<=j/\vb=.string I/\vl=.bool n/\i=.int .i64 j/\wr.ownsRow w1.heap.size 190 3 v d.length (d.flatMap tV)/\Below w1.heap.size w1 wr/\Hid (Lx.wl aT true L=d++Lx.wl I n (L.drop j)))
 case atStart=>exact⟨0,[],aT,true,by omega,by simp,rfl,rfl,rfl,eE _ _ _ _,cV _ _,H0⟩
 case round=>
  clear H0;obtain⟨j,d,I,n,z,ai,rfl,rfl,rfl,G,r,HD⟩:=hrel;have aa:=r.size
  by_cases hlt:j<L.length
  ·have h1:=own_below hL r
   obtain⟨g,al,af,-,hg⟩:=h1.form (by omega);cases af;have ah:g<w1.heap.size:=(hL.lt g rfl).2;have ht:L[j]?=some L[j]:=cF hlt;obtain⟨e1,e2⟩:=QA L j _ ht;have c1:wr.cell? ⟨g,j*2,none⟩=some (.string L[j].1):=(h1.cellAt (j*2) (by omega)).trans e1;have c2:wr.cell? ⟨g,j*2+1,none⟩=some (.int .i64 (L[j].2:Int)):=(h1.cellAt (j*2+1) (by omega)).trans e2;have u:=hsz L[j] (dy hlt);have m:Lx.isName L[j].1=true->j+1<L.length/\(qm L)[(j+1)*2]?=some (.string (Lx.hd (L.drop (j+1)))):=fun x=>by
    have B:=Lx.WF.at ab hlt (Bv (by decide) x);have:=(QA L (j+1) _ (cF B)).1;rw[this,eL B];exact⟨B,rfl⟩
   have S:L.drop j=L[j]::L.drop (j+1):=eL hlt;have hd:=HD.out;rw[S,Lx.wl]at hd;generalize L[j]=t at c1 c2 u m hd;clear e1 e2 ht S HD;obtain⟨a,f⟩:=t;simp only at c1 c2 u m hd;generalize Lx.hd (L.drop (j+1))=nx at m hd;obtain⟨c,q⟩:∃c,c=wr.alloc (.cells #[.string a,.int .i64 (f:Int)] 185):=⟨_,rfl⟩;have D:Below wr.heap.size wr c:=by rw[q];exact(cV _ _).alloc (zL0) _
   have zk:c.heap.size=wr.heap.size+1:=by rw[q];simp
   have kS:aj c wr.heap.size #[.string a,.int .i64 (f:Int)] 185:=by rw[q];exact aj.new wr _ 185
   have q1:=Df a c u;have q2:=L8 a c u;have s0:c.cell? ⟨wr.heap.size,0,none⟩=some (.string a):=kS.cell 0;have s1:c.cell? ⟨wr.heap.size,1,none⟩=some (.int .i64 (f:Int)):=kS.cell 1;have o:Below w1.heap.size w1 c:=r.trans (D.mono aa);have Gm:=own_below G D;obtain⟨O,K,rfl,-⟩:=aB G;go_wp2_with fail;rw[<-q];clear c1 c2 q;refine q1.mono ?_;rintro e w2⟨rfl,H⟩;obtain rfl:=H.symm;cases x:Lx.isName a with
   |true=>
     obtain⟨y,Z⟩:=m x;have M:Hid (Lx.wl aT true L=(d++[(Jt nx,a,f)])++Lx.wl a false (L.drop (j+1))):=by
      rw[show yO n (a,f)=false from de x]at hd;show _=_;rw[hd,dq];unfold qU;rw[de (by exact x)];rfl
     have ac:c.heap[g]?=wr.heap[g]?:=D.block g hg;have cn:c.cell? ⟨g,(j+1)*2,none⟩=some (.string nx):=(cJ (w:=wr) ac).trans ((h1.cellAt ((j+1)*2) (by omega)).trans Z);have R:=afm nx c.drew;obtain⟨N,am,ag,U⟩:∃N:Nat,IntKind.i64.wrap ((j:Int)+1)=(N:Int)/\N<L.length/\Hid (N=j+1):=⟨j+1,by rw[show ((j:Int)+1)=((j+1:Nat):Int) from by omega];exact wrap64 (by omega),y,rfl⟩;rw[<-U.out]at cn M;clear y;generalize Jt nx=ro at R M;clear Z;have U8:=aC (w':=(c.alloc (.cells #[.int .i64 (ro:Int),.string a,.int .i64 (f:Int)] 190)).drew) (Gm.alloc (.cells #[.int .i64 (ro:Int),.string a,.int .i64 (f:Int)] 190)) fun _ _=>rfl
     have U9:aj (c.alloc (.cells #[.int .i64 (ro:Int),.string a,.int .i64 (f:Int)] 190)).drew wr.heap.size #[.string a,.int .i64 (f:Int)] 185:=(kS.alloc _).drew;have p:Below w1.heap.size w1 (c.alloc (.cells #[.int .i64 (ro:Int),.string a,.int .i64 (f:Int)] 190)).drew:=(o.alloc o.size _).drew;have F:(Value.slice O d.length K).ownBlock≠some wr.heap.size:=fun e=>by have:=(G.lt _ e).2;omega
     have C:∀k,(Value.slice O d.length K).ownBlock=some k->w1.heap.size<=k:=fun k z=>(G.lt _ z).1
     clear hd m q1 q2;go_wp2_with fail
     go_region_law (first | (refine fP rfl 73 #[.string nx] (by go_simp) R ?_;rintro e A⟨rfl,rfl⟩;refine⟨_,rfl,?_⟩) | (refine step_append_lies _ rfl (.tmp 22) (.tmp 35) 108 rfl w1.heap.size 190 i0 _ 3 32 Tryz.Xi hi T Q W rfl (by decide) (.slice O d.length K) d.length (d.flatMap tV) (by simp[Act.eval]) U8 ⟨c.heap.size,0,none⟩ 1 1 [.int .i64 (ro:Int),.string a,.int .i64 (f:Int)] (by simp[Act.eval]) rfl (dI (aj.new c _ 190).drew) (by simp[Value.oneCell']) (by decide) (by unfold maxLen;omega) (by omega) (by simp;omega) _ rfl ?_;intro g2 X A l b ae V;have Va:=U9.grown b (fun e=>F e.symm);have ad:A.cell? ⟨wr.heap.size,0,none⟩=some (.string a):=Va.cell 0))
     all_goals
      have E:Below w1.heap.size w1 A:=p.grown b p.size (fun k z=>C k z);go_wp2_with fail;go_roundg (L.length-N)
      case measure=>have:=U.out;omega
      case rel=>exact⟨N,d++[(ro,a,f)],a,false,by have:=U.out;omega,by have:=U.out;simp;omega,rfl,rfl,by first | rfl | (rw[U.out];go_num),by simpa [tV]using l,E,M⟩
   |false=>
    go_wp2_with fail;refine q2.mono ?_;rintro e w2⟨rfl,H⟩;obtain rfl:=H.symm;cases htk:Lx.isToken a with
    |true=>
     have M:Hid (Lx.wl aT true L=(d++[(BM I n,a,f)])++Lx.wl a n (L.drop (j+1))):=by
      rw[Dq x]at hd;show _=_;rw[hd,dq];unfold qU;rw[dk (by simp[x]),de htk];rfl
     have R:=aeW I n c.drew;generalize BM I n=ro at R M;have U8:=aC (w':=(c.alloc (.cells #[.int .i64 (ro:Int),.string a,.int .i64 (f:Int)] 190)).drew) (Gm.alloc (.cells #[.int .i64 (ro:Int),.string a,.int .i64 (f:Int)] 190)) fun _ _=>rfl
     have U9:aj (c.alloc (.cells #[.int .i64 (ro:Int),.string a,.int .i64 (f:Int)] 190)).drew wr.heap.size #[.string a,.int .i64 (f:Int)] 185:=(kS.alloc _).drew;have p:Below w1.heap.size w1 (c.alloc (.cells #[.int .i64 (ro:Int),.string a,.int .i64 (f:Int)] 190)).drew:=(o.alloc o.size _).drew;have F:(Value.slice O d.length K).ownBlock≠some wr.heap.size:=fun e=>by have:=(G.lt _ e).2;omega
     have C:∀k,(Value.slice O d.length K).ownBlock=some k->w1.heap.size<=k:=fun k z=>(G.lt _ z).1
     clear hd m q1 q2;go_wp2_with fail
     go_region_law (first | (refine fP rfl 75 #[.string I,.bool n] (by go_simp) R ?_;rintro e A⟨rfl,rfl⟩;refine⟨_,rfl,?_⟩) | (refine step_append_lies _ rfl (.tmp 41) (.tmp 50) 108 rfl w1.heap.size 190 i0 _ 3 32 Tryz.Xi hi T Q W rfl (by decide) (.slice O d.length K) d.length (d.flatMap tV) (by simp[Act.eval]) U8 ⟨c.heap.size,0,none⟩ 1 1 [.int .i64 (ro:Int),.string a,.int .i64 (f:Int)] (by simp[Act.eval]) rfl (dI (aj.new c _ 190).drew) (by simp[Value.oneCell']) (by decide) (by unfold maxLen;omega) (by omega) (by simp;omega) _ rfl ?_;intro g2 X A l b ae V;have Va:=U9.grown b (fun e=>F e.symm);have ad:A.cell? ⟨wr.heap.size,0,none⟩=some (.string a):=Va.cell 0))
     all_goals
      have E:Below w1.heap.size w1 A:=p.grown b p.size (fun k z=>C k z);go_wp2_with fail;go_roundg (L.length - (j+1))
      case measure=>omega
      case rel=>exact⟨j+1,d++[(ro,a,f)],a,n,by omega,by simp;omega,rfl,rfl,by go_num,by simpa [tV]using l,E,M⟩
    |false=>
     have J:Hid (Lx.wl aT true L=d++Lx.wl a n (L.drop (j+1))):=by
      rw[Tj x htk,Dq x,go]at hd;exact hd
     clear hd m q1 q2;go_wp2_with fail;go_roundg (L.length - (j+1))
     case measure=>omega
     case rel=>exact⟨j+1,d,a,n,by omega,by omega,rfl,rfl,by go_num,Gm,o,J⟩
  ·have:j=L.length:=by omega
   subst this;have hd:=HD.out;rw[g8,Lx.wl,eN]at hd;have J:Hid _:=hd;clear hd;go_wp2_with fail;go_ret;exact⟨_,rfl,by rw[J.out];exact jc G P,Y.trans (r.mono P)⟩
end Go.Proofs.YtagkodkijkpemaaGreatDoor
