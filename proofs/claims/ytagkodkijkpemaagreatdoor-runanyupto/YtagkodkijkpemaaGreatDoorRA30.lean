import Derived.Test.YtagkodkijkpemaaGreatDoorRA22
set_option maxHeartbeats 8000000
set_option maxRecDepth 1000000
namespace Go.Proofs.YtagkodkijkpemaaGreatDoor
open Lx Go.Proofs.Tryz
open Go.RowKit
open Tr
section
variable {w:World} {B pb:Nat} {v:fV} {p:Pk.T}
theorem aaN(h:aO w B pb v p){q s:Nat}(hq:q<p.ay.length)(hz:p.ay.getD q 0+s<=1000000000):Calls prog 33 #[.pointer (some ⟨pb,0,none⟩),.int .i64 (q:Int),.int .i64 (s:Int)] w fun e w'=>e=.returned (.agg #[.int .i64 ((Pk.cell p q s).1:Int),.int .i64 ((Pk.cell p q s).2:Int)])/\Below w.heap.size w w':=by
  obtain⟨z,V5⟩:∃z,p.ay[q]?=some z:=⟨_,cF hq⟩;have ez:p.ay.getD q 0=z:=by simp[V5]
  unfold Pk.cell;rw[ez]at hz|-;obtain⟨x,hx⟩:∃x,Pk.BA p (z+s)=x:=⟨_,rfl⟩;obtain⟨w1,t⟩:∃V,V=w.alloc (.cells #[.int .i64 0,.int .i64 0] 42):=⟨_,rfl⟩;have c:Below w.heap.size w w1:=by rw[t];exact(cV _ _).alloc (zL0) _
  have kR:aj w1 w.heap.size #[.int .i64 0,.int .i64 0] 42:=by rw[t];exact aj.new ..
  have h1:aO w1 B pb v p:=h.move fun k F=>c.block k (h.lt F)
  obtain⟨gB,cB,G,-,cz⟩:=Fz h1.rB (p:=q) (u:=bQ z) (by rw[dj,V5];rfl);obtain⟨X,Q,Z,-⟩:=aB h1.rP;have c0:w1.cell? ⟨pb,0,none⟩=some (.slice (some ⟨gB,0,none⟩) p.ay.length cB):=by rw[<-G];exact h1.blk.cell 0
  have c1:w1.cell? ⟨pb,1,none⟩=some (.slice X p.ak.length Q):=by rw[<-Z];exact h1.blk.cell 1
  unfold bQ at cz;have N:Hid (∀J,Below w.heap.size w J->Calls prog 59 #[.slice X p.ak.length Q,.int .i64 ((z:Int)+(s:Int))] J fun e w'=>e=.returned (.agg #[.int .i64 (x.1:Int),.int .i64 (x.2.1:Int),.int .i64 (x.2.2:Int)])/\Below J.heap.size J w'):=fun J i=>by
    have:=ag4 (h.move (W':=J) fun k F=>i.block k (h.lt F)) (z+s);rw[hx,Z,pt]at this;exact this
  rw[hx];obtain⟨o,Y⟩:∃o:Nat×Nat,(if x.2.2=q then (x.1,x.2.1) else (0,0))=o:=⟨_,rfl⟩;rw[Y];have U:Hid (o=if x.2.2=q then (x.1,x.2.1) else (0,0)):=Y.symm;clear Y;have O:pb<w1.heap.size:=h1.blk.lt;have aa:gB<w1.heap.size:=(h1.rB.lt gB (by rw[G];rfl)).2;have R:∀o(g j:Nat)u,g<w1.heap.size->w1.cell? ⟨g,j,none⟩=some u->(w1.alloc o).cell? ⟨g,j,none⟩=some u:=fun o g j u hg e=>(cJ (w:=w1) (di _ _ _ hg)).trans e
  have d0:=fun o=>R o _ _ _ O c0
  have d1:=fun o=>R o _ _ _ O c1
  have dz:=fun o=>R o _ _ _ aa cz
  clear R;have L:w1.heap.size=w.heap.size+1:=by rw[t];simp
  obtain⟨d,m⟩:∃r,w.heap.size=r:=⟨_,rfl⟩;obtain⟨f,M⟩:∃r,w1.heap.size=r:=⟨_,rfl⟩;have S:Hid (Below d w (w1.alloc (.cells #[.int .i64 0,.int .i64 0,.int .i64 0] 138)).drew/\∀w2,Below (w1.alloc (.cells #[.int .i64 0,.int .i64 0,.int .i64 0] 138)).drew.heap.size (w1.alloc (.cells #[.int .i64 0,.int .i64 0,.int .i64 0] 138)).drew w2->aj w2 f #[.int .i64 0,.int .i64 0,.int .i64 0] 138/\aj w2 d #[.int .i64 0,.int .i64 0] 42/\Below d w w2):=by
    have K:Below d w (w1.alloc (.cells #[.int .i64 0,.int .i64 0,.int .i64 0] 138)).drew:=by
      rw[m]at c;have:=c.alloc (by omega) (.cells #[.int .i64 0,.int .i64 0,.int .i64 0] 138);exact⟨this.1,this.2,this.3,this.4,this.5⟩
    have l:aj (w1.alloc (.cells #[.int .i64 0,.int .i64 0,.int .i64 0] 138)).drew f #[.int .i64 0,.int .i64 0,.int .i64 0] 138:=by rw[<-M];exact(aj.new ..).drew
    have kr:aj (w1.alloc (.cells #[.int .i64 0,.int .i64 0,.int .i64 0] 138)).drew d #[.int .i64 0,.int .i64 0] 42:=by rw[<-m];exact(kR.alloc _).drew
    refine⟨K,fun w2 i=>⟨(i.block _ l.lt).trans l,(i.block _ kr.lt).trans kr,i.1.trans K.1,i.2.trans K.2,i.3.trans K.3,dg K.4 i.4,fun k F=>(i.block k (sr F kr.lt)).trans (K.block k F)⟩⟩
  have W:Hid (Below d w w1.drew/\∀w2,Below w1.drew.heap.size w1.drew w2->aj w2 d #[.int .i64 0,.int .i64 0] 42/\Below d w w2/\d<w2.heap.size):=by
    rw[m]at c kR;refine⟨⟨c.1,c.2,c.3,c.4,c.5⟩,fun w2 i=>?_⟩;have kr:aj w2 d #[.int .i64 0,.int .i64 0] 42:=(i.block d kR.lt).trans kR;exact⟨kr,⟨i.1.trans c.1,i.2.trans c.2,i.3.trans c.3,dg c.4 i.4,fun k F=>(i.block k (sr F kR.lt)).trans (c.block k F)⟩,kr.lt⟩
  rw[m]at N|-;have q0:(0:Int)<=(q:Int):=by omega
  have q1:(q:Int)<(p.ay.length:Int):=by omega
  have ew:IntKind.i64.wrap ((z:Int)+(s:Int))=(z:Int)+(s:Int):=by rw[gw];omega
  have HZ:Hid (w1.heap.size=w.heap.size+1):=L;clear h h1 c kR G Z V5 ez hx L;go_enter func33,ntmps33;go_upto_region 1 with fail
  rw[<-t];clear t
  go_region_law (first
    | (refine fP rfl 59 #[.slice X p.ak.length Q,.int .i64 ((z:Int)+(s:Int))] (by go_simp) (N.out _ S.out.1) ?_;rintro e w2⟨rfl,n⟩;refine⟨_,rfl,?_⟩;clear N;obtain⟨l,kr,E⟩:=S.out.2 w2 n;clear S W n;have t0:w2.cell? ⟨f,0,none⟩=some (.int .i64 0):=l.cell 0;have t1:w2.cell? ⟨f,1,none⟩=some (.int .i64 0):=l.cell 1;have t2:w2.cell? ⟨f,2,none⟩=some (.int .i64 0):=l.cell 2;have f0:=l.frozen 0;have f1:=l.frozen 1;have f2:=l.frozen 2)
    | (refine fP rfl 59 #[.slice X p.ak.length Q,.int .i64 ((z:Int)+(s:Int))] (by go_simp) (N.out _ W.out.1) ?_;rintro e w2⟨rfl,n⟩;refine⟨_,rfl,?_⟩;clear N;obtain⟨kr,E,I⟩:=W.out.2 w2 n;clear S W n))
  all_goals
    first
      | (have ab:=I
         have H:aj (w2.alloc (.cells #[.int .i64 (x.1:Int),.int .i64 (x.2.1:Int),.int .i64 (x.2.2:Int)] 138)) w2.heap.size #[.int .i64 (x.1:Int),.int .i64 (x.2.1:Int),.int .i64 (x.2.2:Int)] 138:=aj.new ..;have D:=kr.alloc (.cells #[.int .i64 (x.1:Int),.int .i64 (x.2.1:Int),.int .i64 (x.2.2:Int)] 138);have y:=E.alloc (lh I) (.cells #[.int .i64 (x.1:Int),.int .i64 (x.2.1:Int),.int .i64 (x.2.2:Int)] 138);generalize w2.alloc (.cells #[.int .i64 (x.1:Int),.int .i64 (x.2.1:Int),.int .i64 (x.2.2:Int)] 138)=w3 at H D y|-;clear ab I)
      | (have H:aj (((w2.setCell ⟨f,0,none⟩ (.int .i64 (x.1:Int))).setCell ⟨f,1,none⟩ (.int .i64 (x.2.1:Int))).setCell ⟨f,2,none⟩ (.int .i64 (x.2.2:Int))) f #[.int .i64 (x.1:Int),.int .i64 (x.2.1:Int),.int .i64 (x.2.2:Int)] 138:=((l.set 0 _).set 1 _).set 2 _
         have A:f≠d:=fun e=>by rw[e]at l;unfold aj at l kr;rw[l]at kr;cases kr
         have D:aj (((w2.setCell ⟨f,0,none⟩ (.int .i64 (x.1:Int))).setCell ⟨f,1,none⟩ (.int .i64 (x.2.1:Int))).setCell ⟨f,2,none⟩ (.int .i64 (x.2.2:Int))) d #[.int .i64 0,.int .i64 0] 42:=((kr.other A _).other A _).other A _;have C:d<=f:=by have:=M;have:=m;have:=HZ.out;omega
         have y:Below d w (((w2.setCell ⟨f,0,none⟩ (.int .i64 (x.1:Int))).setCell ⟨f,1,none⟩ (.int .i64 (x.2.1:Int))).setCell ⟨f,2,none⟩ (.int .i64 (x.2.2:Int))):=mq (mq (mq E C) C) C;generalize ((w2.setCell ⟨f,0,none⟩ (.int .i64 (x.1:Int))).setCell ⟨f,1,none⟩ (.int .i64 (x.2.1:Int))).setCell ⟨f,2,none⟩ (.int .i64 (x.2.2:Int))=w3 at H D y|-;clear A C t0 t1 t2 f0 f1 f2 l)
    have y0:w3.cell? ⟨_,0,none⟩=some (.int .i64 (x.1:Int)):=H.cell 0;have y1:w3.cell? ⟨_,1,none⟩=some (.int .i64 (x.2.1:Int)):=H.cell 1;have y2:w3.cell? ⟨_,2,none⟩=some (.int .i64 (x.2.2:Int)):=H.cell 2;have r0:w3.cell? ⟨d,0,none⟩=some (.int .i64 0):=D.cell 0;have r1:w3.cell? ⟨d,1,none⟩=some (.int .i64 0):=D.cell 1;have g0:=D.frozen 0;have g1:=D.frozen 1;have P:Hid (∀a b:Value,aj ((w3.setCell ⟨d,0,none⟩ a).setCell ⟨d,1,none⟩ b) d #[a,b] 42/\Below d w ((w3.setCell ⟨d,0,none⟩ a).setCell ⟨d,1,none⟩ b)):=fun a b=>⟨(D.set 0 a).set 1 b,mq (mq y (zL0)) (zL0)⟩
    clear H D y kr E d0 d1 dz c0 c1 cz
    by_cases PG:x.2.2=q
    · have b1:((x.2.2:Int) == (q:Int))=true:=by rw[PG];exact s8 _
      rw[de PG]at U;clear PG;go_wp2_with fail;exact pz rfl rfl (P.out _ _).1 (by kernel_rfl) (by kernel_rfl) ⟨by rw[U.out],(P.out _ _).2⟩
    · have b1:((x.2.2:Int) == (q:Int))=false:=zB0 (by omega)
      rw[dk PG]at U;go_wp2_with fail;exact pz rfl rfl (P.out _ _).1 (by kernel_rfl) (by kernel_rfl) ⟨by rw[U.out];rfl,(P.out _ _).2⟩
end
end Go.Proofs.YtagkodkijkpemaaGreatDoor
