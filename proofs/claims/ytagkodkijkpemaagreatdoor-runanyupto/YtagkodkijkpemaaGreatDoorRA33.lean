import Derived.Test.YtagkodkijkpemaaGreatDoorRA32
set_option maxHeartbeats 8000000
set_option maxRecDepth 1000000
namespace Go.Proofs.YtagkodkijkpemaaGreatDoor
open Lx Go.Proofs.Tryz
open Go.RowKit
open Tr
section
variable {W0 W W':World} {B B' wb pb:Nat} {rv vL vS x:Value} {s:Rn.S} {v:fV} {p:Pk.T} {row:List Int}
theorem aj6(h:dF W0 B wb pb rv vL vS W s)(hI:Rn.I p row s)(hp:aO W0 B' pb v p)(U:uD p)(hr:oQ W0 rv row)(ae:row.length<=1048576):Calls prog 24 #[.pointer (some ⟨wb,0,none⟩)] W fun e W'=>∃ig rC,e=.returned (.tuple #[.int .i64 ((Rn.work p row (Rn.most row+1-s.steps.length) s).1.1:Int),.int .i64 ((Rn.work p row (Rn.most row+1-s.steps.length) s).1.2:Int)])/\dF W0 B wb pb rv ig rC W' (Rn.work p row (Rn.most row+1-s.steps.length) s).2/\Rn.I p row (Rn.work p row (Rn.most row+1-s.steps.length) s).2:=by
  obtain⟨ra,rc,yh,-,-⟩:=id hr;have c1:W.cell? ⟨wb,1,none⟩=some (.slice ra row.length rc):=by rw[<-yh];exact h.blk.cell 1
  obtain⟨M,V⟩:∃M,Rn.most row=M:=⟨_,rfl⟩;have eM:200*((row.length:Int)+5)=(M:Int):=by rw[<-V];unfold Rn.most;omega
  have ag:M<=300000000:=by rw[<-V];unfold Rn.most;omega
  rw[V];obtain⟨R,m⟩:∃R,Rn.work p row (M+1-s.steps.length) s=R:=⟨_,rfl⟩;rw[m];have H0:Hid (∃b G H,M+1-s.steps.length=M+1-b.steps.length/\dF W0 B wb pb rv G H W b/\Rn.I p row b/\Rn.work p row (M+1-s.steps.length) b=R):=⟨s,vL,vS,rfl,h,hI,m⟩;clear h hI m;go_enter func24,ntmps24;go_wp2_with fail
  go_loopg [] (M+1-s.steps.length) (fun n wr=>Hid (∃b G H,n=M+1-b.steps.length/\dF W0 B wb pb rv G H wr b/\Rn.I p row b/\Rn.work p row n b=R))
  case atStart=>exact H0
  case round=>
    clear H0 c1;obtain⟨b,G,H,hn,h1,d,Z⟩:=hrel.out;clear hrel;have ab:=d.st;rw[V]at ab;obtain⟨k,hk⟩:∃k,gk=k+1:=⟨gk-1,by omega⟩;rw[hk,Rn.work,V]at Z;obtain⟨P,L⟩:∃t,Rn.top b=t:=⟨_,rfl⟩;obtain⟨Q,O⟩:∃t,Rn.ahead row b=t:=⟨_,rfl⟩;obtain⟨c,hc⟩:∃c,Pk.act p (P:Int) Q=c:=⟨_,rfl⟩;rw[L,O,hc]at Z;have D:=Rn.al9 U (P:Int) Q;rw[hc]at D;have Ov:b.pile.length<=1000000000:=by have:=d.pl;omega
    have PK:Hid (∀i,Below wr.heap.size wr i->Calls prog 52 #[.pointer (some ⟨wb,0,none⟩)] i fun e W'=>e=.returned (.int .i64 (P:Int))/\Below i.heap.size i W'):=fun i z=>by rw[<-L];exact Z7 (h1.move z) d.ne d.lo Ov
    have PL:Hid (∀i,Below wr.heap.size wr i->Calls prog 53 #[.pointer (some ⟨wb,0,none⟩)] i fun e W'=>e=.returned (.int .i64 Q)/\Below i.heap.size i W'):=fun i z=>by rw[<-O];exact aiC (h1.move z) hr d.pa
    have PN:Hid (∀i,Below wr.heap.size wr i->Calls prog 15 #[.pointer (some ⟨pb,0,none⟩),.int .i64 (P:Int),.int .i64 Q] i fun e W'=>e=.returned (.agg #[.int .i64 (c.1:Int),.int .i64 (c.2:Int)])/\Below i.heap.size i W'):=fun i z=>by rw[<-hc];exact ahe ((h1.move z).pk hp) U (P:Int) Q
    have lw:wb<wr.heap.size:=h1.blk.lt;have F:Hid (∀i,Below wr.heap.size wr i->i.cell? ⟨wb,0,none⟩=some (.pointer (some ⟨pb,0,none⟩))):=fun i z=>(h1.move z).blk.cell 0
    have E:Below wr.heap.size wr wr.drew:=⟨rfl,rfl,rfl,zL0,fun _ _=>rfl⟩;have dM:Below wr.heap.size wr (wr.alloc (.cells #[.int .i64 0,.int .i64 0] 42)).drew:=by
      have:=(cV wr.heap.size wr).alloc (zL0) (.cells #[.int .i64 0,.int .i64 0] 42);exact⟨this.1,this.2,this.3,this.4,this.5⟩
    have c0:wr.cell? ⟨wb,0,none⟩=some (.pointer (some ⟨pb,0,none⟩)):=h1.blk.cell 0;have cA:(wr.alloc (.cells #[.int .i64 0,.int .i64 0] 42)).cell? ⟨wb,0,none⟩=some (.pointer (some ⟨pb,0,none⟩)):=F.out (wr.alloc (.cells #[.int .i64 0,.int .i64 0] 42)) ((cV wr.heap.size wr).alloc (zL0) (.cells #[.int .i64 0,.int .i64 0] 42));have HK:Hid (aj (wr.alloc (.cells #[.int .i64 0,.int .i64 0] 42)).drew wr.heap.size #[.int .i64 0,.int .i64 0] 42):=(aj.new ..).drew;have HM:Hid (dF W0 B wb pb rv G H wr b/\Rn.I p row b):=⟨h1,d⟩;have J:Hid (_=R):=Z;have HN:Hid (gk=M+1-b.steps.length/\gk=k+1):=⟨hn,hk⟩;clear h1 d L O hc Z hn hk;go_upto_region 2 with fail
    go_region_law (first
      | (refine fP rfl 52 #[.pointer (some ⟨wb,0,none⟩)] (by go_simp) (PK.out _ dM) ?_;rintro e w2⟨rfl,u⟩;refine⟨_,rfl,?_⟩;clear PK;have kt:=(u.block _ HK.out.lt).trans HK.out;have a:Below wr.heap.size wr w2:=dM.trans (u.mono dM.size);have c2:=F.out _ a;clear u)
      | (refine fP rfl 52 #[.pointer (some ⟨wb,0,none⟩)] (by go_simp) (PK.out _ E) ?_;rintro e w2⟨rfl,u⟩;refine⟨_,rfl,?_⟩;clear PK;have a:Below wr.heap.size wr w2:=E.trans (u.mono E.size);have c2:=F.out _ a;have Ow:Below wr.heap.size wr (w2.alloc (.cells #[.int .i64 0,.int .i64 0] 42)):=a.alloc a.size (.cells #[.int .i64 0,.int .i64 0] 42);have ad:=F.out _ Ow;clear u)
      | (refine fP rfl 53 #[.pointer (some ⟨wb,0,none⟩)] (by go_simp) (PL.out _ a) ?_;rintro e y⟨rfl,q⟩;refine⟨_,rfl,?_⟩;clear PL;have C:Below wr.heap.size wr y:=a.trans (q.mono a.size);have c3:=F.out _ C;(first | (have V6:=(q.block _ (aj.lt kt)).trans kt) | (have Ox:Below wr.heap.size wr (y.alloc (.cells #[.int .i64 0,.int .i64 0] 42)):=C.alloc C.size (.cells #[.int .i64 0,.int .i64 0] 42);have af:=F.out _ Ox));clear q)
      | (refine fP rfl 53 #[.pointer (some ⟨wb,0,none⟩)] (by go_simp) (PL.out _ Ow) ?_;rintro e y⟨rfl,q⟩;refine⟨_,rfl,?_⟩;clear PL;have C:Below wr.heap.size wr y:=Ow.trans (q.mono Ow.size);have c3:=F.out _ C;have V6:aj y w2.heap.size #[.int .i64 0,.int .i64 0] 42:=(q.block _ (aj.new ..).lt).trans (aj.new ..);clear q)
      | (refine fP rfl 15 #[.pointer (some ⟨pb,0,none⟩),.int .i64 (P:Int),.int .i64 Q] (by go_simp) (PN.out _ C) ?_;rintro e g⟨rfl,r⟩;refine⟨_,rfl,?_⟩;clear PN;have N:Below wr.heap.size wr g:=C.trans (r.mono C.size);(first | (have A:aj g _ #[.int .i64 0,.int .i64 0] 42:=(r.block _ (aj.lt V6)).trans V6;have t0:g.cell? ⟨_,0,none⟩=some (.int .i64 0):=A.cell 0;have t1:g.cell? ⟨_,1,none⟩=some (.int .i64 0):=A.cell 1;have f0:=A.frozen 0;have f1:=A.frozen 1) | skip);clear r)
      | (refine fP rfl 15 #[.pointer (some ⟨pb,0,none⟩),.int .i64 (P:Int),.int .i64 Q] (by go_simp) (PN.out _ Ox) ?_;rintro e g⟨rfl,r⟩;refine⟨_,rfl,?_⟩;clear PN;have N:Below wr.heap.size wr g:=Ox.trans (r.mono Ox.size);have A:aj g y.heap.size #[.int .i64 0,.int .i64 0] 42:=(r.block _ (aj.new ..).lt).trans (aj.new ..);have t0:g.cell? ⟨_,0,none⟩=some (.int .i64 0):=A.cell 0;have t1:g.cell? ⟨_,1,none⟩=some (.int .i64 0):=A.cell 1;have f0:=A.frozen 0;have f1:=A.frozen 1;clear r))
    all_goals first
      | (have o:aj (g.alloc (.cells #[.int .i64 (c.1:Int),.int .i64 (c.2:Int)] 42)) g.heap.size #[.int .i64 (c.1:Int),.int .i64 (c.2:Int)] 42:=aj.new ..
         have f:Below wr.heap.size wr (g.alloc (.cells #[.int .i64 (c.1:Int),.int .i64 (c.2:Int)] 42)):=N.alloc N.size _;generalize g.alloc (.cells #[.int .i64 (c.1:Int),.int .i64 (c.2:Int)] 42)=w5 at o f|-
         change (Exit.then _ _) Exit.normal _ w5)
      | (have o:aj ((g.setCell ⟨wr.heap.size,0,none⟩ (.int .i64 (c.1:Int))).setCell ⟨wr.heap.size,1,none⟩ (.int .i64 (c.2:Int))) wr.heap.size #[.int .i64 (c.1:Int),.int .i64 (c.2:Int)] 42:=(A.set 0 _).set 1 _
         have f:Below wr.heap.size wr ((g.setCell ⟨wr.heap.size,0,none⟩ (.int .i64 (c.1:Int))).setCell ⟨wr.heap.size,1,none⟩ (.int .i64 (c.2:Int))):=mq (mq N (zL0)) (zL0);generalize (g.setCell ⟨wr.heap.size,0,none⟩ (.int .i64 (c.1:Int))).setCell ⟨wr.heap.size,1,none⟩ (.int .i64 (c.2:Int))=w5 at o f|-
         change (Exit.then _ _) Exit.normal _ w5)
      | (have o:aj ((g.setCell ⟨w2.heap.size,0,none⟩ (.int .i64 (c.1:Int))).setCell ⟨w2.heap.size,1,none⟩ (.int .i64 (c.2:Int))) w2.heap.size #[.int .i64 (c.1:Int),.int .i64 (c.2:Int)] 42:=(A.set 0 _).set 1 _
         have f:Below wr.heap.size wr ((g.setCell ⟨w2.heap.size,0,none⟩ (.int .i64 (c.1:Int))).setCell ⟨w2.heap.size,1,none⟩ (.int .i64 (c.2:Int))):=mq (mq N a.size) a.size;generalize (g.setCell ⟨w2.heap.size,0,none⟩ (.int .i64 (c.1:Int))).setCell ⟨w2.heap.size,1,none⟩ (.int .i64 (c.2:Int))=w5 at o f|-
         change (Exit.then _ _) Exit.normal _ w5)
      | (have o:aj ((g.setCell ⟨y.heap.size,0,none⟩ (.int .i64 (c.1:Int))).setCell ⟨y.heap.size,1,none⟩ (.int .i64 (c.2:Int))) y.heap.size #[.int .i64 (c.1:Int),.int .i64 (c.2:Int)] 42:=(A.set 0 _).set 1 _
         have f:Below wr.heap.size wr ((g.setCell ⟨y.heap.size,0,none⟩ (.int .i64 (c.1:Int))).setCell ⟨y.heap.size,1,none⟩ (.int .i64 (c.2:Int))):=mq (mq N C.size) C.size;generalize (g.setCell ⟨y.heap.size,0,none⟩ (.int .i64 (c.1:Int))).setCell ⟨y.heap.size,1,none⟩ (.int .i64 (c.2:Int))=w5 at o f|-
         change (Exit.then _ _) Exit.normal _ w5)
    all_goals
      clear c0 cA F E dM HK a C N;obtain⟨h1,d⟩:=HM.out;have K:=h1.move f;obtain⟨sa,sc,pq,-⟩:=aB K.rS;have y0:w5.cell? ⟨_,0,none⟩=some (.int .i64 (c.1:Int)):=o.cell 0;have y1:w5.cell? ⟨_,1,none⟩=some (.int .i64 (c.2:Int)):=o.cell 1
      by_cases h3:c.1=3
      · have b1:((c.1:Int) == 3)=true:=by rw[h3];rfl
        have m:R=((0,0),b):=by rw[<-J.out,de h3]
        clear h3 J o h1 f;go_wp2_with fail
        go_ret2
        exact⟨G,H,by rw[m];rfl,by rw[m];exact K,by rw[m];exact d⟩
      · have b1:((c.1:Int) == 3)=false:=zB0 (by omega)
        have X:=alp K hr hp c;cases hu:Rn.can p row b c with
        |false=>
          rw[hu]at X;have m:R=((11,b.passed),b):=by rw[<-J.out,dk h3,de hu]
          clear J o h1 f;go_upto_region 6 with (go_at_call 54;refine X.mono ?_;rintro e l⟨rfl,j⟩)
          have h6:=K.move j;have c2:l.cell? ⟨wb,2,none⟩=some (.int .i64 (b.passed:Int)):=h6.blk.cell 2
          go_quiet (fail)
          go_wp2_with fail
          go_ret2
          exact⟨G,H,by rw[m];rfl,by rw[m];exact h6.move ⟨rfl,rfl,rfl,zL0,fun _ _=>rfl⟩,by rw[m];exact d⟩
        |true=>
          rw[hu]at X;have Y:Hid (∀l,Below w5.heap.size w5 l->l.cell? ⟨wb,4,none⟩=some (.slice sa b.steps.length sc)/\l.cell? ⟨_,0,none⟩=some (.int .i64 (c.1:Int))/\l.cell? ⟨_,1,none⟩=some (.int .i64 (c.2:Int))):=fun l z=>by
            have k6:aj l _ #[.int .i64 (c.1:Int),.int .i64 (c.2:Int)] 42:=(z.block _ o.lt).trans o;exact⟨by rw[<-pq];exact(K.move z).blk.cell 4,k6.cell 0,k6.cell 1⟩
          by_cases Le:b.steps.length=M
          · have b2:((b.steps.length:Int) == (M:Int))=true:=by rw[Le];exact s8 _
            have m:R=((12,0),b):=by rw[<-J.out,dk h3,dk (by rw[hu];simp),de Le]
            clear J o h1 f Le;go_upto_region 7 with (go_at_call 54;refine X.mono ?_;rintro e l⟨rfl,j⟩)
            obtain⟨d4,d0,d1⟩:=Y.out l j;have h6:=K.move j;clear Y j;go_wp2_with fail
            go_ret2
            exact⟨G,H,by rw[m];rfl,by rw[m];exact h6,by rw[m];exact d⟩
          · have b2:((b.steps.length:Int) == (M:Int))=false:=zB0 (by omega)
            have m:Rn.work p row k (Rn.step p b c)=R:=by rw[<-J.out,dk h3,dk (by rw[hu];simp),dk Le]
            have aa:=d.stepped U hu D.1 D.2 (by rw[V];exact Le);have ac:(Rn.step p b c).steps.length=b.steps.length+1:=by unfold Rn.step;split <;> simp[Rn.shift,Rn.reduce]
            have PO:∀l,Below w5.heap.size w5 l->_:=fun l z=>aj5 (K.move z) hp U (c:=c) (fun _=>D.1) (fun e1=>by
              unfold Rn.can at hu;rw[dk e1]at hu
              by_cases e2:c.1=2
              · rw[de e2,ii]at hu
                have:=D.2 e2;have:=U.p0.2;exact⟨hu,by omega⟩
              · rw[dk e2]at hu
                cases hu) (Rn.abO U) d.lo (by have:=d.pa;omega) ⟨Ov,by omega⟩
            have HQ:Hid (∀l,Below w5.heap.size w5 l->_):=PO;clear J o h1 f PO;go_upto_region 7 with (go_at_call 54;refine X.mono ?_;rintro e l⟨rfl,j⟩)
            obtain⟨d4,d0,d1⟩:=Y.out l j;have PO:=HQ.out l j;clear Y j HQ
            go_wp2_with (go_at_call 55;refine PO.mono ?_;rintro e w7⟨rfl,ig,rC,h7⟩)
            go_roundg k
            case measure=>have:=HN.out;omega
            case rel=>exact⟨Rn.step p b c,ig,rC,by rw[ac];have:=HN.out;omega,h7,aa,m⟩
end
end Go.Proofs.YtagkodkijkpemaaGreatDoor
