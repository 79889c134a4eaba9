import Derived.Test.YtagkodkijkpemaaGreatDoorQA14
import Derived.BigGuardPart
import Derived.ProofKit
import Derived.Lay
set_option maxHeartbeats 8000000
set_option maxRecDepth 1000000
namespace Go.Proofs.YtagkodkijkpemaaGreatDoor
open Lx Go.Proofs.Tryz
open Go.RowKit Tr
theorem ane(w:World):(binOp BinOp.neq 42 (.agg #[.int .i64 0,.int .i64 0]) (.agg #[.int .i64 0,.int .i64 0])).run prog w=.ok (.bool false) w:=by kernel_rfl
structure Ik(a b c d:Nat)(q n:Int)(x1 x2 g l k:Nat):Prop where
 x:Pk.L8 a d (x1,x2)
 xo:(q<0\/(a:Int)<=q\/n<0\/(b:Int)<=n)->x1=0/\x2=0
 gl:g<a
 go:(q<0\/(a:Int)<=q\/n<0\/(c:Int)<=n)->g=0
 lo:(q<0\/(d:Int)<=q)->l=0/\k=0
 li:¬(q<0\/(d:Int)<=q)->b<=l/\l<b+c/\k<=1000
theorem Ik.of{p:Pk.T}(h:uI p)(q n:Int):Ik p.aH.length p.toks.length p.aN.length p.prods.length q n (Pk.act p q n).1 (Pk.act p q n).2 (Pk.goto p q n) (Pk.jR p q).1 (Pk.jR p q).2 :=
 ⟨Pk.anc h q n,fun a=>by rw[Pk.amF a];exact⟨rfl,rfl⟩,Pk.amG h q n,Pk.alf,fun a=>by rw[Pk.alg a];exact⟨rfl,rfl⟩,fun b=>Pk.amH h (by omega) (by omega)⟩
theorem alj{W:World}{B pb:Nat}{v:gG}{p:Pk.T}{rv:Value}{row:List Int}(h:aT W B pb v p)(A:uI p)(hr:Eh W rv row)(ah:row.length<=1048576):Calls prog 7 #[.pointer (some ⟨pb,0,none⟩),rv] W fun e w'=>e=.returned (.bool true)/\Below W.heap.size W w':=by
 have zB:=aaP h;obtain⟨ra,rc,rfl,ae,aa⟩:=hr;have V:Hid (∀wr,Below W.heap.size W wr->aT wr B pb v p):=fun wr f=>h.move fun k hk=>f.block k (h.lt hk)
 have y:Hid (∀wr,Below W.heap.size W wr->∀t(ht:t<row.length),∃g o,ra=some ⟨g,o,none⟩/\wr.cell? ⟨g,o+t,none⟩=some (.int .i64 row[t])):=fun wr f t ht=>by
  obtain⟨g,o,e,hg,Z⟩:=aa t ht;exact⟨g,o,e,(cM (w:=W) (f.block g hg)).trans Z⟩
 have HF:=Ik.of A;have C:Hid (∀wr,Below W.heap.size W wr->∀q:Int,(q<0\/(p.toks.length:Int)<=q)->Calls prog 18 #[.pointer (some ⟨pb,0,none⟩),.int .i64 q] wr fun e w'=>e=.returned (.string ByteArray.empty)/\Below wr.heap.size wr w'):=fun wr f q S=>by
  have:=aaW (V.out wr f) q;rw[Pk.aaX S]at this;exact this
 have u:Hid (∀wr,Below W.heap.size W wr->∀q:Int,(q<0\/(p.aN.length:Int)<=q)->Calls prog 19 #[.pointer (some ⟨pb,0,none⟩),.int .i64 q] wr fun e w'=>e=.returned (.string ByteArray.empty)/\Below wr.heap.size wr w'):=fun wr f q S=>by
  have:=ale (V.out wr f) q;rw[Pk.aaX S]at this;exact this
 have a0:1<=p.aH.length:=by rw[A.dl];exact A.bd.s0
 have a1:p.aH.length<=300:=by rw[A.dl];exact A.bd.s1
 have t0:=A.t0;have t1:=A.bd.t1;have n0:=A.n0;have n1:=A.bd.n1;obtain⟨p0,p1⟩:=A.p0;have H3:Hid (∀wr,Below W.heap.size W wr->∀q n:Int,Calls prog 15 #[.pointer (some ⟨pb,0,none⟩),.int .i64 q,.int .i64 n] wr (fun e w'=>e=.returned (.agg #[.int .i64 ((Pk.act p q n).1:Int),.int .i64 ((Pk.act p q n).2:Int)])/\Below wr.heap.size wr w')/\Calls prog 16 #[.pointer (some ⟨pb,0,none⟩),.int .i64 q,.int .i64 n] wr (fun e w'=>e=.returned (.int .i64 (Pk.goto p q n:Int))/\Below wr.heap.size wr w')/\Calls prog 17 #[.pointer (some ⟨pb,0,none⟩),.int .i64 q] wr (fun e w'=>e=.returned (.tuple #[.int .i64 ((Pk.jR p q).1:Int),.int .i64 ((Pk.jR p q).2:Int)])/\Below wr.heap.size wr w')):=fun wr f q n=>⟨ZJ (V.out wr f) A q n,akV (V.out wr f) A q n,akU (V.out wr f) q⟩
 obtain⟨a,ha⟩:∃a,p.aH.length=a:=⟨_,rfl⟩;obtain⟨b,f⟩:∃a,p.toks.length=a:=⟨_,rfl⟩;obtain⟨c,Z⟩:∃a,p.aN.length=a:=⟨_,rfl⟩;obtain⟨d,hd⟩:∃a,p.prods.length=a:=⟨_,rfl⟩;rw[ha,f,Z,hd]at zB HF;rw[f]at C t0 t1;rw[Z]at u n0 n1;rw[ha]at a0 a1;rw[hd]at p0 p1;have uh:Hid (∀q n,Ik a b c d q n (Pk.act p q n).1 (Pk.act p q n).2 (Pk.goto p q n) (Pk.jR p q).1 (Pk.jR p q).2):=HF;obtain⟨N,hN⟩:∃N,row.length=N:=⟨_,rfl⟩;have j:Hid (row.length=N):=hN;rw[hN]at ah|-;have b1:decide ((a:Int)<1)=false:=eE (by omega);have b2:decide ((b:Int)<1)=false:=eE (by omega);have b3:decide ((c:Int)<1)=false:=eE (by omega);have b4:decide ((d:Int)<1)=false:=eE (by omega);have b5:decide ((300:Int)<(a:Int))=false:=eE (by omega);have b6:decide ((1000:Int)<(b:Int))=false:=eE (by omega);have b7:decide ((1000:Int)<(c:Int))=false:=eE (by omega);have b8:decide ((200:Int)<(d:Int))=false:=eE (by omega);clear h A aa ae V HF ha f Z hd hN;go_enter func7,ntmps7;go_upto_region 5 with (go_at_call 14;refine zB.mono ?_;rintro e w1⟨rfl,ab⟩)
 clear zB b1 b2 b3 b4 b5 b6 b7 b8;have U:Hid (Below W.heap.size W w1):=ab;clear ab
 go_loopg [9] N (fun g s9 m=>∃i:Nat,i<=N/\g=N-i/\s9=.int .i64 (i:Int)/\Hid (Below W.heap.size W m))
 case atStart=>exact⟨0,by omega,by omega,rfl,U⟩
 case round=>
  clear U;obtain⟨i,hi,rfl,rfl,U⟩:=hrel
  by_cases hin:i+1<N
  ·have i1:(i:Int)+1<(N:Int):=by omega
   have i2:decide ((i:Int)+1<(N:Int))=true:=fi i1;have i3:(i:Int)<(N:Int):=by omega
   have E:=U.out;obtain⟨g,o,rfl,c1⟩:=y.out wr E i (by rw[j.out];omega);obtain⟨g',o',e',c2⟩:=y.out wr E (i+1) (by rw[j.out];omega);cases e';obtain⟨q,S⟩:∃q,row[i]'(by rw[j.out];omega)=q:=⟨_,rfl⟩;obtain⟨n,hn⟩:∃n,row[i+1]'(by rw[j.out];omega)=n:=⟨_,rfl⟩;rw[S]at c1;rw[hn]at c2;clear S hn;obtain⟨yu,-,-⟩:=H3.out wr E q n;have hF:=uh.out q n;generalize (Pk.act p q n).1=x1 at yu hF;generalize (Pk.act p q n).2=x2 at yu hF;clear U;have L:Hid (Below W.heap.size W wr):=E;have PL:Hid (Ik a b c d q n x1 x2 (Pk.goto p q n) (Pk.jR p q).1 (Pk.jR p q).2):=hF;clear E hF uh;go_upto_region 10 with (go_at_call 15;refine yu.mono ?_;rintro e w2⟨rfl,I⟩)
   have R:=I.alloc I.size (.cells #[.int .i64 (x1:Int),.int .i64 (x2:Int)] 42);have Y:aj (w2.alloc (.cells #[.int .i64 (x1:Int),.int .i64 (x2:Int)] 42)) w2.heap.size #[.int .i64 (x1:Int),.int .i64 (x2:Int)] 42:=aj.new ..;generalize w2.alloc (.cells #[.int .i64 (x1:Int),.int .i64 (x2:Int)] 42)=w3 at Y R|-;generalize w2.heap.size=bt at Y|-;have sj:=L.out.trans (R.mono L.out.size);obtain⟨-,K,-⟩:=H3.out w3 sj q n;have L9:=PL.out;generalize Pk.goto p q n=gt at K L9;clear yu I R c1 c2 PL L;go_upto_region 11 with (go_at_call 16;refine K.mono ?_;rintro e w4⟨rfl,M⟩)
   have xP:=sj.trans (M.mono sj.size);obtain⟨-,-,QC⟩:=H3.out w4 xP q n;have XC:aj w4 bt #[.int .i64 (x1:Int),.int .i64 (x2:Int)] 42:=(M.block _ Y.lt).trans Y;generalize (Pk.jR p q).1=l at QC L9;generalize (Pk.jR p q).2=k at QC L9;clear K Y M sj;go_upto_region 12 with (go_at_call 17;refine QC.mono ?_;rintro e r⟨rfl,P⟩)
   have D:Hid (Below W.heap.size W r):=xP.trans (P.mono xP.size);have F:aj r bt #[.int .i64 (x1:Int),.int .i64 (x2:Int)] 42:=(P.block _ XC.lt).trans XC;have X:Hid (aj r bt #[.int .i64 (x1:Int),.int .i64 (x2:Int)] 42):=F;have s:Hid (Ik a b c d q n x1 x2 gt l k):=L9;clear QC P xP XC F L9 H3
   go_cut [98] (fun ad m=>(∃z:Bool,ad=.bool z/\(z=true↔(q<0\/(a:Int)<=q\/n<0\/(b:Int)<=n)))/\r=m)
   case first=>
    as_aux_lemma=>
     clear C u y j D X s;go_wp2_with fail
     all_goals go_meet
     all_goals exact⟨⟨_,rfl,by simp;omega⟩,rfl⟩
   case rest=>
    obtain⟨⟨z,rfl,Ma⟩,rfl⟩:=hcut;have G:Hid (z=true↔(q<0\/(a:Int)<=q\/n<0\/(b:Int)<=n)):=Ma;clear Ma
    go_upto_if 98 with fail
    go_cut [] (fun m=>r=m)
    case first=>
     cases z with
     |true=>
      as_aux_lemma=>
       obtain⟨rfl,rfl⟩:=s.out.xo (G.out.1 rfl);have F:=X.out;have y0:r.cell? ⟨bt,0,none⟩=some (.int .i64 0):=F.cell 0;have y1:r.cell? ⟨bt,1,none⟩=some (.int .i64 0):=F.cell 1;have an:=ane;clear F C u y j D X s G;go_wp2_with fail
       go_meet
       exact rfl
     |false=>
      have F:=X.out;have y0:r.cell? ⟨bt,0,none⟩=some (.int .i64 (x1:Int)):=F.cell 0;have y1:r.cell? ⟨bt,1,none⟩=some (.int .i64 (x2:Int)):=F.cell 1;have hx:=s.out.x;clear F X G s C u y j D;unfold Pk.L8 at hx;simp only at hx;rcases hx with ⟨rfl,rfl⟩|⟨rfl,x3,x4⟩|⟨rfl,x3,x4⟩|⟨rfl,rfl⟩|⟨rfl,rfl⟩
      ·as_aux_lemma=>
        go_wp2_with fail
        go_meet
        exact rfl
      ·as_aux_lemma=>
        have f1:(1:Int)<=(x2:Int):=by omega
        have f2:(x2:Int)<(a:Int):=by omega
        go_wp2_with fail
        all_goals first
         | (exfalso;omega)
         | (go_meet;exact rfl)
      ·as_aux_lemma=>
        have f1:(1:Int)<=(x2:Int):=by omega
        have f2:(x2:Int)<(d:Int):=by omega
        go_wp2_with fail
        all_goals first
         | (exfalso;omega)
         | (go_meet;exact rfl)
      ·as_aux_lemma=>
        go_wp2_with fail
        go_meet
        exact rfl
      ·as_aux_lemma=>
        go_wp2_with fail
        go_meet
        exact rfl
    case rest=>
     obtain rfl:=hcut;clear X G z;go_upto_region 17 with fail
     go_cut [185] (fun ai m=>ai=.bool false/\r=m)
     case first=>
      as_aux_lemma=>
       have al:=s.out.gl;have J:=s.out.go;clear C u y j D s;have ao:(0:Int)<=(gt:Int):=by omega
       have am:(gt:Int)<(a:Int):=by omega
       by_cases ho:q<0\/(a:Int)<=q\/n<0\/(c:Int)<=n
       ·obtain rfl:=J ho
        clear J;have HO:Hid (q<0\/(a:Int)<=q\/n<0\/(c:Int)<=n):=ho;clear ho;go_wp2_with fail
        all_goals first
         | (exfalso;omega)
         | (go_meet;exact⟨rfl,rfl⟩)
       ·clear J
        have o1:(0:Int)<=q:=by omega
        have o2:q<(a:Int):=by omega
        have o3:(0:Int)<=n:=by omega
        have o4:n<(c:Int):=by omega
        clear ho;go_wp2_with fail
        all_goals first
         | (exfalso;omega)
         | (go_meet;exact⟨rfl,rfl⟩)
         | (go_meet;exact⟨by simp;omega,rfl⟩)
     case rest=>
      obtain⟨rfl,rfl⟩:=hcut;go_upto_region 19 with fail
      go_cut [192] (fun ak m=>(∃z:Bool,ak=.bool z/\(z=true↔(q<0\/(d:Int)<=q)))/\r=m)
      case first=>
       as_aux_lemma=>
        clear C u y j D s;go_wp2_with fail
        all_goals go_meet
        all_goals exact⟨⟨_,rfl,by simp;omega⟩,rfl⟩
      case rest=>
       obtain⟨⟨z,rfl,Ma⟩,rfl⟩:=hcut;have G:Hid (z=true↔(q<0\/(d:Int)<=q)):=Ma;clear Ma
       go_upto_if 192 with fail
       go_cut [] (fun m=>r=m)
       case first=>
        cases z with
        |true=>
         as_aux_lemma=>
          obtain⟨rfl,rfl⟩:=s.out.lo (G.out.1 rfl);clear C u y j D s G;go_wp2_with fail
          go_meet
          exact rfl
        |false=>
         as_aux_lemma=>
          obtain⟨l1,l2,l3⟩:=s.out.li fun e=>by
           have:=G.out.2 e;cases this
          clear C u y j D s G;have m1:(b:Int)<=(l:Int):=by omega
          have m2:(l:Int)<(b:Int)+(c:Int):=by omega
          have m3:(0:Int)<=(k:Int):=by omega
          have m4:(k:Int)<=1000:=by omega
          go_wp2_with fail
          all_goals first
           | (exfalso;omega)
           | (go_meet;exact rfl)
       case rest=>
        obtain rfl:=hcut;clear G z s;go_upto_region 24 with fail
        go_cut [229] (fun ac m=>ac=.bool false/\Hid (Below W.heap.size W m))
        case first=>
         as_aux_lemma=>
          by_cases ho:q<0\/(b:Int)<=q
          ·have QD:=C.out r D.out q ho
           clear C u y j;have O:=D.out;clear D;have HQ:Hid (∀H,Below r.heap.size r H->Below W.heap.size W H):=fun H f=>O.trans (f.mono O.size)
           clear O;have HO:Hid (q<0\/(b:Int)<=q):=ho;clear ho
           go_wp2_with (go_at_call 18;refine QD.mono ?_;rintro e H⟨rfl,Q⟩)
           all_goals first
            | (exfalso;have:=HO.out;omega)
            | (go_meet;exact⟨rfl,HQ.out _ Q⟩)
          ·have o1:(0:Int)<=q:=by omega
           have o2:q<(b:Int):=by omega
           clear ho C u y j;go_wp2_with fail
           all_goals first
            | (exfalso;omega)
            | (go_meet;exact⟨rfl,D⟩)
        case rest=>
         obtain⟨rfl,Mc⟩:=hcut;clear D C;go_upto_region 26 with fail
         go_cut [242] (fun ag m=>ag=.bool false/\Hid (Below W.heap.size W m))
         case first=>
          as_aux_lemma=>
           by_cases ho:q<0\/(c:Int)<=q
           ·have af:=u.out wc Mc.out q ho
            clear u y j;have O:=Mc.out;clear Mc;have HQ:Hid (∀H,Below wc.heap.size wc H->Below W.heap.size W H):=fun H f=>O.trans (f.mono O.size)
            clear O;have HO:Hid (q<0\/(c:Int)<=q):=ho;clear ho
            go_wp2_with (go_at_call 19;refine af.mono ?_;rintro e H⟨rfl,Q⟩)
            all_goals first
             | (exfalso;have:=HO.out;omega)
             | (go_meet;exact⟨rfl,HQ.out _ Q⟩)
           ·have o1:(0:Int)<=q:=by omega
            have o2:q<(c:Int):=by omega
            clear ho u y j;go_wp2_with fail
            all_goals first
             | (exfalso;omega)
             | (go_meet;exact⟨rfl,Mc⟩)
         case rest=>
          obtain⟨rfl,Qh⟩:=hcut;clear Mc u y j;go_wp2_with fail;go_roundg (N - (i+1))
          case measure=>omega
          case rel=>exact⟨i+1,by omega,rfl,by go_num,Qh⟩
  ·have i1:¬(i:Int)+1<(N:Int):=by omega
   have i2:decide ((i:Int)+1<(N:Int))=false:=eE i1;go_wp2_with fail;go_ret;exact⟨rfl,U.out⟩
theorem anf(w:World):(binOp BinOp.eql 42 (.agg #[.int .i64 1,.int .i64 1]) (.agg #[.int .i64 1,.int .i64 1])).run prog w=.ok (.bool true) w:=by kernel_rfl
theorem anF:(Pk.pack nZ).aH.length=4/\(Pk.pack nZ).toks.length=2/\(Pk.pack nZ).aN.length=2/\(Pk.pack nZ).prods.length=3/\Pk.uS (Pk.pack nZ).toks 1=⟨#[65]⟩/\Pk.act (Pk.pack nZ) 0 1=(1,1):=by decide +kernel
theorem ail{W:World}(r:pE W)(F:mD W)(h1:1<W.heap.size)(t:∀W',Below W.heap.size W W'->dM W')(m:∀W',Below W.heap.size W W'->TabAt 2 Lib.deBruijn64tab W'):Calls prog 9 #[] W fun e w'=>e=.returned (.bool true)/\Below W.heap.size W w':=by
 have q:=ali r F h1 t m;unfold Bp at q;have H:=fun w x=>abQ (w:=w) x
 have O:=anf;have n:Hid (∀w1,Below W.heap.size W w1->Calls prog 5 #[.string nZ] w1 fun e w'=>∃a B v,e=.returned (.tuple #[.pointer (some ⟨a,0,none⟩),.int .i64 0])/\Below W.heap.size W w'/\aT w' B a v (Pk.pack nZ)):=fun w1 c=>(abG w1 (r.move (c.block 0 (by omega))) (dd (by omega) c.size) nZ (by decide)).mono (by
  rintro e w'(⟨h,-⟩|⟨-,a,v,rfl,b,d,-⟩)
  ·rw[anz]at h
   cases h
  ·exact⟨a,_,v,rfl,c.trans (b.mono c.size),d⟩)
 have o:Hid (∀w1 a B v,Below W.heap.size W w1->aT w1 B a v (Pk.pack nZ)->Calls prog 14 #[.pointer (some ⟨a,0,none⟩)] w1 (fun e w'=>e=.returned (.tuple #[.int .i64 4,.int .i64 2,.int .i64 2,.int .i64 3])/\Below W.heap.size W w'/\aT w' B a v (Pk.pack nZ))/\Calls prog 18 #[.pointer (some ⟨a,0,none⟩),.int .i64 1] w1 (fun e w'=>e=.returned (.string ⟨#[65]⟩)/\Below W.heap.size W w'/\aT w' B a v (Pk.pack nZ))/\Calls prog 15 #[.pointer (some ⟨a,0,none⟩),.int .i64 0,.int .i64 1] w1 (fun e w'=>e=.returned (.agg #[.int .i64 1,.int .i64 1])/\Below W.heap.size W w'/\aT w' B a v (Pk.pack nZ))):=fun w1 a B v c d=>by
  have f:∀{w'},Below w1.heap.size w1 w'->Below W.heap.size W w'/\aT w' B a v (Pk.pack nZ):=fun h=>⟨c.trans (h.mono c.size),d.move fun k f=>h.block k (d.lt f)⟩
  obtain⟨K,M,J,I,L,G⟩:=anF;refine⟨(aaP d).mono ?_,(aaW d 1).mono ?_,(ZJ d (Pk.good nZ) 0 1).mono ?_⟩
  ·rintro e w'⟨rfl,h⟩
   exact⟨by rw[K,M,J,I];rfl,f h⟩
  ·rintro e w'⟨rfl,h⟩
   exact⟨by rw[L],f h⟩
  ·rintro e w'⟨rfl,h⟩
   exact⟨by rw[G];rfl,f h⟩
 clear r F h1 t m;generalize Pk.pack nZ=p at n o;generalize nZ=bb at q n;go_enter func9,ntmps9;go_upto_region 2 with (go_at_call 8;refine q.mono ?_;rintro e w1⟨rfl,i⟩)
 have A:=n.out w1 i;clear n q;go_upto_region 3 with (go_at_call 5;refine A.mono ?_;rintro e w2⟨a,B,v,rfl,b,j⟩;clear A)
 have D:=(o.out w2 a B v b j).1;clear j i b;go_upto_region 6 with (first
  | (go_at_call 6;refine(H _ _).mono ?_;rintro e u⟨rfl,rfl⟩)
  | (go_at_call 14;refine D.mono ?_;rintro e u⟨rfl,g,C⟩;clear D))
 have y:=(o.out u a B v g C).2.1;clear C g
 go_wp2_with (first
  | (go_at_call 18;refine y.mono ?_;rintro e N⟨rfl,l,E⟩;clear y;have z:=(o.out N a B v l E).2.2;clear E l)
  | (go_at_call 15;refine z.mono ?_;rintro e P⟨rfl,s,-⟩;clear z))
 go_ret;exact⟨rfl,s⟩
def Dl(wx:World)(s11 s12:Value):Prop:=(s11=.pointer none/\s12=.int .i64 10)\/∃pb,s11=.pointer (some ⟨pb,0,none⟩)/\s12=.int .i64 0/\Hid (∃B v p,aT wx B pb v p/\uI p)
theorem aha{W:World}{b y ins:ByteArray}{F:Int}{rv:Value}{row:List Int}(T:pE W)(hO:mD W)(h1:1<W.heap.size)(Y:∀W',Below W.heap.size W W'->dM W')(J:∀W',Below W.heap.size W W'->TabAt 2 Lib.deBruijn64tab W')(g:b.size<=1048576)(ht:y.size<=1048576)(hi:ins.size<=1048576)(hr:Eh W rv row)(P:row.length<=1048576):Calls prog 3 #[.string b,.string y,.int .i64 F,.string ins,rv] W fun e w'=>e=.returned (.bool true)/\Below W.heap.size W w':=by
 have u:Hid (∀w1 x,Below W.heap.size W w1->x.size<=1000000000->Calls prog 5 #[.string x] w1 fun e w'=>∃s n,e=.returned (.tuple #[s,n])/\Dl w' s n/\Below W.heap.size W w'):=fun w1 x g hx=>(abG w1 (T.move (g.block 0 (by omega))) (dd (by omega) g.size) x (by omega)).mono (by
  rintro e w'(⟨-,rfl,o⟩|⟨-,C,v,rfl,o,hM,-⟩)
  ·exact⟨_,_,rfl,.inl ⟨rfl,rfl⟩,g.trans (o.mono g.size)⟩
  ·exact⟨_,_,rfl,.inr ⟨C,rfl,rfl,⟨_,v,_,hM,Pk.good x⟩⟩,g.trans (o.mono g.size)⟩)
 have l:Hid (∀w1 C,Below W.heap.size W w1->(∃B v p,aT w1 B C v p/\uI p)->Calls prog 7 #[.pointer (some ⟨C,0,none⟩),rv] w1 fun e w'=>e=.returned (.bool true)/\Below W.heap.size W w'):=fun w1 C g⟨B,v,p,hM,hG⟩=>(alj hM hG (hr.below g) P).mono (by
  rintro e w'⟨rfl,o⟩;exact⟨rfl,g.trans (o.mono g.size)⟩)
 have K:Hid (∀w1,Below W.heap.size W w1->Calls prog 8 #[.string y] w1 fun e w'=>∃(c:ByteArray)(n a:Nat),e=.returned (.tuple #[.string c,.int .i64 (n:Int),.int .i64 (a:Int)])/\c.size<=200000000/\Below W.heap.size W w'):=fun w1 g=>(ajD (T.move (g.block 0 (by omega))) (hO.keep g) (dd h1 g.size) (fun W' h=>Y W' (g.trans (h.mono g.size))) (fun W' h=>J W' (g.trans (h.mono g.size))) (s:=y) (by unfold maxLen;omega)).mono (by
  rintro e w'⟨c,n,a,rfl,R,o⟩;exact⟨c,n,a,rfl,R,g.trans (o.mono g.size)⟩)
 have r:Hid (∀w1,Below W.heap.size W w1->Calls prog 9 #[] w1 fun e w'=>e=.returned (.bool true)/\Below W.heap.size W w'):=fun w1 g=>(ail (T.move (g.block 0 (by omega))) (hO.keep g) (dd h1 g.size) (fun W' h=>Y W' (g.trans (h.mono g.size))) (fun W' h=>J W' (g.trans (h.mono g.size)))).mono (by
  rintro e w'⟨rfl,o⟩;exact⟨rfl,g.trans (o.mono g.size)⟩)
 have O:=fun w x=>abQ (w:=w) x
 obtain⟨ra,rc,rfl,-⟩:=hr;obtain⟨nr,M⟩:∃n,row.length=n:=⟨_,rfl⟩;rw[M]at l|-;have HW:Hid (Below W.heap.size W W):=cV _ _;have N:=u.out W b HW.out (by omega);clear T hO h1 Y J g ht M P;go_enter func3,ntmps3;go_upto_region 1 with fail
 go_cut [11,12] (fun D E j=>Dl j D E/\Hid (Below W.heap.size W j))
 case first=>
  go_wp2_with (go_at_call 5;refine N.mono ?_;rintro e w1⟨s,m,rfl,t,I⟩)
  go_meet
  exact⟨t,I⟩
 case rest=>
  obtain⟨t,f⟩:=hcut;clear N HW;have q:Hid (Dl wc u11 u12):=t;clear t;go_upto_region 2 with fail
  go_cut [40] (fun XD j=>XD=.bool false/\wc=j)
  case first=>
   rcases q.out with ⟨rfl,rfl⟩|⟨C,rfl,rfl,-⟩
   ·clear q u l K r f
    go_wp2_with (go_at_call 6;refine(O _ _).mono ?_;rintro e L⟨rfl,rfl⟩)
    go_meet
    exact⟨rfl,rfl⟩
   ·clear q u l K r f
    go_wp2_with (go_at_call 6;refine(O _ _).mono ?_;rintro e L⟨rfl,rfl⟩)
    go_meet
    exact⟨rfl,rfl⟩
  case rest=>
   obtain⟨rfl,rfl⟩:=hcut;go_upto_region 4 with fail
   go_cut [48] (fun XE j=>XE=.bool false/\Hid (Below W.heap.size W j))
   case first=>
    rcases q.out with ⟨rfl,rfl⟩|⟨C,rfl,rfl,H⟩
    ·clear q u l K r
     go_wp2_with fail
     go_meet
     exact⟨rfl,f⟩
    ·have Q:=l.out wc C f.out H.out
     clear q u l K r H
     go_wp2_with (go_at_call 7;refine Q.mono ?_;rintro e L⟨rfl,G⟩)
     go_meet
     exact⟨rfl,G⟩
   case rest=>
    clear q f;obtain⟨rfl,f⟩:=hcut;revert wc;intro w4 f;go_upto_region 6 with fail
    have q8:=K.out w4 f.out
    go_cut [13] (fun Z j=>(∃c:ByteArray,Z=.string c/\Hid (c.size<=200000000))/\Hid (Below W.heap.size W j))
    case first=>
     clear u l K r
     go_wp2_with (go_at_call 8;refine q8.mono ?_;rintro e U⟨c,n,a,rfl,R,ab⟩)
     go_meet
     exact⟨⟨c,rfl,R⟩,ab⟩
    case rest=>
     clear f q8 K;obtain⟨⟨c,rfl,V⟩,f⟩:=hcut;revert wc;intro U f;go_upto_region 7 with fail
     go_cut [62] (fun ac j=>(∃z:Bool,ac=.bool z/\(z=true->0<=F/\F<=(c.size:Int)))/\U=j)
     case first=>
      clear u l r f;go_wp2_with fail
      all_goals go_meet
      all_goals exact⟨⟨_,rfl,by simp;try omega⟩,rfl⟩
     case rest=>
      obtain⟨⟨z,rfl,hz⟩,rfl⟩:=hcut;have HZ:Hid (z=true->0<=F/\F<=(c.size:Int)):=hz;clear hz
      go_upto_if 62 with fail
      go_cut [] (fun j=>Hid (Below W.heap.size W j))
      case first=>
       cases z with
       |false=>
        clear u l r;go_wp2_with fail
        go_meet
        exact f
       |true=>
        obtain⟨z1,z2⟩:=HZ.out rfl;clear HZ;have R:=V.out;obtain⟨A,hA⟩:=tP z1;subst hA;have z3:A<=c.size:=by omega
        clear z1 z2 V;go_upto_region 8 with fail
        go_cut [16] (fun aa j=>(∃en:Nat,aa=.int .i64 (en:Int)/\en<=c.size)/\U=j)
        case first=>
         clear u l r f;go_wp2_with fail
         go_meet
         exact⟨⟨min (A+ins.size) c.size,fb (Value.int .i64) (by omega),by omega⟩,rfl⟩
        case rest=>
         obtain⟨⟨en,rfl,z4⟩,rfl⟩:=hcut;have z5:(A:Int)<=(c.size:Int):=by omega
         have z6:(en:Int)<=(c.size:Int):=by omega
         have z7:(0:Int)<=(A:Int):=by omega
         have z8:(0:Int)<=(en:Int):=by omega
         have QX:Hid (∀k,Calls prog 5 #[.string (c.extract 0 A++ins++c.extract en c.size)] (U.drewN k) fun e w'=>∃s n,e=.returned (.tuple #[s,n])/\Dl w' s n/\Below W.heap.size W w'):=fun k=>u.out _ _ ⟨f.out.1,f.out.2,f.out.3,f.out.4,f.out.5⟩ (by
          rw[rK,rK,rm,rm];omega)
         have z9:c.size<=maxLen:=by unfold maxLen;omega
         go_upto_region 9 with fail
         go_cut [17,18] (fun D E j=>Dl j D E/\Hid (Below W.heap.size W j))
         case first=>
          clear u l r f O;refine(sq (n:=9)).1 ?_;refine qp 9 (by kernel_rfl) (by kernel_rfl) (by kernel_rfl) ?_
          dsimp only[List.take,List.drop,List.length]
          repeat (gi_big_quiet_step (fail))
          refine wpQuietIn_nil ?_;rintro _⟨K9,rfl⟩;refine wpAnyIn_ready (rs:=[9]) (by kernel_rfl) (by simp) (AllReadyIn.cons rfl (fun i d=>?_) AllReadyIn.nil)
          go_simp
          refine⟨trivial,(ij.2 (QX.out _)).mono ?_⟩;rintro e w8⟨s,m,rfl,t,X⟩;refine d _ _ ?_;clear d i;refine wpAnyIn_ready (rs:=[10]) (by kernel_rfl) (by simp) (AllReadyIn.cons rfl (fun i d=>?_) AllReadyIn.nil)
          go_simp
          refine d _ _ ?_;clear d i;refine xw 11 12 (by kernel_rfl) rfl rfl (fun i d=>?_) (fun i d=>?_)
          ·go_simp
           refine d _ _ ?_;clear d i;refine xw 12 13 (by kernel_rfl) rfl rfl (fun i d=>?_) (fun i d=>?_)
           ·go_simp
            refine d _ _ ?_;clear d i;refine oC 13 (by kernel_rfl) rfl (fun i d=>?_)
            go_simp
            refine d _ _ ?_;clear d i;refine oC 14 (by kernel_rfl) rfl (fun i d=>?_)
            go_simp
            refine d _ _ (wpAnyIn_done (by kernel_rfl) ?_ _);clear d i;go_wp2_with fail
            go_meet
            exact⟨t,X⟩
           ·go_simp
            refine d _ _ ?_;clear d i;refine oC 12 (by kernel_rfl) rfl (fun i d=>?_)
            go_simp
            refine d _ _ ?_;clear d i;refine oC 14 (by kernel_rfl) rfl (fun i d=>?_)
            go_simp
            refine d _ _ (wpAnyIn_done (by kernel_rfl) ?_ _);clear d i;go_wp2_with fail
            go_meet
            exact⟨t,X⟩
          ·go_simp
           refine d _ _ ?_;clear d i;refine oC 11 (by kernel_rfl) rfl (fun i d=>?_)
           go_simp
           refine d _ _ ?_;clear d i;refine oC 13 (by kernel_rfl) rfl (fun i d=>?_)
           go_simp
           refine d _ _ ?_;clear d i;refine oC 14 (by kernel_rfl) rfl (fun i d=>?_)
           go_simp
           refine d _ _ (wpAnyIn_done (by kernel_rfl) ?_ _);clear d i;go_wp2_with fail
           go_meet
           exact⟨t,X⟩
         case rest=>
          clear f QX;obtain⟨t,f⟩:=hcut;revert wc;intro S t f;have q:Hid (Dl S u17 u18):=t;clear t;go_upto_region 10 with fail
          go_cut [88] (fun XD j=>XD=.bool false/\S=j)
          case first=>
           rcases q.out with ⟨rfl,rfl⟩|⟨C,rfl,rfl,-⟩
           ·clear q u l r f
            go_wp2_with (go_at_call 6;refine(O _ _).mono ?_;rintro e L⟨rfl,rfl⟩)
            go_meet
            exact⟨rfl,rfl⟩
           ·clear q u l r f
            go_wp2_with (go_at_call 6;refine(O _ _).mono ?_;rintro e L⟨rfl,rfl⟩)
            go_meet
            exact⟨rfl,rfl⟩
          case rest=>
           obtain⟨rfl,rfl⟩:=hcut;rcases q.out with ⟨rfl,rfl⟩|⟨C,rfl,rfl,H⟩
           ·clear q u l r
            go_wp2_with fail
            go_meet
            exact f
           ·have Q:=l.out S C f.out H.out
            clear q u l r H
            go_wp2_with (go_at_call 7;refine Q.mono ?_;rintro e L⟨rfl,G⟩)
            go_meet
            exact G
      case rest=>
       clear f HZ z;obtain f:=hcut;revert wc;intro w6 f;go_upto_region 14 with fail
       have N:=u.out w6 c f.out (by have:=V.out;omega)
       go_cut [19,20] (fun D E j=>Dl j D E/\Hid (Below W.heap.size W j))
       case first=>
        clear u l r
        go_wp2_with (go_at_call 5;refine N.mono ?_;rintro e w1⟨s,m,rfl,t,I⟩)
        go_meet
        exact⟨t,I⟩
       case rest=>
        clear f N u V;obtain⟨t,f⟩:=hcut;revert wc;intro w7 t f;have q:Hid (Dl w7 u19 u20):=t;clear t;go_upto_region 15 with fail
        go_cut [109] (fun XE j=>XE=.bool false/\Hid (Below W.heap.size W j))
        case first=>
         rcases q.out with ⟨rfl,rfl⟩|⟨C,rfl,rfl,H⟩
         ·clear q l r
          go_wp2_with fail
          go_meet
          exact⟨rfl,f⟩
         ·have Q:=l.out w7 C f.out H.out
          clear q l r H
          go_wp2_with (go_at_call 7;refine Q.mono ?_;rintro e L⟨rfl,G⟩)
          go_meet
          exact⟨rfl,G⟩
        case rest=>
         clear q f l;obtain⟨rfl,f⟩:=hcut;have q9:=r.out wc f.out;clear r f
         go_wp2_with (go_at_call 9;refine q9.mono ?_;rintro e S⟨rfl,C9⟩)
         go_ret;exact⟨rfl,C9⟩
section
open Go.ChangeShapes Go.WideShapes Go.RowKit
theorem alk{W:World}(h:laidMetH prog Rows.packAnyUptoRow.laid W):dM W:=by
 have h1 := (laidMetH_iff.1 (h.filter fun x => x.1 == "internal/strconv.uint64pow10")).1
 have h2 : laidMet prog [("internal/strconv.uint64pow10", Lib.tabData .u64 Lib.pow10Tab)] W := h1
 exact Lib.tabIs_of_head (g:=rZ) (t:=343) (e:=277) (n:=20) IL (by kernel_rfl) (by kernel_rfl) (by kernel_rfl) (by kernel_rfl) (by kernel_rfl) h2
theorem abR : prog.globalNamed "math/bits.deBruijn64tab" = some 2 := by kernel_rfl
theorem ain{W:World}(h:laidMetH prog Rows.packAnyUptoRow.laid W):TabAt 2 Lib.deBruijn64tab W:=by
 have h1 := (laidMetH_iff.1 (h.filter fun x => x.1 == "math/bits.deBruijn64tab")).1
 have h2 : laidMet prog [("math/bits.deBruijn64tab", Lib.tabData .u8 (Lib.deBruijn64tab.map fun (x : Nat) => (x : Int)))] W := h1
 have h3:=Lib.tabIs_of_head (g:=2) (t:=311) (e:=5) (n:=64) abR (by kernel_rfl) (by kernel_rfl) (by kernel_rfl) (by kernel_rfl) (by kernel_rfl) h2;intro j a;have:=h3.cell abR j (by rw[dk];exact a);rw[this];simp[List.getD,a]
theorem ZR : prog.globalNamed "comb/pack.sums" = some 0 := by kernel_rfl
theorem ajE{W:World}(h:laidMetH prog Rows.packAnyUptoRow.laid W):pE W:=by
 have h1 := (laidMetH_iff.1 (h.filter fun x => x.1 == "comb/pack.sums")).1
 have h2 : laidMet prog [("comb/pack.sums", Lib.tabData .u32 (Pk.JF.map fun (x : Nat) => (x : Int)))] W := h1
 have h3:=Lib.tabIs_of_head (g:=0) (t:=139) (e:=82) (n:=16) ZR (by kernel_rfl) (by kernel_rfl) (by kernel_rfl) (by kernel_rfl) (by kernel_rfl) h2;intro j a;have:=h3.cell ZR j (by rw[dk];exact a);rw[this];have b:j<Pk.JF.length:=a;simp[Pk.DY,List.getD,b]
theorem amJ{W:World}(h:dM W):∀W',Below W.heap.size W W'->dM W':=fun W' b=>by
 have c:=h.cell IL 0 (by decide);have a:=Jj c;have e:=b.block _ a
 show W'.var? prog "internal/strconv.uint64pow10" = _
 rw [show W'.var? prog "internal/strconv.uint64pow10" = W.var? prog "internal/strconv.uint64pow10" by unfold World.var?; rw [IL]; simp only [Option.bind_some]; rw [e]]
 exact h
theorem ajF{W:World}(h:TabAt 2 Lib.deBruijn64tab W):∀W',Below W.heap.size W W'->TabAt 2 Lib.deBruijn64tab W':=fun _ a j b=>aM a (h j b)
theorem Yt(b a ins:ByteArray)(f:Int)(g:Value)(row:List Int)(W:World)(j:b.size<=1048576)(l:a.size<=1048576)(m:ins.size<=1048576)(c:laidMetH prog Rows.packAnyUptoRow.laid W)(k:Eh W g row)(d:row.length<=1048576):Calls prog 3 #[.string b,.string a,.int .i64 f,.string ins,g] W fun e w'=>e=.returned (.bool true)/\Below W.heap.size W w':=by
 have i:=ak5 c;exact aha (ajE c) i (Jj i.1) (amJ (alk c)) (ajF (ain c)) j l m k d
end
section
open Go.ChangeShapes Go.WideShapes Go.ChangeAt Go.RowKit
theorem aio:(Rows.packAnyUptoRow.laid.filter fun x=>x.snd.handleName?.isNone)=Rows.packAnyUptoRow.laid:=by kernel_rfl
theorem alm(os:Os)(args:Array Value):laidMetH prog Rows.packAnyUptoRow.laid ((World.laidAll prog os Rows.packAnyUptoRow.laid).forCall (fun _ _=>0) ⟨#[],args,[]⟩).memory :=
 laidMetH_of_parts (by rw[aio];exact laidMet_laidAll args (by kernel_rfl) (by kernel_rfl)) (by kernel_rfl)
end
