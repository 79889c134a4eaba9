import Derived.Test.YtagkodkijkpemaaGreatDoorRA43
import Derived.Maps.OwnIn
import Derived.OrdersIn
set_option maxHeartbeats 8000000
set_option maxRecDepth 1000000
namespace Go.Proofs.YtagkodkijkpemaaGreatDoor
open Lx Go.Proofs.Tryz
open Go.RowKit Tr
namespace Lx
def oo(es:List (Nat×Nat×Nat)):Nat->Nat×Nat->Nat
 |0,_=>0
 |k+1,a=>match es[k]? with
  |some e=>if a=(e.1,e.2.1) then e.2.2 else oo es k a
  |none=>oo es k a
end Lx
def NmE(w:World)(v0 v1 v2 v3 v4:Value)(es:List (Nat×Nat×Nat))(e:Ending)(w':World):Prop:=∃gm,e=.returned (.agg #[v0,v1,v2,v3,v4,.map (some gm)])/\w.heap.size<=gm/\dm bC (fun _=>True) w' gm (fun a=>(oo es es.length a:Int))/\Below w.heap.size w w'
theorem aeR{w:World}{ve:Value}{o r u y A:Option Addr}{n B l v p q f z s m:Nat}{C:List (Nat×Nat×Nat)}(he:lQ w ve C)(hl:C.length<=1000000000):Calls prog 61 #[.agg #[.slice o n q,.slice r B f,.slice u l z,.slice y v s,.slice A p m],ve] w (NmE w (.slice o n q) (.slice r B f) (.slice u l z) (.slice y v s) (.slice A p m) C):=by
 obtain⟨ea,ec,rfl,CK⟩:=he;have ab:=@r7 prog;obtain⟨T,aa⟩:∃T:Array Value,#[.slice o n q,.slice r B f,.slice u l z,.slice y v s,.slice A p m,.map (some (w.heap.size+2))]=T:=⟨_,rfl⟩;obtain⟨d,H⟩:∃b,w.heap.size=b:=⟨_,rfl⟩;obtain⟨K,F⟩:∃V,V=(((w.alloc (.cells #[.slice o n q,.slice r B f,.slice u l z,.slice y v s,.slice A p m] 56)).alloc (.cells #[.slice none 0 0,.slice none 0 0,.slice none 0 0,.slice none 0 0,.slice none 0 0,.map none] 147)).alloc (.map #[] 0)).alloc (.cells #[.slice o n q,.slice r B f,.slice u l z,.slice y v s,.slice A p m,.map (some (d+1+1))] 147):=⟨_,rfl⟩;have S:Below d w K:=by
  rw[F];have:=(((cV w.heap.size w).alloc (zL0) (.cells #[.slice o n q,.slice r B f,.slice u l z,.slice y v s,.slice A p m] 56)).alloc (by simp) (.cells #[.slice none 0 0,.slice none 0 0,.slice none 0 0,.slice none 0 0,.slice none 0 0,.map none] 147)).alloc (by simp;omega) (.map #[] 0);have:=this.alloc (by simp;omega) (.cells #[.slice o n q,.slice r B f,.slice u l z,.slice y v s,.slice A p m,.map (some (d+1+1))] 147);rw[H]at this;exact this
 have s1:(w.alloc (.cells #[.slice o n q,.slice r B f,.slice u l z,.slice y v s,.slice A p m] 56)).heap.size=d+1:=by rw[fb,H]
 have s2:((w.alloc (.cells #[.slice o n q,.slice r B f,.slice u l z,.slice y v s,.slice A p m] 56)).alloc (.cells #[.slice none 0 0,.slice none 0 0,.slice none 0 0,.slice none 0 0,.slice none 0 0,.map none] 147)).heap.size=d+1+1:=by rw[fb,s1]
 have kR:aj K (d+1) #[.slice none 0 0,.slice none 0 0,.slice none 0 0,.slice none 0 0,.slice none 0 0,.map none] 147:=by
  rw[F,<-s1];exact((aj.new ..).alloc _).alloc _
 have J:dm bC (fun _=>True) K (d+1+1) (fun a=>(oo C 0 a:Int)):=by
  rw[F,<-s2];exact(dm.made _ _).move (di _ _ _ (by simp))
 have E:aj K (d+1+1+1) #[.slice o n q,.slice r B f,.slice u l z,.slice y v s,.slice A p m,.map (some (d+1+1))] 147:=by
  rw[F];have:=aj.new (((w.alloc (.cells #[.slice o n q,.slice r B f,.slice u l z,.slice y v s,.slice A p m] 56)).alloc (.cells #[.slice none 0 0,.slice none 0 0,.slice none 0 0,.slice none 0 0,.slice none 0 0,.map none] 147)).alloc (.map #[] 0)) #[.slice o n q,.slice r B f,.slice u l z,.slice y v s,.slice A p m,.map (some (d+1+1))] 147;rw[fb,s2]at this;exact this
 have HE:Hid (∀wr,Below d w wr->∀(j:Nat)x,C[j]?=some x->∃g,ea=some ⟨g,0,none⟩/\wr.cell? ⟨g,j*3,none⟩=some (.int .i64 (x.1:Int))/\wr.cell? ⟨g,j*3+1,none⟩=some (.int .i64 (x.2.1:Int))/\wr.cell? ⟨g,j*3+2,none⟩=some (.int .i64 (x.2.2:Int))):=fun wr I j x hx=>by
  rw[<-H]at I;obtain⟨g,e,h1,h2,h3⟩:=CK j x hx;exact⟨g,e,aV I h1,aV I h2,aV I h3⟩
 have H0:Hid (Below d w K/\dm bC (fun _=>True) K (d+1+1) (fun a=>(oo C 0 a:Int))/\aj K (d+1) #[.slice none 0 0,.slice none 0 0,.slice none 0 0,.slice none 0 0,.slice none 0 0,.map none] 147/\aj K (d+1+1+1) #[.slice o n q,.slice r B f,.slice u l z,.slice y v s,.slice A p m,.map (some (d+1+1))] 147):=⟨S,J,kR,E⟩;have HB:Hid (w.heap.size=d):=H;clear CK S J kR E s1 s2 aa;go_enter func61,ntmps61;go_upto_region 2 with fail
 rw[<-F];clear F H ab;go_wp2_with fail
 go_loopw [13] (fun i wr=>∃j:Nat,j<=C.length/\i=.int .i64 (j:Int)/\Hid (Below d w wr/\dm bC (fun _=>True) wr (d+1+1) (fun a=>(oo C j a:Int))/\aj wr (d+1) #[.slice none 0 0,.slice none 0 0,.slice none 0 0,.slice none 0 0,.slice none 0 0,.map none] 147/\aj wr (d+1+1+1) #[.slice o n q,.slice r B f,.slice u l z,.slice y v s,.slice A p m,.map (some (d+1+1))] 147)) (fun i _=>C.length - (intOf i).toNat)
 case atStart=>exact⟨0,by omega,rfl,H0⟩
 case round=>
  clear H0;obtain⟨j,hj,rfl,HI⟩:=hrel;obtain⟨I,J,kR,E⟩:=HI.out;clear HI
  by_cases hjn:j<C.length
  ·have j1:(j:Int)<(C.length:Int):=by omega
   obtain⟨x,P⟩:∃x,C[j]?=some x:=⟨_,cF hjn⟩;obtain⟨g,rfl,d1,d2,d3⟩:=HE.out wr I j x P;obtain⟨Z,X,y3⟩:=x;simp only at d1 d2 d3;obtain⟨M,aW⟩:∃V,V=wr.alloc (.cells #[.int .i64 (Z:Int),.int .i64 (X:Int),.int .i64 (y3:Int)] 173):=⟨_,rfl⟩;obtain⟨bx,Y⟩:∃b,wr.heap.size=b:=⟨_,rfl⟩;have kX:aj M bx #[.int .i64 (Z:Int),.int .i64 (X:Int),.int .i64 (y3:Int)] 173:=by rw[aW,<-Y];exact aj.new ..
   have D:Below wr.heap.size wr M:=by rw[aW];exact(cV _ _).alloc (zL0) _
   have R:=J.move (D.block _ J.lt);obtain⟨U,ac,W,L,-⟩:=dm.put Tryz.Jy Tryz.Jl (fun _ _=>trivial) R (a:=(Z,X)) trivial (y3:Int);simp only[bC]at ac;have k5:∀{b t:Nat}{T:Array Value},aj wr b T t->aj U b T t:=fun N=>(L.block _ (dd N.lt D.size) fun e=>by
    cases e;obtain⟨ad,cl,h1,-⟩:=J;unfold aj at N;rw[h1]at N;cases N).trans ((D.block _ N.lt).trans N)
   have HN:Hid (Below d w U/\dm bC (fun _=>True) U (d+1+1) (fun a=>(oo C (j+1) a:Int))/\aj U (d+1) #[.slice none 0 0,.slice none 0 0,.slice none 0 0,.slice none 0 0,.slice none 0 0,.map none] 147/\aj U (d+1+1+1) #[.slice o n q,.slice r B f,.slice u l z,.slice y v s,.slice A p m,.map (some (d+1+1))] 147):=by
    refine⟨(I.trans (D.mono (by have:=kR.lt;omega))).grown L (by have:=kR.lt;have:=D.size;omega) (fun k e=>by cases e;omega),?_,k5 kR,k5 E⟩;have e:(fun a=>(oo C (j+1) a:Int))=fun c=>if c=(Z,X) then (y3:Int) else (oo C j c:Int):=by
     funext a;rw[oo,P];simp only
     split <;> rfl
    rw[e];exact W
   have Q:aj M _ _ 147:=(D.block _ E.lt).trans E;have m5:M.cell? ⟨d+1+1+1,5,none⟩=some (.map (some (d+1+1))):=Q.cell 5;have x1:M.cell? ⟨bx,0,none⟩=some (.int .i64 (Z:Int)):=kX.cell 0;have x2:M.cell? ⟨bx,1,none⟩=some (.int .i64 (X:Int)):=kX.cell 1;have x3:M.cell? ⟨bx,2,none⟩=some (.int .i64 (y3:Int)):=kX.cell 2;clear I J kR E kX D R W L k5 Q HE;go_upto_region 5 with fail
   rw[<-aW];clear aW Y d1 d2 d3;go_wp2_with fail;exact⟨⟨j+1,by omega,by go_num,HN⟩,by simp[intOf];omega⟩
  ·obtain rfl:j=C.length:=by omega
   have m0:wr.cell? ⟨d+1+1+1,0,none⟩=some (.slice o n q):=E.cell 0;have m1:wr.cell? ⟨d+1+1+1,1,none⟩=some (.slice r B f):=E.cell 1;have m2:wr.cell? ⟨d+1+1+1,2,none⟩=some (.slice u l z):=E.cell 2;have m3:wr.cell? ⟨d+1+1+1,3,none⟩=some (.slice y v s):=E.cell 3;have m4:wr.cell? ⟨d+1+1+1,4,none⟩=some (.slice A p m):=E.cell 4;have m5:wr.cell? ⟨d+1+1+1,5,none⟩=some (.map (some (d+1+1))):=E.cell 5;have r0:wr.cell? ⟨d+1,0,none⟩=some (.slice none 0 0):=kR.cell 0;have r1:wr.cell? ⟨d+1,1,none⟩=some (.slice none 0 0):=kR.cell 1;have r2:wr.cell? ⟨d+1,2,none⟩=some (.slice none 0 0):=kR.cell 2;have r3:wr.cell? ⟨d+1,3,none⟩=some (.slice none 0 0):=kR.cell 3;have r4:wr.cell? ⟨d+1,4,none⟩=some (.slice none 0 0):=kR.cell 4;have r5:wr.cell? ⟨d+1,5,none⟩=some (.map none):=kR.cell 5;have rf:∀i,wr.frozen? ⟨d+1,i,none⟩=false:=kR.frozen;have kF:=(((((kR.set 0 (.slice o n q)).set 1 (.slice r B f)).set 2 (.slice u l z)).set 3 (.slice y v s)).set 4 (.slice A p m)).set 5 (.map (some (d+1+1)));have HF:Hid (dm bC (fun _=>True) ((((((wr.setCell ⟨d+1,0,none⟩ (.slice o n q)).setCell ⟨d+1,1,none⟩ (.slice r B f)).setCell ⟨d+1,2,none⟩ (.slice u l z)).setCell ⟨d+1,3,none⟩ (.slice y v s)).setCell ⟨d+1,4,none⟩ (.slice A p m)).setCell ⟨d+1,5,none⟩ (.map (some (d+1+1)))) (d+1+1) (fun a=>(oo C C.length a:Int))/\Below d w ((((((wr.setCell ⟨d+1,0,none⟩ (.slice o n q)).setCell ⟨d+1,1,none⟩ (.slice r B f)).setCell ⟨d+1,2,none⟩ (.slice u l z)).setCell ⟨d+1,3,none⟩ (.slice y v s)).setCell ⟨d+1,4,none⟩ (.slice A p m)).setCell ⟨d+1,5,none⟩ (.map (some (d+1+1))))):=by
    have G:d+1+1≠d+1:=by omega
    refine⟨J.move (by rw[zS0 G,zS0 G,zS0 G,zS0 G,zS0 G,zS0 G]),?_⟩;have O:∀i,d<=(⟨d+1,i,none⟩:Addr).block:=fun _=>oR d
    exact(((((I.setCell (O 0) _).setCell (O 1) _).setCell (O 2) _).setCell (O 3) _).setCell (O 4) _).setCell (O 5) _
   clear I J kR E HE;go_wp2_with fail;exact pz rfl rfl kF (by kernel_rfl) (by kernel_rfl) ⟨d+1+1,rfl,by rw[HB.out];omega,HF.out.1,by rw[HB.out];exact HF.out.2⟩
def wL(ws:List Nat):List Value:=ws.map fun(x:Nat)=>.int .u64 (x:Int)
theorem Mx.put{w0 W W':World}{B o p f n N:Nat}{l:List Nat}{rs:List (List Value)}(h:Mx w0 B o p f n N W l rs){i g:Nat}{r':List Value}(hg:l[i]?=some g)(a:W.grownBy W' (some g))(u:aj W' g r'.toArray f):Mx w0 B o p f n N W' l (rs.set i r'):=by
 have d:=cQ hg;refine⟨(a.block o h.out.lt fun e=>by cases e;exact h.K6 d rfl).trans h.out,by simp[h.len],fun j q r hg' c=>?_,h.nd,h.lo,h.no,h.b.grown a h.size fun k e=>by cases e;exact h.lo g d,h.ne,h.le⟩;rw[fk]at c
 split at c
 ·rename_i e
  subst e;rw[hg]at hg';cases hg';have m:i<rs.length:=by rw[h.len];exact(cG.1 hg).1
  rw[de m]at c;cases c;exact u
 ·rename_i e
  refine(a.block q (h.lt (cQ hg')) fun s=>e ?_).trans (h.row j q r hg' c);cases s;obtain⟨h1,v⟩:=cG.1 hg;obtain⟨h2,t⟩:=cG.1 hg';exact(lj h.nd).1 (v.trans t.symm)
namespace Lx
def iW(nw:Nat)(ts:List Nat):Nat->List Nat
 |0=>List.replicate nw 0
 |k+1=>match ts[k]? with
  |some t=>xD (iW nw ts k) t
  |none=>iW nw ts k
theorem SK(nw:Nat)(ts:List Nat):∀k,(iW nw ts k).length=nw/\kH (iW nw ts k)
 |0=>⟨im ..,fun x a=>by rw[kk a];decide⟩
 |k+1=>by
  have ih:=SK nw ts k;rw[iW]
  split
  ·exact⟨(aaI ..).trans ih.1,abH ih.2 _⟩
  ·exact ih
end Lx
def SoE(w:World)(nw:Nat)(L:List (List Nat))(e:Ending)(w':World):Prop:=∃gO gs,e=.returned (.slice (some ⟨gO,0,none⟩) L.length L.length)/\gs.length=L.length/\w.heap.size<=gO/\Mx w w.heap.size gO 214 277 nw L.length w' gs ((L.map fun ts=>iW nw ts ts.length).map wL)
theorem aiX{n:Nat}(j:n<=100000)(w:World):(Instr.makeSlice 149 (.int .i64 (n:Int)) (.int .i64 (n:Int))).run prog w=.ok (.slice (some ⟨w.heap.size,0,none⟩) n n) (w.alloc (.cells (vA (List.replicate n (Value.slice none 0 0))) 214)):=by
 obtain⟨f,g,a,b,c⟩:=fd Tryz.SF;have h:=pj (P:=prog) w 149 214 f _ (by kernel_rfl) g a .i64 .i64 (n:Int) (n:Int) (by omega) (nh _) (by rw[c];omega) (by omega);rw[h,gz,b];have e:Value.cells (.slice none 0 0)=#[.slice none 0 0]:=rfl;have d:madeCells #[.slice none 0 0] (n*1)=(vA (List.replicate n (Value.slice none 0 0))):=by
  unfold madeCells vA;apply pN
  ·simp
  ·intro i h1 h2
   simp[Nat.mod_one]
 rw[e,d]
theorem aht{w:World}{vl:Value}{L:List (List Nat)}{nT:Nat}(hL:xX w vl L)(hN:L.length<=100000)(hT:nT<=100000)(R:∀l∈L,l.length<=1000000/\∀t∈l,t<nT):Calls prog 62 #[vl,.int .i64 (nT:Int)] w (SoE w (Lx.nW nT) L):=by
 obtain⟨la,lc,rfl,F⟩:=hL;obtain⟨c,M⟩:∃b,w.heap.size=b:=⟨_,rfl⟩;obtain⟨nw,p⟩:∃n,Lx.nW nT=n:=⟨_,rfl⟩;have ac:nw<=100000:=by rw[<-p];unfold Lx.nW;omega
 have aa:nT<=nw*64:=by rw[<-p];unfold Lx.nW;omega
 obtain⟨w2,y⟩:∃V,V=w.alloc (.cells (vA (List.replicate L.length (Value.slice none 0 0))) 214):=⟨_,rfl⟩;have E:Mx w c c 214 277 nw L.length w2 [] []:=by rw[y,<-M];exact Mx.new w nw L.length (by decide)
 have K:=fun w=>aiX (n:=L.length) hN w
 have O:=fun w=>Qv (w:=w) hT
 simp only[p]at O;rw[p];have W:Hid (∀wr,Below c w wr->∀(j:Nat)l,L[j]?=some l->∃g A P,la=some ⟨g,0,none⟩/\wr.cell? ⟨g,j,none⟩=some (.slice A l.length P)/\∀r,Below c w r->∀(k:Nat)t,l[k]?=some t->∃b,A=some ⟨b,0,none⟩/\r.cell? ⟨b,k,none⟩=some (.int .i64 (t:Int))):=fun wr hb j l hl=>by
  rw[<-M]at hb|-;obtain⟨g,e,v,h1,A,P,rfl,h3⟩:=F j l hl;rw[jt]at h1;refine⟨g,A,P,e,aV hb h1,fun r hz k t ht=>?_⟩;obtain⟨b,e3,h7⟩:=h3 k t ht;unfold iQ at h7;rw[jt]at h7;exact⟨b,e3,aV hz h7⟩
 have H0:Hid (∃d,d.length=0/\Mx w c c 214 277 nw L.length w2 d (((L.take 0).map fun a=>iW nw a a.length).map wL)):=⟨[],rfl,E⟩;have HG:Hid (w.heap.size=c):=M;clear F E p;go_enter func62,ntmps62;go_upto_region 2 with (simp only[K])
 rw[<-y];clear y M K;go_wp2_with fail
 go_loopw [15] (fun i wr=>∃j:Nat,j<=L.length/\i=.int .i64 (j:Int)/\Hid (∃d,d.length=j/\Mx w c c 214 277 nw L.length wr d (((L.take j).map fun a=>iW nw a a.length).map wL))) (fun i _=>L.length - (intOf i).toNat)
 case atStart=>exact⟨0,by omega,rfl,H0⟩
 case round=>
  clear H0;obtain⟨j,hj,rfl,D⟩:=hrel;obtain⟨d,m,f⟩:=D.out;clear D
  by_cases hjn:j<L.length
  ·have j1:(j:Int)<(L.length:Int):=by omega
   obtain⟨l,hl⟩:∃l,L[j]?=some l:=⟨_,cF hjn⟩;obtain⟨g,A,P,rfl,c1,hX⟩:=W.out wr f.b j l hl;have X:=R l (cQ hl);have J:wr.cell? ⟨c,j,none⟩=some (.slice none 0 0):=by
    rw[f.out.cell,fR,eJ (by rw[dt];omega),dt,m,ij,ju,de (by omega)]
   have dO:∀o,(wr.alloc o).cell? ⟨c,j,none⟩=some (.slice none 0 0):=fun o=>(cJ (w:=wr) (di _ _ _ f.out.lt)).trans J
   have fO:∀o,(wr.alloc o).frozen? ⟨c,j,none⟩=false:=fun o=>(f.out.alloc o).frozen j
   have U:=f.push (by omega) (wL (List.replicate nw 0));rw[m]at U;have I:(((L.take j).map fun a=>iW nw a a.length).map wL).length=j:=by rw[dt,dt,fN];omega
   have T:Hid (((L.take (j+1)).map fun a=>iW nw a a.length).map wL=((L.take j).map fun a=>iW nw a a.length).map wL++[wL (iW nw l l.length)]):=by
    show _=_;rw[mS,hl,ei,ei];rfl
   have B:Hid ((((L.take j).map fun a=>iW nw a a.length).map wL).length=j):=I;have Y:Hid (∃d,d.length=j+1/\Mx w c c 214 277 nw L.length ((wr.alloc (.cells (oL (List.replicate nw 0)) 277)).setCell ⟨c,j,none⟩ (.slice (some ⟨wr.heap.size,0,none⟩) nw nw)) d (((L.take j).map fun a=>iW nw a a.length).map wL++[wL (iW nw l 0)])):=⟨d++[wr.heap.size],by rw[cH,m];rfl,U⟩;have S:Hid (∀r,Below c w r->∀(k:Nat)t,l[k]?=some t->∃b,A=some ⟨b,0,none⟩/\r.cell? ⟨b,k,none⟩=some (.int .i64 (t:Int))):=hX;have q:=O wr;clear f U I W m hX R O hl;generalize ((L.take j).map fun a=>iW nw a a.length).map wL=pr at T B Y
   go_wp2_with (go_at_call 92;refine q.mono ?_;rintro e w3⟨rfl,Z⟩;subst Z)
   clear J dO fO c1 q
   go_loopw [27] (fun i wr=>∃k:Nat,k<=l.length/\i=.int .i64 (k:Int)/\Hid (∃d,d.length=j+1/\Mx w c c 214 277 nw L.length wr d (pr++[wL (iW nw l k)]))) (fun i _=>l.length - (intOf i).toNat)
   case atStart=>exact⟨0,by omega,rfl,Y⟩
   case round=>
    clear Y;revert wr;intro r hrel;obtain⟨k,hk,rfl,D⟩:=hrel;obtain⟨x,N,f⟩:=D.out;clear D
    by_cases hkn:k<l.length
    ·have k1:(k:Int)<(l.length:Int):=by omega
     obtain⟨t,ht⟩:∃t,l[k]?=some t:=⟨_,cF hkn⟩;obtain⟨b,rfl,c1⟩:=S.out r f.b k t ht;have ab:=X.2 t (cQ ht);obtain⟨Q,s⟩:∃g,x[j]?=some g:=⟨_,cF (by omega)⟩;have zy:(pr++[wL (iW nw l k)])[j]?=some (wL (iW nw l k)):=by
      rw[eJ (by rw[B.out];exact zL0),B.out,ij];rfl
     have o1:=f.DX s;obtain⟨u,G⟩:=SK nw l k;have H:=aaL (w:=r) (g:=Q) (t:=t) (ws:=iW nw l k) ⟨f.row j Q _ s zy,G⟩ (by rw[u];omega) (by omega);rw[u]at H;have HN:Hid (∀C,TS C Q (xD (iW nw l k) t)->r.grownBy C (some Q)->∃d,d.length=j+1/\Mx w c c 214 277 nw L.length C d (pr++[wL (iW nw l (k+1))])):=fun C LF z=>by
      refine⟨x,N,?_⟩;have:=f.put s z (r':=wL (xD (iW nw l k) t)) LF.blk;rw[mr _ _ (by rw[B.out];exact zL0),B.out,ij,ms]at this;rw[iW,ht];exact this
     have d0:(0:Int)<=(j:Int):=by omega
     clear f zy s N u G S ht
     go_wp2_with (go_at_call 93;refine H.mono ?_;rintro e C⟨rfl,LF,z⟩)
     exact⟨⟨k+1,by omega,by go_num,HN.out C LF z⟩,by simp[intOf];omega⟩
    ·obtain rfl:k=l.length:=by omega
     have HE:Hid (∃d,d.length=j+1/\Mx w c c 214 277 nw L.length r d (((L.take (j+1)).map fun a=>iW nw a a.length).map wL)):=⟨x,N,by rw[T.out];exact f⟩;clear f N T S B;go_wp2_with fail;exact⟨⟨j+1,by omega,by go_num,HE⟩,by simp[intOf];omega⟩
  ·obtain rfl:j=L.length:=by omega
   rw[ft]at f;have HR:Hid (SoE w nw L (.returned (.slice (some ⟨c,0,none⟩) L.length L.length)) wr):=⟨c,d,rfl,m,by rw[HG.out];exact zL0,by rw[HG.out];exact f⟩;clear f m W R O;go_wp2_with fail;go_ret;exact HR.out
namespace Lx
def wX:Nat->Nat->List Nat
 |0,_=>[]
 |n+1,x=>if x=0 then [] else Lib.ctz 64 x::wX n (x &&& (x-1))
def pI(x:Nat):List Nat:=wX x x
theorem R8:∀(n m x:Nat),x<=n->x<=m->wX n x=wX m x
 |0,0,_,_,_=>rfl
 |0,m+1,x,h,_=>by rw[wX,wX,de (by omega)]
 |n+1,0,x,_,h=>by rw[wX,wX,de (by omega)]
 |n+1,m+1,x,h,k=>by
  have a:x &&& (x-1)<=x-1:=Nat.and_le_right;rw[wX,wX]
  split
  ·rfl
  ·rw[R8 n m _ (by omega) (by omega)]
theorem ab2:pI 0=[]:=rfl
theorem SL{x:Nat}(h:x≠0):pI x=Lib.ctz 64 x::pI (x &&& (x-1)):=by
 have a:x &&& (x-1)<=x-1:=Nat.and_le_right;unfold pI;rw[R8 x (x+1) x (zL0) (oR _),wX,dk h,R8 x _ _ (by omega) (zL0)]
def mX(ws:List Nat):Nat->List Nat
 |0=>[]
 |k+1=>mX ws k++(pI (ws.getD k 0)).map (k*64+·)
theorem ab3(ws:List Nat)(k:Nat):∀n,k<=n->mX ws k <+: mX ws n
 |0,h=>by rw[show k=0 by omega];exact List.prefix_refl _
 |n+1,h=>by
  by_cases e:k=n+1
  ·rw[e];exact List.prefix_refl _
  ·exact(ab3 ws k n (by omega)).trans (List.prefix_append _ _)
theorem amn{ws:List Nat}{k n d y:Nat}(c:k<n)(a:(pI (ws.getD k 0))[d]?=some y):(mX ws n)[(mX ws k).length+d]?=some (k*64+y):=by
 obtain⟨r,b⟩:=ab3 ws (k+1) n c;rw[<-b,mX,dq,eJ (by omega),Nat.add_sub_cancel_left,eC (by rw[dt];exact(cG.1 a).1),dj,a];rfl
end Lx
def encI(x:Nat):Array Value:=#[.int .i64 (x:Int)]
theorem ahu{bx g c:Nat}{ws:List Nat}(hl:ws.length<=1000):zW prog 140 #[.pointer (some ⟨bx,0,none⟩)] encI (mX ws ws.length) (fun W=>aj W bx #[.slice (some ⟨g,0,none⟩) ws.length c] 214/\TS W g ws/\TabAt 2 Lib.deBruijn64tab W):=by
 intro l J W hJ B hY I;refine hU.1 (callsIn_of_wp (F:=Fence.wide) (n:=9) func140 rfl trivial ?_ rfl);simp only[ntmps140,kf,el,iu,Nat.reduceAdd,Nat.reduceSub,mA,mz,n8,m7,go,fX];have V:W.cell? ⟨bx,0,none⟩=some (.slice (some ⟨g,0,none⟩) ws.length c):=(B _ _ _ I).1.cell 0
 gi_wp2
 gi_loopg [7] ws.length (fun m i wr=>∃(k:Nat)(Z:Nat->Prop),k+m=ws.length/\i=.int .i64 (k:Int)/\J (mX ws k).length Z wr)
 case atStart=>exact⟨0,_,by omega,rfl,I⟩
 case round=>
  clear I V;obtain⟨k,Z,hk,rfl,u⟩:=hrel
  by_cases hlt:k<ws.length
  ·have T:wr.cell? ⟨g,k,none⟩=some (.int .u64 ((ws.getD k 0:Nat):Int)):=((B _ _ _ u).2.1.blk.cell k).trans (II ws hlt)
   have v:ws.getD k 0<18446744073709551616:=(B _ _ _ u).2.1.wd.get k;obtain⟨b,p⟩:∃x,ws.getD k 0=x:=⟨_,rfl⟩;rw[p]at T v;have K:Hid (ws.getD k 0=b):=p;clear p;have j1:(0:Int)<=(k:Int):=by omega
   have j2:(k:Int)<(ws.length:Int):=by omega
   gi_wp2
   gi_loopg [4] b (fun mm av A=>∃(m d:Nat)(s:Nat->Prop),m=mm/\d<=(pI b).length/\m<18446744073709551616/\av=.int .u64 (m:Int)/\Hid ((pI b).drop d=pI m)/\J ((mX ws k).length+d) s A)
   case atStart=>exact⟨b,0,Z,rfl,eR _,v,rfl,rfl,u⟩
   case round=>
    clear u T;revert wr;intro A hrel;obtain⟨m,d,s,rfl,M,G,rfl,t,a⟩:=hrel
    by_cases hm0:m=0
    ·subst hm0
     have hd:(pI b).length<=d:=by
      have:=t.out;rw[ab2]at this;exact List.drop_eq_nil_iff.1 this
     have HJ:Hid (J (mX ws (k+1)).length s A):=by
      rw[mX,cH,dt,K.out];rw[show (pI b).length=d by omega];exact a
     clear a t
     gi_wp2
     gi_roundg (ws.length - (k+1))
     case measure=>omega
     case rel=>exact⟨k+1,s,by omega,by go_num,HJ.out⟩
    ·have f:(pI (ws.getD k 0))[d]?=some (Lib.ctz 64 m):=by
      rw[K.out];have:=t.out;rw[SL hm0]at this;have e:=eS (·[0]?) this;simpa using e
     obtain⟨fn,tmps,assign,body,C,O⟩:=hY _ _ s A (amn hlt f) a;have q:=amj (B _ _ _ a).2.2 G hm0;have Q:Hid ((pI b).drop (d+1)=pI (m &&& (m-1))):=by
      show (pI b).drop (d+1)=pI (m &&& (m-1));have e:=t.out;rw[SL hm0]at e;have R:=eS (List.drop 1) e;rw[List.drop_drop]at R;simpa using R
     have N:d+1<=(pI b).length:=by
      rw[K.out]at f;exact(cG.1 f).1
     obtain⟨z,D⟩:∃z,Lib.ctz 64 m=z:=⟨_,rfl⟩;have aa:z<64:=by rw[<-D];exact(Lib.lowest_bit 64 m hm0 G).2
     obtain⟨r,j⟩:∃y,m &&& (m-1)=y:=⟨_,rfl⟩;have o:r<m:=by rw[<-j];exact Nat.lt_of_le_of_lt Nat.and_le_right (by omega)
     have H:bits BinOp.and IntKind.u64 (m:Int) ((m:Int) - 1)=(r:Int):=by
      rw[show (m:Int) - 1=((m-1:Nat):Int) by omega,bits_and_u64_nat m (m-1) G (by omega),j]
     rw[D]at C q;rw[j]at Q;simp only[encI]at C;have P:((k*64+z:Nat):Int)=(k:Int)*64+(z:Int):=by omega
     rw[P]at C;have b0:((m:Int) != 0)=true:=by simp;omega
     have b1:(m:Int)≠0:=by omega
     clear j D f t;have X:IntKind.i64.wrap ((k:Int)*64)=(k:Int)*64:=by rw[gw];omega
     have Y:IntKind.i64.wrap ((k:Int)*64+(z:Int))=(k:Int)*64+(z:Int):=by rw[gw];omega
     have U:Hid (bits BinOp.and IntKind.u64 (m:Int) ((m:Int) - 1)=(r:Int)):=H;have S:Hid (r<m):=o;clear H P M hm0 hlt o j1 j2
     gi_upto_region 5 with fail
     gi_upto_region 4 with (first
      | (refine⟨trivial,?_⟩;gi_at_call 141;refine(hU.2 q).mono ?_;rintro e w2⟨rfl,L⟩;subst L))
     refine(IC O).mono ?_;rintro e W3⟨rfl,E,-⟩;have H:=U.out;clear C O q a U
     gi_wp2
     gi_roundg r
     case measure=>exact S.out
     case rel=>exact⟨r,d+1,s,rfl,N,by have:=S.out;omega,by go_num,Q,E⟩
  ·gi_wp2
   go_end0
   exact⟨⟨_,rfl⟩,Z,by rw[show ws.length=k by omega];exact u⟩
section
open Go.RowKit Go.Shelf
open Tr
attribute [local go_sem] px
theorem ahv{w:World}{a:Option Addr}{n c:Nat}:Calls prog 101 #[.slice a n c] w fun e w'=>e=.returned (.func (.func 140) #[] #[.pointer (some ⟨w.heap.size,0,none⟩)])/\w'=w.alloc (.cells #[.slice a n c] 214):=by
 go_enter func101,ntmps101;go_wp2_with fail;go_ret;exact⟨rfl,rfl⟩
def Hy(w:World)(n:Nat)(xs:List Nat)(i:Nat)(Z:Nat->Prop)(W:World):Prop:=Below n w W/\(∀k,Z k->n<k/\k<W.heap.size)/\∃v,aj W n #[v] 22/\W.ownsRow n 3 1 v (xs.take i).length ((xs.take i).map bQ)/\∀g,v.ownBlock=some g->¬Z g
theorem Hy.vO{w:World}{n:Nat}{l:List Nat}:xJ (Hy w n l) where
 own i Z A B row h hg hr:=by
  obtain⟨h1,h2,v,h3,h4,d⟩:=h;have a:∀k,row=some k->Z k:=fun k e=>hr k e
  refine⟨h1.grown hg (lh h3.lt) fun k e=>lh (h2 k (a k e)).1,fun k b=>⟨(h2 k b).1,dd (h2 k b).2 hg.size⟩,v,(hg.block n h3.lt fun e=>by have:=(h2 n (a n e.symm)).1;omega).trans h3,aC h4 fun g c=>hg.block g (h4.lt g c).2 fun e=>d g c (a g e.symm),d⟩
 new i Z A o h:=by
  obtain⟨h1,h2,v,h3,h4,d⟩:=h;have j:=h3.lt;refine⟨h1.alloc (lh j) o,fun k b=>?_,v,h3.alloc o,h4.alloc o,fun g hg f=>?_⟩
  ·rw[fb]
   rcases b with b|rfl
   ·have:=h2 k b
    omega
   ·omega
  ·rcases f with f | rfl
   ·exact d g hg f
   ·have:=(h4.lt _ hg).2
    omega
theorem ae9{w:World}{lb:Array Value}{d:List Nat}{Rd:World->Prop}(y:zW prog 140 lb encI d Rd)(M:∀W,Below w.heap.size w W->Rd W)(ac:d.length<=1000000000):Calls prog 139 #[.slice none 0 0,.func (.func 140) #[] lb] w fun e w'=>∃v,e=.returned v/\w'.ownsRow w.heap.size 3 1 v d.length (d.map bQ)/\Below w.heap.size w w':=by
 obtain⟨i0,P,S,Q,I⟩:=fd Tryz.info3';refine hU.1 (callsIn_of_wp_marks (F:=Fence.wide) (n:=9) func139 rfl trivial ?_ rfl);simp only[ntmps139,kf,el,iu,Nat.reduceAdd,Nat.reduceSub,mA,mz,n8,m7,go,fX];obtain⟨n,N⟩:∃n,w.heap.size=n:=⟨_,rfl⟩;obtain⟨w1,q⟩:∃V,V=w.alloc (.cells #[.slice none 0 0] 22):=⟨_,rfl⟩;have h0:Hy w n d 0 (fun _=>False) w1:=⟨by rw[q,<-N];exact(cV _ _).alloc (zL0) _,fun k c=>c.elim,_,by rw[q,<-N];exact aj.new ..,eE _ _ _ _,fun g e=>by cases e⟩;rw[N]at M|-
 gi_upto_region 1 with fail
 rw[<-q];clear q
 gi_wp2
 refine Iw (gf:=140) (lb:=lb) rfl (enters_of func140 (by kernel_rfl) rfl) y (fun _=>rfl) (Hy w n d) Hy.vO (fun i Z W h=>M W h.1) h0
  (fun x a' W=>a'={ tmps:=#[.slice none 0 0,.func (.func 140) #[] lb,.pointer (some ⟨n,0,none⟩),undef,.slice none 0 0,.int .i64 (x:Int),.func (.func 140) #[] lb,.int .i64 (x:Int),undef,undef,undef,undef,undef],defers:=[] }) ?hAx ?assign ?body ?done
 case hAx=>exact fun _ _ _ _ h=>h
 case assign=>
  rintro l' i x Z W K hsz hi T;simp only[encI]
  gi_wp2
  exact T _ _ (zL0) (fun _ _ _=>rfl) hi rfl
 case body=>
  rintro l' i x Z a' W X⟨r,s,v,kB,m,z⟩rfl;obtain⟨b,f,rfl,-⟩:=aB m;have ab:=(cG.1 X).1;have u:(d.take i).length=i:=by rw[fN];omega
  rw[u]at m kB z;have c0:W.cell? ⟨n,0,none⟩=some (.slice b i f):=kB.cell 0;have C:(Value.slice b i f).ownBlock≠some n:=fun e=>by
   obtain⟨R,G⟩:=eU m e;unfold aj at kB;rw[G]at kB;cases kB
  have hsz:n<=W.heap.size:=lh kB.lt;have HF:Hid (∀o l a,l.ownsRow n 3 1 o (i+1) ((d.take i).map bQ++[.int .i64 (x:Int)])->(W.alloc (.cells #[.int .i64 (x:Int)] 3)).grownBy l (Value.slice b i f).ownBlock->(o.ownBlock=(Value.slice b i f).ownBlock\/o.ownBlock=some (W.alloc (.cells #[.int .i64 (x:Int)] 3)).heap.size)->yN Z (Hy w n d (i+1) Z) W .normal a (l.setCell ⟨n,0,none⟩ o)):=fun o l a qi L J=>by
   have A:W.grownBy l (Value.slice b i f).ownBlock:=aL (aX W _ _) L;have U:∀k,Z k->l.heap[k]?=W.heap[k]?:=fun k c=>A.block k (s k c).2 fun e=>z k e.symm c
   have B:aj l n #[.slice b i f] 22:=(A.block n kB.lt fun e=>C e.symm).trans kB;have E:∀g,o.ownBlock=some g->g≠n:=fun g e e2=>by
    obtain⟨R,G⟩:=eU qi e;unfold aj at B;rw[e2,B]at G;cases G
   refine⟨⟨(r.grown A hsz fun k e=>(m.lt k e).1).setCell (p:=⟨n,0,none⟩) (zL0) _,fun k c=>⟨(s k c).1,by have:=(s k c).2;have:=A.size;simpa using (by omega:k<l.heap.size)⟩,o,B.set 0 o,?_,fun g e Y=>?_⟩,fun k c aa=>(fQ _ _ (by have:=(s k c).1;omega)).trans (U k c)⟩
   ·rw[mS,X,ei,cH,u]
    exact aC qi fun g e=>fQ _ _ (E g e)
   ·rcases J with H | H
    ·exact z g (H▸e) Y
    ·rw[H]at e
     cases e;have:=(s _ Y).2;simp at this;omega
  clear r s z M y h0
  gi_wp2_with (gi_at_builtin;refine wpListIn_append_own_at _ rfl _ _ 22 rfl n 3 i0 _ 1 8 underlying22 P S Q I rfl (by decide) (.slice b i f) _ _ rfl (m.alloc _) ⟨_,0,none⟩ 1 1 [.int .i64 (x:Int)] rfl rfl (dI (aj.new _ _ 3)) (by simp[Value.oneCell']) (by unfold maxLen;omega) (by omega) (by simp;omega) ?_;intro o l j bF _ J;obtain⟨l7,l8,O,-⟩:=aB j;subst O;have B:=(kB.alloc (.cells #[.int .i64 (x:Int)] 3)).grown bF (fun e=>C e.symm);have c5:l.cell? ⟨n,0,none⟩=some (.slice b i f):=B.cell 0;have f5:=B.frozen 0)
  exact HF.out _ _ _ j bF J
 case done=>
  rintro D Z W hD CB⟨r,s,v,kB,m,z⟩T;rw[ft]at m;obtain⟨b,f,rfl,-⟩:=aB m;have c0:W.cell? ⟨n,0,none⟩=some (.slice b d.length f):=kB.cell 0
  gi_wp2
  refine⟨by simp,.inl ⟨_,_,rfl,run_takeDeferred T,?_⟩⟩;refine⟨.slice b d.length f,results_tmp (fn:=Tryz.f139) (t:=4) rfl _ _ _,.slice b d.length f,rfl,aC m fun g A=>World.putObj_heap_other fun e=>z g A (e▸CB),?_⟩;exact⟨r.1,r.2,r.3,by simpa [World.putObj]using r.4,fun k c=>(World.putObj_heap_other (by have:=(s D CB).1;omega)).trans (r.block k c)⟩
theorem agm{w:World}{lb:Array Value}{b:List Nat}{Rd:World->Prop}(a:zW prog 140 lb encI b Rd)(d:∀W,Below w.heap.size w W->Rd W)(c:b.length<=1000000000):Calls prog 100 #[.func (.func 140) #[] lb] w fun e w'=>∃v,e=.returned v/\w'.ownsRow w.heap.size 3 1 v b.length (b.map bQ)/\Below w.heap.size w w':=by
 have q:=ae9 a d c;go_enter func100,ntmps100
 go_wp2_with (go_at_call 139;refine q.mono ?_;rintro e w1⟨v,rfl,h1,h2⟩)
 go_ret;exact⟨_,rfl,h1,h2⟩
end
def bA.yC(c:bA)(s:Nat×Nat):List (au×Nat):=(iP c.P c.f s.1 s.2 c.P.length).filter (Es c.P)
def bA.end(x:au×Nat):Nat×Nat:=(x.2,x.1.1)
structure mY(S:bL)(dn:Nat->Nat×Nat->Prop)(K:List (Nat×Nat))(ss:List (List Nat)):Prop where
 nd:K.Nodup
 len:ss.length=K.length
 mem:∀e,e∈K↔∃i,dn i e
 has:∀(p:Nat)e t,K[p]?=some e->(dU (ss.getD p []) t=true↔∃i,dn i e/\dU (S.ss.getD i []) t=true)
def bA.yD(c:bA)(S:bL)(i:Nat)(e:Nat×Nat):Prop:=∃s x,S.st[i]?=some s/\x∈c.yC s/\e=bA.end x
def LK(c:bA)(W:World)(S:bL)(e:Ending)(W':World):Prop:=∃(gm:Nat)(vA:Value)(K:List (Nat×Nat))(gs:List Nat)(ss:List (List Nat)),e=.returned (.tuple #[.map (some gm),vA])/\Below W.heap.size W W'/\iD bC W' gm K/\W'.ownsRow W.heap.size 214 1 vA gs.length (gs.map (gY c.nw))/\(∀(i g:Nat),gs[i]?=some g->∃ws,ss[i]?=some ws/\TS W' g ws/\ws.length=c.nw)/\gs.length=K.length/\mY S (c.yD S) K ss
namespace Lx
def ze(K:List (Nat×Nat))(e:Nat×Nat):Option Nat:=if e∈K then some (K.idxOf e) else none
def fJ(nw:Nat)(K:List (Nat×Nat))(ss:List (List Nat))(i:Nat):Nat->List (Nat×List Nat)
 |0=>[]
 |k+1=>fJ nw K ss i k++(match ze K (i,k) with
  |some p=>[(k,mX (ss.getD p []) nw)]
  |none=>[])
theorem aa3(nw:Nat)(K:List (Nat×Nat))(a:List (List Nat))(i:Nat):∀k,(fJ nw K a i k).length<=k
 |0=>zL0
 |k+1=>by
  have:=aa3 nw K a i k;rw[fJ,cH]
  split <;> simp <;> omega
end Lx
theorem Tryz.alQ:(prog.info? 168).map (fun i=>(i.zero,i.size,i.bytes))=some (some (.slice none 0 0),1,24):=by kernel_rfl
theorem Tryz.alR:(prog.info? 170).map (fun i=>(i.zero,i.size,i.bytes))=some (some (.agg #[.int .i64 0,.slice none 0 0]),2,32):=by kernel_rfl
theorem Tryz.amo:prog.underlying 168=some (.slice 170):=by kernel_rfl
theorem akx{n:Nat}(g:n<=100000)(w:World):(Instr.makeSlice 89 (.int .i64 (n:Int)) (.int .i64 (n:Int))).run prog w=.ok (.slice (some ⟨w.heap.size,0,none⟩) n n) (w.alloc (.cells (vA (List.replicate n (Value.slice none 0 0))) 168)):=by
 obtain⟨d,f,a,c,b⟩:=fd Tryz.alQ;have h:=pj (P:=prog) w 89 168 d _ (by kernel_rfl) f a .i64 .i64 (n:Int) (n:Int) (by omega) (nh _) (by rw[b];omega) (by omega);rw[h,gz,c];have e:Value.cells (.slice none 0 0)=#[.slice none 0 0]:=rfl;rw[e,Ru]
structure jM(w0:World)(B gO:Nat)(W:World)(vs:List Value)(D:List (List gG)):Prop where
 out:aj W gO vs.toArray 168
 len:D.length=vs.length
 row:∀(i:Nat)(v:Value)(l:List gG),vs[i]?=some v->D[i]?=some l->W.ownsRow B 170 2 v l.length (l.flatMap mV)
 ent:∀(i:Nat)(l:List gG)(x:gG),D[i]?=some l->x∈l->W.ownsRow B 3 1 x.2.2 x.2.1.length (x.2.1.map bQ)
 ne:∀(i j:Nat)(v v':Value),i≠j->vs[i]?=some v->vs[j]?=some v'->∀g,v.ownBlock=some g->v'.ownBlock≠some g
 no:B<=gO
 b:Below B w0 W
section
variable {w0 W W':World} {B gO:Nat} {vs:List Value} {D:List (List gG)}
theorem jM.size(h:jM w0 B gO W vs D):B<=W.heap.size:=dg h.no (lh h.out.lt)
theorem jM.ko(h:jM w0 B gO W vs D):Kd W gO 168:=⟨_,h.out⟩
theorem jM.at(h:jM w0 B gO W vs D){i:Nat}{v:Value}(a:vs[i]?=some v):∃l,D[i]?=some l/\W.ownsRow B 170 2 v l.length (l.flatMap mV):=by
 obtain⟨l,b⟩:∃l,D[i]?=some l:=⟨_,cF (by rw[h.len];exact(cG.1 a).1)⟩;exact⟨l,b,h.row i v l a b⟩
theorem jM.kv(h:jM w0 B gO W vs D){i g:Nat}{v:Value}(b:vs[i]?=some v)(c:v.ownBlock=some g):Kd W g 170:=by
 obtain⟨l,-,a⟩:=h.at b;exact eU a c
theorem jM.move(h:jM w0 B gO W vs D)(a:Below W.heap.size W W'):jM w0 B gO W' vs D :=
 ⟨(a.block gO h.out.lt).trans h.out,h.len,fun i v l j c=>aC (h.row i v l j c) fun g d=>a.block g (h.kv j d).lt,fun i l x c f=>aC (h.ent i l x c f) fun g d=>a.block g ((h.ent i l x c f).lt g d).2,h.ne,h.no,h.b.trans (a.mono h.size)⟩
theorem jM.app(h:jM w0 B gO W vs D){i:Nat}{v q:Value}{l:List gG}{x:gG}(t:vs[i]?=some v)(L:D[i]?=some l)(o:W.grownBy W' v.ownBlock)(K:W'.ownsRow B 170 2 q (l++[x]).length ((l++[x]).flatMap mV))(N:W.ownsRow B 3 1 x.2.2 x.2.1.length (x.2.1.map bQ))(G:q.ownBlock=v.ownBlock\/∃k,q.ownBlock=some k/\W.heap.size<=k):jM w0 B gO (W'.setCell ⟨gO,i,none⟩ q) (vs.set i q) (D.set i (l++[x])):=by
 have kv:=h.row i v l t L;have z:aj W' gO vs.toArray 168:=(o.block gO h.out.lt fun e=>h.ko.ne (h.kv t e.symm) (by decide) rfl).trans h.out;have C:=(cG.1 t).1;have s:∀{u:Value}{n:Nat}{xs:List Value},W.ownsRow B 3 1 u n xs->(W'.setCell ⟨gO,i,none⟩ q).ownsRow B 3 1 u n xs:=fun E=>aC E fun g d=>by
  have H:Kd W g 3:=eU E d;exact(fQ _ _ (H.ne h.ko (by decide))).trans (o.block g H.lt fun e=>H.ne (h.kv t e.symm) (by decide) rfl)
 have J:∀{j g:Nat}{u:Value},i≠j->vs[j]?=some u->u.ownBlock=some g->q.ownBlock≠some g:=fun I a d e=>by
  rcases G with G|⟨k,F,P⟩
  ·exact h.ne _ _ _ _ I t a _ (G▸e) d
  ·rw[e]at F
   cases F;have:=(h.kv a d).lt;omega
 refine⟨?_,by simp[h.len],fun j u m a f=>?_,fun j m y f A=>?_,fun j k u O r a c g d=>?_,h.no,(h.b.grown o h.size fun k e=>(kv.lt k e).1).setCell (p:=⟨gO,i,none⟩) h.no _⟩
 ·have:=z.set i q
  rw[iz]at this;exact this
 ·rw[fk]at a f
  split at a
  ·rename_i e
   rw[de e,de (by rw[h.len];exact C)]at f
   try rw[de C]at a
   cases a;cases f;exact aC K fun g d=>fQ _ _ ((show Kd W' g 170 from eU K d).ne ⟨_,z⟩ (by decide))
  ·rename_i e
   rw[dk e]at f;exact aC (h.row j u m a f) fun g d=>(fQ _ _ ((h.kv a d).ne h.ko (by decide))).trans (o.block g (h.kv a d).lt fun F=>h.ne i j v u e t a g F.symm d)
 ·rw[fk]at f
  split at f
  ·try rw[de (by rw[h.len];exact C)]at f
   cases f;rw[cY,cM]at A;rcases A with A|rfl
   ·exact s (h.ent i l y L A)
   ·exact s N
  ·exact s (h.ent j m y f A)
 ·rw[fk]at a c
  split at a
  ·rename_i e
   try rw[de C]at a
   cases a;rw[dk (by rw[e];exact r)]at c;intro M;exact J (by rw[e];exact r) c M d
  ·rename_i e
   split at c
   ·try rw[de C]at c
    cases c;exact J e a d
   ·exact h.ne j k u O r a c g d
theorem jM.rows(h:jM w0 B gO W vs D):ru W (.slice (some ⟨gO,0,none⟩) vs.length vs.length) (D.map (List.map iZ)):=by
 refine⟨_,_,by rw[dt,h.len],fun i r d=>⟨gO,rfl,?_⟩⟩;rw[dj]at d;cases hl:D[i]? with
 |none=>rw[hl]at d;cases d
 |some l=>
  rw[hl]at d;cases d;obtain⟨v,j⟩:∃v,vs[i]?=some v:=⟨_,cF (by rw[<-h.len];exact(cG.1 hl).1)⟩;have f:=h.row i v l j hl;obtain⟨a,c,rfl,-⟩:=aB f;refine⟨.slice a l.length c,by rw[jt,h.out.cell,fR,j],a,c,by rw[dt],fun k x b=>?_⟩;rw[dj]at b;cases hy:l[k]? with
  |none=>rw[hy]at b;cases b
  |some y=>
   rw[hy]at b;cases b;obtain⟨m,o⟩:=Nt _ _ _ hy;obtain⟨g,p,e,n⟩:=mZ f m;cases e;exact⟨g,rfl,n _ _ m,_,n _ _ o,lD.own (h.ent i l y hl (cQ hy))⟩
end
structure jo(c:bA)(W:World)(B:Nat)(W':World)(vA:Value)(K:List (Nat×Nat))(gs:List Nat)(ss:List (List Nat)):Prop where
 b:Below B W W'
 k1:aj W' B #[.pointer (some ⟨c.lb,0,none⟩)] 216
 kg:iD bC W' (B+1) K
 k4:aj W' (B+2) #[.map (some (B+1))] 223
 k5:aj W' (B+3) #[vA] 149
 row:W'.ownsRow (B+4) 214 1 vA gs.length (gs.map (gY c.nw))
 sets:∀(i g:Nat),gs[i]?=some g->B+4<=g/\∃ws,ss[i]?=some ws/\TS W' g ws/\ws.length=c.nw
 qd:gs.Nodup
 lg:gs.length=K.length
 ls:ss.length=K.length
def vZ(B:Nat)(vA:Value)(gs:List Nat)(k:Nat):Prop:=(B<=k/\k<B+4)\/vA.ownBlock=some k\/k∈gs
structure ou(B:Nat)(W:World)(vA:Value)(gs:List Nat)(W':World)(zK:Value)(gs':List Nat):Prop where
 aU:∀k,k<W.heap.size->¬vZ B vA gs k->W'.heap[k]?=W.heap[k]?
 new:∀k,vZ B zK gs' k->vZ B vA gs k\/W.heap.size<=k
 bS:W.heap.size<=W'.heap.size
section
variable {c:bA} {W W1 W2:World} {B:Nat} {vA Bl vA2:Value} {K:List (Nat×Nat)} {gs gs1 gs2:List Nat} {ss:List (List Nat)}
theorem ou.refl(B:Nat)(W:World)(vA:Value)(gs:List Nat):ou B W vA gs W vA gs:=⟨fun _ _ _=>rfl,fun _ h=>.inl h,zL0⟩
theorem ou.trans(h:ou B W vA gs W1 Bl gs1)(k:ou B W1 Bl gs1 W2 vA2 gs2):ou B W vA gs W2 vA2 gs2 where
 aU x hx hn:=(k.aU x (dd hx h.bS) fun e=>by
  rcases h.new x e with e|e
  ·exact hn e
  ·omega).trans (h.aU x hx hn)
 new x hx:=by
  rcases k.new x hx with e|e
  ·exact h.new x e
  ·exact .inr (dg h.bS e)
 bS:=dg h.bS k.bS
theorem ou.below(a:Below W.heap.size W W1):ou B W vA gs W1 vA gs:=⟨fun k b _=>a.block k b,fun _ h=>.inl h,a.size⟩
theorem jo.lt(h:jo c W B W1 vA K gs ss){k:Nat}(a:vZ B vA gs k):k<W1.heap.size:=by
 rcases a with ⟨h1,h2⟩|a|a
 ·have:=h.k5.lt
  omega
 ·exact(h.row.lt k a).2
 ·obtain⟨i,d⟩:=eQ.1 a
  obtain⟨-,f,-,b,-⟩:=h.sets i k d;exact b.blk.lt
theorem jo.kA(h:jo c W B W1 vA K gs ss){g:Nat}(a:vA.ownBlock=some g):Kd W1 g 214:=eU h.row a
theorem jo.kG(h:jo c W B W1 vA K gs ss){g:Nat}(a:g∈gs):Kd W1 g 277:=by
 obtain⟨i,d⟩:=eQ.1 a;obtain⟨-,f,-,b,-⟩:=h.sets i g d;exact⟨_,b.blk⟩
theorem jo.move(h:jo c W B W1 vA K gs ss)(a:∀k,k<W1.heap.size->vZ B vA gs k->W2.heap[k]?=W1.heap[k]?)(d:Below B W W2):jo c W B W2 vA K gs ss:=by
 have h4:∀i,i<4->W2.heap[B+i]?=W1.heap[B+i]?:=fun i j=>a _ (by have:=h.k5.lt;omega) (.inl ⟨by omega,by omega⟩)
 exact⟨d,(h4 0 (by omega)).trans h.k1,h.kg.move (h4 1 (by omega)),(h4 2 (by omega)).trans h.k4,(h4 3 (by omega)).trans h.k5,aC h.row fun g hg=>a g (h.row.lt g hg).2 (.inr (.inl hg)),fun i g hg=>by
  obtain⟨h1,f,h2,h3,b⟩:=h.sets i g hg;exact⟨h1,f,h2,h3.move (a g h3.blk.lt (.inr (.inr (cQ hg)))),b⟩,h.qd,h.lg,h.ls⟩
theorem jo.below(h:jo c W B W1 vA K gs ss)(a:Below W1.heap.size W1 W2):jo c W B W2 vA K gs ss:=h.move (fun k d _=>a.block k d) (h.b.trans (a.mono (lh h.k1.lt)))
theorem jo.join(h:jo c W B W1 vA K gs ss){p g:Nat}{ws:List Nat}(hg:gs[p]?=some g)(r:ws.length=c.nw)(f:TP W1 g ws W2):jo c W B W2 vA K gs (ss.set p ws)/\ou B W1 vA gs W2 vA gs:=by
 have d:=cQ hg;obtain⟨t,-⟩:=h.sets p g hg;have ne:∀k,k<W1.heap.size->k≠g->W2.heap[k]?=W1.heap[k]?:=fun k a j=>f.gr.block k a fun e=>j (by cases e;rfl)
 have h4:∀i,i<4->W2.heap[B+i]?=W1.heap[B+i]?:=fun i u=>ne _ (by have:=h.k5.lt;omega) (by omega)
 refine⟨⟨h.b.grown f.gr (lh h.k1.lt) (fun k e=>by cases e;omega),(h4 0 (by omega)).trans h.k1,h.kg.move (h4 1 (by omega)),(h4 2 (by omega)).trans h.k4,(h4 3 (by omega)).trans h.k5,aC h.row fun k a=>ne k (h.row.lt k a).2 ((h.kA a).ne (h.kG d) (by decide)),fun i k a=>?_,h.qd,h.lg,by rw[ib];exact h.ls⟩,fun k a j=>ne k a fun e=>j (by rw[e];exact .inr (.inr d)),fun _ e=>.inl e,f.gr.size⟩;obtain⟨h1,l,h2,h3,m⟩:=h.sets i k a
 by_cases e:p=i
 ·subst e
  rw[hg]at a;cases a;exact⟨h1,ws,by rw[fk,de rfl,de (iA h2)],f.ts,r⟩
 ·exact⟨h1,l,by rw[fk,dk e];exact h2,h3.move (ne k h3.blk.lt fun o=>e (by
   subst o;obtain⟨s,q⟩:=cG.1 hg;obtain⟨v,n⟩:=cG.1 a;exact(lj h.qd).1 (q.trans n.symm))),m⟩
theorem jo.put(h:jo c W B W1 vA K gs ss){e:Nat×Nat}{g:Nat}{v:Value}{w3:World}(m:W1.grownBy W2 (some (B+1)))(s:iD bC W2 (B+1) (K++[e]))(x:W1.heap.size<=g)(D:TS W2 g (List.replicate c.nw 0))(d:W2.grownBy w3 vA.ownBlock)(C:w3.ownsRow (B+4) 214 1 v (gs++[g]).length ((gs++[g]).map (gY c.nw)))(l:v.ownBlock=vA.ownBlock\/∃k,v.ownBlock=some k/\W2.heap.size<=k):jo c W B (w3.setCell ⟨B+3,0,none⟩ v) v (K++[e]) (gs++[g]) (ss++[List.replicate c.nw 0])/\ou B W1 vA gs (w3.setCell ⟨B+3,0,none⟩ v) v (gs++[g]):=by
 have J:B+3<W1.heap.size:=h.k5.lt;have r:∀k,k<W1.heap.size->k≠B+1->W2.heap[k]?=W1.heap[k]?:=fun k hk j=>m.block k hk fun e=>j (by cases e;rfl)
 have O:∀k,vA.ownBlock=some k->Kd W2 k 214:=fun k hk=>by
  obtain⟨u,L⟩:=h.kA hk;have:=(h.row.lt k hk).1;exact⟨u,(r k (h.row.lt k hk).2 (by omega)).trans L⟩
 have p:∀k,k<W2.heap.size->vA.ownBlock≠some k->w3.heap[k]?=W2.heap[k]?:=fun k hk j=>d.block k hk fun e=>j e.symm
 have f:∀k,k<B+4->vA.ownBlock≠some k:=fun k hk e=>by have:=(h.row.lt k e).1;omega
 have o:W1.heap.size<=W2.heap.size:=m.size;have n:W2.heap.size<=w3.heap.size:=d.size;have q:∀k,k≠B+3->(w3.setCell ⟨B+3,0,none⟩ v).heap[k]?=w3.heap[k]?:=fun k hk=>fQ _ _ hk
 have all:∀k,k<W1.heap.size->k≠B+1->k≠B+3->vA.ownBlock≠some k->(w3.setCell ⟨B+3,0,none⟩ v).heap[k]?=W1.heap[k]?:=fun k hk h1 h3 l=>(q k h3).trans ((p k (by omega) l).trans (r k hk h1))
 have t:g<W2.heap.size:=D.blk.lt;have K6:vA.ownBlock≠some g:=fun e=>by have:=(h.row.lt g e).2;omega
 refine⟨⟨⟨d.1.trans (m.1.trans h.b.1),d.2.trans (m.2.trans h.b.2),d.3.trans (m.3.trans h.b.3),by simpa using dg h.b.4 (dg o n),fun k hk=>(all k (by omega) (by omega) (by omega) (f k (by omega))).trans (h.b.block k hk)⟩,(all B (by omega) (by omega) (by omega) (f B (by omega))).trans h.k1,s.move ((q _ (by omega)).trans (p _ (by omega) (f _ (by omega)))),(all (B+2) (by omega) (by omega) (by omega) (f _ (by omega))).trans h.k4,?_,?_,fun i k hk=>?_,?_,by simp[h.lg],by simp[h.ls]⟩,fun k hk j=>all k hk (fun e=>j (by rw[e];exact .inl ⟨by omega,by omega⟩)) (fun e=>j (by rw[e];exact .inl ⟨by omega,by omega⟩)) (fun e=>j (.inr (.inl e))),fun k hk=>?_,by simpa using dg o n⟩
 ·have k5:aj w3 (B+3) #[vA] 149:=(p _ (by omega) (f _ (by omega))).trans ((r _ J (by omega)).trans h.k5)
  exact k5.set 0 v
 ·exact aC C fun k hk=>q k fun e=>by have:=(C.lt k hk).1;omega
 ·rw[jj]at hk
  split at hk
  ·rename_i I
   obtain⟨h1,H,h2,h3,F⟩:=h.sets i k hk;refine⟨h1,H,by rw[eC (iA h2)];exact h2,h3.move (all k h3.blk.lt (by omega) (by omega) fun e=>(h.kA e).ne (h.kG (cQ hk)) (by decide) rfl),F⟩
  ·rename_i I
   have z:i-gs.length=0:=by
    have:=(cG.1 hk).1;simp at this;omega
   rw[z]at hk;cases hk;have y:i=gs.length:=by omega
   refine⟨by omega,_,by rw[y,h.lg,<-h.ls];simp,D.move ((q _ (by omega)).trans (p _ t K6)),im ..⟩
 ·rw[ik]
  exact⟨h.qd,by simp,fun a G b A=>by
   rw[cM]at A;rw[A];rintro rfl;have:=h.lt (.inr (.inr G));omega⟩
 ·rcases hk with hk | hk | hk
  ·exact .inl (.inl hk)
  ·rcases l with l | ⟨M,E,N⟩
   ·exact .inl (.inr (.inl (l▸hk)))
   ·rw[hk]at E
    cases E;exact .inr (by omega)
  ·rw[cY,cM]at hk
   rcases hk with hk|rfl
   ·exact .inl (.inr (.inr hk))
   ·exact .inr x
end
section
variable {c:bA} {S:bL} {dn dn':Nat -> Nat×Nat -> Prop} {K:List (Nat×Nat)} {ss:List (List Nat)} {j p nw:Nat} {e:Nat×Nat}
theorem mY.ext(h:mY S dn K ss)(hd:∀q f,dn q f↔dn' q f):mY S dn' K ss :=
 ⟨h.nd,h.len,fun f=>by rw[h.mem];exact⟨fun⟨i,k⟩=>⟨i,(hd i f).1 k⟩,fun⟨i,k⟩=>⟨i,(hd i f).2 k⟩⟩,fun q f t a=>by rw[h.has q f t a];exact⟨fun⟨i,k,l⟩=>⟨i,(hd i f).1 k,l⟩,fun⟨i,k,l⟩=>⟨i,(hd i f).2 k,l⟩⟩⟩
theorem mY.hit(h:mY S dn K ss)(hp:K[p]?=some e)(m:(S.ss.getD j []).length=(ss.getD p []).length):mY S (fun q f=>dn q f\/(q=j/\f=e)) K (ss.set p (dL (ss.getD p []) (S.ss.getD j []))):=by
 refine⟨h.nd,by rw[ib];exact h.len,fun f=>?_,fun q f t a=>?_⟩
 ·rw[h.mem]
  constructor
  ·rintro⟨i,k⟩
   exact⟨i,.inl k⟩
  ·rintro⟨i,k | ⟨-,rfl⟩⟩
   ·exact⟨i,k⟩
   ·exact(h.mem _).1 (cQ hp)
 ·have b:p<ss.length:=by rw[h.len];exact iA hp
  rw[ed,fk]
  by_cases e1:p=q
  ·subst e1
   rw[hp]at a;cases a;rw[de rfl,de b,pD,Rp m,oE,h.has p e t hp];constructor
   ·rintro(⟨i,k,l⟩ | k)
    ·exact⟨i,.inl k,l⟩
    ·exact⟨j,.inr ⟨rfl,rfl⟩,k⟩
   ·rintro⟨i,k | ⟨rfl,-⟩,l⟩
    ·exact .inl ⟨i,k,l⟩
    ·exact .inr l
  ·rw[dk e1,<-ed,h.has q f t a]
   constructor
   ·rintro⟨i,k,l⟩
    exact⟨i,.inl k,l⟩
   ·rintro⟨i,k | ⟨-,rfl⟩,l⟩
    ·exact⟨i,k,l⟩
    ·obtain⟨n,g⟩:=cG.1 hp
     obtain⟨o,d⟩:=cG.1 a;exact absurd ((lj h.nd).1 (g.trans d.symm)) e1
theorem mY.miss(h:mY S dn K ss)(m:e∉K)(u:(S.ss.getD j []).length=nw):mY S (fun q f=>dn q f\/(q=j/\f=e)) (K++[e]) ((ss++[List.replicate nw 0]).set K.length (dL ((ss++[List.replicate nw 0]).getD K.length []) (S.ss.getD j []))):=by
 have r:(ss++[List.replicate nw 0]).getD K.length []=List.replicate nw 0:=by rw[ed,<-h.len];simp
 have g:∀t,dU (List.replicate nw 0) t=false:=fun t=>by
  unfold dU;rw[ed,ju]
  split <;> simp
 have d:∀i,¬dn i e:=fun i k=>m ((h.mem e).2 ⟨i,k⟩)
 rw[r];refine⟨?_,by simp[h.len],fun f=>?_,fun q f t hq=>?_⟩
 ·rw[ik]
  exact⟨h.nd,by simp,fun a s b n=>by rw[cM]at n;rw[n];rintro rfl;exact m s⟩
 ·rw[cY,cM,h.mem]
  constructor
  ·rintro(⟨i,k⟩ | rfl)
   ·exact⟨i,.inl k⟩
   ·exact⟨j,.inr ⟨rfl,rfl⟩⟩
  ·rintro⟨i,k | ⟨-,rfl⟩⟩
   ·exact .inl ⟨i,k⟩
   ·exact .inr rfl
 ·rw[ed,fk]
  rw[jj]at hq
  by_cases e1:K.length=q
  ·subst e1
   rw[dk (by omega),ij]at hq;cases hq;rw[de rfl,de (by simp[h.len]),pD,Rp (by rw[u,im]),g,Bool.false_or];constructor
   ·intro k
    exact⟨j,.inr ⟨rfl,rfl⟩,k⟩
   ·rintro⟨i,k | ⟨rfl,-⟩,l⟩
    ·exact absurd k (d i)
    ·exact l
  ·rw[dk e1]
   split at hq
   ·rename_i o
    rw[eC (by rw[h.len];exact o),<-ed,h.has q f t hq];constructor
    ·rintro⟨i,k,l⟩
     exact⟨i,.inl k,l⟩
    ·rintro⟨i,k | ⟨-,rfl⟩,l⟩
     ·exact⟨i,k,l⟩
     ·exact absurd (cQ hq) m
   ·rename_i o
    have:=iA hq;simp at this;omega
def bA.qK(c:bA)(S:bL)(j i q:Nat)(f:Nat×Nat):Prop:=(q<j/\c.yD S q f)\/(q=j/\∃s x,S.st[j]?=some s/\x∈(c.yC s).take i/\f=bA.end x)
theorem aky{f:Nat×Nat}{q:Nat}:c.qK S 0 0 q f↔False:=by
 unfold bA.qK;constructor
 ·rintro(⟨h,-⟩ | ⟨-,s,x,-,h,-⟩)
  ·omega
  ·cases h
 ·exact False.elim
theorem aa4{s:Nat×Nat}{x:au×Nat}{i:Nat}(d:S.st[j]?=some s)(k:(c.yC s)[i]?=some x)(q:Nat)(f:Nat×Nat):(c.qK S j i q f\/(q=j/\f=bA.end x))↔c.qK S j (i+1) q f:=by
 unfold bA.qK;have g:(c.yC s).take (i+1)=(c.yC s).take i++[x]:=by rw[mS,k];rfl
 constructor
 ·rintro((h | ⟨rfl,l,y,a,b,rfl⟩) | ⟨rfl,rfl⟩)
  ·exact .inl h
  ·rw[d]at a
   cases a;exact .inr ⟨rfl,s,y,d,by rw[g,cY];exact .inl b,rfl⟩
  ·exact .inr ⟨rfl,s,x,d,by rw[g];simp,rfl⟩
 ·rintro(h | ⟨rfl,l,y,a,b,rfl⟩)
  ·exact .inl (.inl h)
  ·rw[d]at a
   cases a;rw[g,cY,cM]at b;rcases b with b|rfl
   ·exact .inl (.inr ⟨rfl,s,y,d,b,rfl⟩)
   ·exact .inr ⟨rfl,rfl⟩
theorem akz{s:Nat×Nat}(d:S.st[j]?=some s)(q:Nat)(f:Nat×Nat):c.qK S j (c.yC s).length q f↔c.qK S (j+1) 0 q f:=by
 unfold bA.qK;constructor
 ·rintro(⟨h,k⟩ | ⟨rfl,g,y,a,b,rfl⟩)
  ·exact .inl ⟨by omega,k⟩
  ·rw[d]at a
   cases a;rw[ft]at b;exact .inl ⟨by omega,s,y,d,b,rfl⟩
 ·rintro(⟨h,k⟩ | ⟨-,g,y,-,b,-⟩)
  ·by_cases e:q=j
   ·subst e
    obtain⟨g,y,a,b,rfl⟩:=k;rw[d]at a;cases a;exact .inr ⟨rfl,s,y,d,by rw[ft];exact b,rfl⟩
   ·exact .inl ⟨by omega,k⟩
  ·cases b
theorem alS{q:Nat}{f:Nat×Nat}:c.qK S S.st.length 0 q f↔c.yD S q f:=by
 unfold bA.qK;constructor
 ·rintro(⟨-,k⟩ | ⟨-,b,y,-,a,-⟩)
  ·exact k
  ·cases a
 ·rintro⟨s,x,h1,h2,rfl⟩
  exact .inl ⟨iA h1,s,x,h1,h2,rfl⟩
end
section
variable {F:Fence} {n fuel:Nat} {P:Program} {ops:Array Oper} {Q:Exit -> Act -> World -> Prop} {md:Region.Mode} {listed:Array Bool} {a:Act} {w:World} {o o':Oper}
theorem uR(m:Nat)(c:Region.ready md ops listed=[m])(b:ops[m]?=some o)(h:∀K':Act->World->Prop,(∀a w,wpAnyIn F n P md ops Q fuel (listed.setIfInBounds m true) a w->K' a w)->if Region.wanted o (yielded ops a.tmps)=true then Oper.wpIn F n P o a w K' Q else (∀f,o.about P w a.eval=some f->F.fn f)/\K' (a.put o.dst undef) w):wpAnyIn F n P md ops Q (fuel+1) listed a w:=wpAnyIn_ready c (by simp) (AllReadyIn.cons b h AllReadyIn.nil)
theorem zV(m k:Nat)(d:Region.ready md ops listed=[m,k])(c:ops[m]?=some o)(b:ops[k]?=some o')(h:∀K':Act->World->Prop,(∀a w,wpAnyIn F n P md ops Q fuel (listed.setIfInBounds m true) a w->K' a w)->if Region.wanted o (yielded ops a.tmps)=true then Oper.wpIn F n P o a w K' Q else (∀f,o.about P w a.eval=some f->F.fn f)/\K' (a.put o.dst undef) w)(g:∀K':Act->World->Prop,(∀a w,wpAnyIn F n P md ops Q fuel (listed.setIfInBounds k true) a w->K' a w)->if Region.wanted o' (yielded ops a.tmps)=true then Oper.wpIn F n P o' a w K' Q else (∀f,o'.about P w a.eval=some f->F.fn f)/\K' (a.put o'.dst undef) w):wpAnyIn F n P md ops Q (fuel+1) listed a w:=wpAnyIn_ready d (by simp) (AllReadyIn.cons c h (AllReadyIn.cons b g AllReadyIn.nil))
end
end Go.Proofs.YtagkodkijkpemaaGreatDoor
