import Derived.Test.YtlcppnabbicmoaaGreatDoorMG29
set_option maxHeartbeats 8000000
set_option maxRecDepth 1000000
namespace Go.Proofs.YtlcppnabbicmoaaGreatDoor
open Lx Go.Proofs.Tryz
open Go.RowKit Tr
structure Me (F:Nat->Prop) (B0:Nat) (w:World) (mb:Nat) (vL vR vW vO:Value) (g:Lx.Gr) (row:List ByteArray) (gs:List Nat) (M:List (List Bool)):Prop where
 blk:aj w mb #[vL,vR,vW,vO] 95
 dg:DG F w vL vR g
 wd:w.ownsRow 0 9 1 vW row.length (row.map Value.string)
 on:BD B0 w vO ((row.length+1)*(row.length+1)) gs M
 le:row.length<=1048576
 gl:gs.length=g.rules.length
theorem Me.below {F:Nat->Prop}{B0:Nat}{w w':World}{mb:Nat}{vL vR vW vO:Value}{g:Lx.Gr}{row:List ByteArray}{gs:List Nat}{M:List (List Bool)}(h:Me F B0 w mb vL vR vW vO g row gs M)(hb:Below w.heap.size w w'):Me F B0 w' mb vL vR vW vO g row gs M :=
 ⟨(hb.block _ h.blk.lt).trans h.blk,h.dg.below hb,aD h.wd fun g hg=>hb.block g (h.wd.lt g hg).2,h.on.move fun g hg=>hb.block g hg,h.le,h.gl⟩
def vZ (n:Nat)(w:World)(R:ByteArray->Nat->Nat->Prop)(row:List ByteArray)(A:List Bool)(nd:Lx.Nd)(e:Ending)(w':World):Prop:=∃ (lg:Nat) (L:List Bool),e=.returned (.slice (some ⟨lg,0,none⟩) n n)/\w.heap.size<=lg/\aj w' lg (aL L) 4/\Lx.From R row A nd L/\Below w.heap.size w w'
theorem vZ.mk {n:Nat}{w:World}{R:ByteArray->Nat->Nat->Prop}{row:List ByteArray}{A:List Bool}{nd:Lx.Nd}{e:Ending}{w':World}(lg:Nat)(L:List Bool)(he:e=.returned (.slice (some ⟨lg,0,none⟩) n n))(hl:w.heap.size<=lg)(hB:aj w' lg (aL L) 4)(hF:Lx.From R row A nd L)(hb:Below w.heap.size w w'):vZ n w R row A nd e w':=⟨lg,L,he,hl,hB,hF,hb⟩
def Gets (w:World)(R:ByteArray->Nat->Nat->Prop)(row:List ByteArray)(A:List Bool)(nd:Lx.Nd):Ending->World->Prop:=vZ (row.length+1) w R row A nd
theorem BO {n:Nat}(hn:n<=1099513724929)(w:World):(Instr.makeSlice 39 (.int .i64 (n:Int)) (.int .i64 (n:Int))).run prog w=.ok (.slice (some ⟨w.heap.size,0,none⟩) n n) (w.alloc (.cells (aL (List.replicate n false)) 4)):=by
 obtain⟨i0,hi,hz0,hz1,hz2⟩:=info_parts Tryz.QO;have h:=run_make (P:=prog) w 39 4 i0 _ (by kernel_rfl) hi hz0 .i64 .i64 (n:Int) (n:Int) (by omega) (Int.le_refl _) (by rw[hz2];omega) (by omega);rw[h,Int.toNat_natCast,hz1];have e:Value.cells (.bool false)=#[.bool false]:=rfl;rw[e,OV]
theorem Lx.ajG {L:List Bool}{b:Nat}{v:Bool}(h:au L b=v)(hb:b<L.length):L.set b v=L:=by
 rw[<-h,EW hb];exact List.set_getElem_self _
theorem Lx.aiQ {A S:List Bool}{b:Nat}(hb:b<A.length):(bV A S b).set b (au (bV A S b) b || au S b)=bV A S (b+1):=by
 cases h1:au S b with
 | true=>rw[Bool.or_true,YM hb h1]
 | false =>
  rw[Bool.or_false,Px (.inl h1)];exact ajG rfl (by rw[lT];exact hb)
theorem mE.put {w wr:World}{og:Nat}{A S:List Bool}{b:Nat}(h:mE w og A (bV A S b) wr)(hb:b<A.length){v:Bool}(hv:(au (bV A S b) b || au S b)=v):mE w og A (bV A S (b+1)) (wr.setCell ⟨og,b,none⟩ (.bool v)):=by
 obtain⟨h0,h1,h2,h3,h4,h5⟩:=h;refine⟨?_,fun g hg=>(hs0 hg).trans (h1 g hg),h2,h3,h4,by simpa [World.setCell]using h5⟩;have:=h0.set b (.bool v);rw[p9,<-hv,aiQ hb]at this;rw[<-hv];exact this
theorem mE.zero {w:World}{og:Nat}{A S:List Bool}(h:aj w og (aL A) 4):mE w og A (bV A S 0) w:=⟨by rw[KX];exact h,fun _ _=>rfl,rfl,rfl,rfl,rfl⟩
theorem mE.below {w wr:World}{og:Nat}{A C:List Bool}(h:mE w og A C wr){B:Nat}{w0:World}(hb:Below B w0 w)(ho:B<=og):Below B w0 wr:=⟨h.os.trans hb.os,h.tape.trans hb.tape,h.output.trans hb.output,by rw[h.size];exact hb.size,fun g hg=>(h.wR g (by omega)).trans (hb.block g hg)⟩
def wS (g:Lx.Gr)(x:Lx.It):Prop:=(x.kind=0/\0<=bA (aG g) x.name\/x.kind=1\/x.kind=2)/\(x.mark=0\/x.mark=42\/x.mark=43\/x.mark=63)
def LV (d:Nat):Prop:=∀ (F:Nat->Prop) (B0:Nat) (w:World) (mb:Nat) (vL vR vW vO:Value) (g:Lx.Gr) (row:List ByteArray) (gs:List Nat) (M:List (List Bool)),Me F B0 w mb vL vR vW vO g row gs M->∀ (v:Value) (l:List Lx.Alt),ay YR d F w v l->(∀ x∈aX d l,wS g x)->∀ (ag:Nat) (A:List Bool),aj w ag (aL A) 4->A.length=row.length+1 ->
 Calls prog 39 #[.pointer (some ⟨mb,0,none⟩),v,.slice (some ⟨ag,0,none⟩) (row.length+1) (row.length+1)] w (Gets w (Lx.RM g M (row.length+1)) row A (.A l))
def Z5 (d:Nat):Prop:=∀ (F:Nat->Prop) (B0:Nat) (w:World) (mb:Nat) (vL vR vW vO:Value) (g:Lx.Gr) (row:List ByteArray) (gs:List Nat) (M:List (List Bool)),Me F B0 w mb vL vR vW vO g row gs M->∀ (va:Value) (x:Lx.It),ay YR d F w va x.alts->(∀ y∈nA d x,wS g y)->∀ (ag:Nat) (A:List Bool),aj w ag (aL A) 4->A.length=row.length+1 ->
 Calls prog 118 #[.pointer (some ⟨mb,0,none⟩),.agg #[.int .i64 (x.kind:Int),.string x.name,.int .u8 (x.mark:Int),va,.int .i64 (x.place:Int)],.slice (some ⟨ag,0,none⟩) (row.length+1) (row.length+1)] w (Gets w (Lx.RM g M (row.length+1)) row A (.P x))
theorem aiR {d:Nat}(IH:LV d):Z5 d:=by
 intro F B0 w mb vL vR vW vO g row gs M h va x hx hxk ag A kA hA;obtain⟨a1,c1,pR,hmr⟩:=h.dg.o9;obtain⟨a2,c2,qD,-⟩:=h.dg.qm;obtain⟨xa,xc,hva,-⟩:=ay.len hx;obtain⟨wa,wc,DC,-⟩:=aI h.wd;obtain⟨oa,oc,rC,-⟩:=aI h.on.outer;subst pR qD hva DC rC;obtain⟨hK,-⟩:=hxk x List.mem_cons_self;have hle:=h.le;have zO:=L6 hle;have lA:=kA.lt;have jL:=h.blk.lt;obtain⟨W,hW⟩:∃ W,W=w.alloc (.cells #[.int .i64 (x.kind:Int),.string x.name,.int .u8 (x.mark:Int),.slice xa x.alts.length xc,.int .i64 (x.place:Int)] 148):=⟨_,rfl⟩;have hbW:Below w.heap.size w W:=by rw[hW];exact (Below.refl _ _).alloc (lr0) _
 have hWs:W.heap.size=w.heap.size+1:=by rw[hW];simp
 have kx:aj W w.heap.size #[.int .i64 (x.kind:Int),.string x.name,.int .u8 (x.mark:Int),.slice xa x.alts.length xc,.int .i64 (x.place:Int)] 148:=by rw[hW];exact aj.new w _ 148
 have x0:W.cell? ⟨w.heap.size,0,none⟩=some (.int .i64 (x.kind:Int)):=kx.cell 0;have x3:W.cell? ⟨w.heap.size,3,none⟩=some (.slice xa x.alts.length xc):=kx.cell 3;unfold Gets;go_enter func118,ntmps118
 by_cases hk2:x.kind=2
 ·have hkb:((x.kind:Int) == 2)=true:=by simp[hk2]
  have zP:Hid (x.kind=2):=hk2;clear hk2;have q1:=IH F B0 W mb _ _ _ _ g row gs M (h.below hbW) _ _ (ay.move (fun b hb'=>hbW.block b (h.dg.lt b hb')) (fun _ h=>h) hx) (fun y hy=>hxk y (List.mem_cons_of_mem _ hy)) ag A ((hbW.block _ lA).trans kA) hA;go_wp2_with fail;rw[<-hW];refine q1.mono ?_;rintro e w1 ⟨lg,L,rfl,Bh,kL,hL,hb1⟩;go_wp2_with fail;go_ret;exact vZ.mk lg L rfl (by omega) kL (hL.aF zP.out) (hbW.trans (hb1.mono hbW.size))
 ·have hkb:((x.kind:Int) == 2)=false:=bq0 (by omega)
  obtain⟨n,hn⟩:∃ n,n=row.length+1:=⟨_,rfl⟩;have hnn:n<=1048577:=by omega
  have akV:n*n<=1099513724929:=by rw[hn];exact zO
  have hme:Me F B0 W mb _ _ _ _ g row gs M:=h.below hbW;have HN:Hid (n=row.length+1):=hn;rw[<-hn]at hA |-;have hmk:=fun w=>BO (n:=n) (by omega) w
  have HF:Hid (∀ L,jm (Lx.RM g M n) row A x n L->Lx.From (Lx.RM g M n) row A (.P x) L):=fun L hL=>jm.last (by rw[hA];exact hL)
  clear hn hx IH hxk;obtain⟨W2,hW2⟩:∃ W2,W2=W.alloc (.cells (aL (List.replicate n false)) 4):=⟨_,rfl⟩;have hb2:Below W.heap.size W W2:=by rw[hW2];exact (Below.refl _ _).alloc (lr0) _
  have hs2:W2.heap.size=W.heap.size+1:=by rw[hW2];simp
  have kO:aj W2 W.heap.size (aL (List.replicate n false)) 4:=by rw[hW2];exact aj.new W _ 4
  obtain⟨og,hog⟩:∃ og,w.heap.size+1=og:=⟨_,rfl⟩;rw[hWs]at kO hb2 hs2;have H0:Hid (jm (Lx.RM g M n) row A x 0 (List.replicate n false)):=by rw[<-hA];exact jm.zero
  go_wp2_with fail;rw[<-hW,<-hW2];clear hW hW2 x0 x3;rw[hog]at kO hb2 hs2 hWs;have hbw2:Below w.heap.size w W2:=hbW.trans (hb2.mono (by omega))
  go_loopg [9] n (fun k i wr=>∃ (q:Nat) (L:List Bool),q+k=n/\i=.int .i64 (q:Int)/\Below og W wr/\og<wr.heap.size/\aj wr og (aL L) 4/\L.length=n/\Hid (jm (Lx.RM g M n) row A x q L))
  case atStart=>exact⟨0,_,by omega,rfl,hb2,by omega,kO,by simp,H0⟩
  case round =>
   clear hb2 hs2 kO H0 hbw2;revert wr;intro wz hrel;obtain⟨q,L,hq,rfl,hbz,lz,kL,su,HP⟩:=hrel;have mF:Below w.heap.size w wz:=hbW.trans (hbz.mono (by omega));have hsz:=hbz.size
   by_cases hlt:q<n
   ·have dY:aj wz ag (aL A) 4:=(hbz.block _ (by omega)).trans ((hbW.block _ lA).trans kA)
    have cA:wz.cell? ⟨ag,q,none⟩=some (.bool (au A q)):=(dY.cell q).trans (fI A (by omega));have NW:aj wz w.heap.size _ 148:=(hbz.block _ (by omega)).trans kx;have x0:wz.cell? ⟨w.heap.size,0,none⟩=some (.int .i64 (x.kind:Int)):=NW.cell 0;have x1:wz.cell? ⟨w.heap.size,1,none⟩=some (.string x.name):=NW.cell 1;have i1:(0:Int)<=(q:Int):=by omega
    have i2:(q:Int)<(n:Int):=by omega
    cases hat:au A q with
    | false =>
     have gJ:Hid (jm (Lx.RM g M n) row A x (q+1) L):=HP.out.skip hat;rw[hat]at cA;clear hat HP;go_wp2_with fail;go_roundg (n - (q+1))
     case measure=>omega
     case rel=>exact⟨q+1,L,by omega,by go_num,hbz,lz,kL,su,gJ⟩
    | true =>
     rw[hat]at cA;have HAT:Hid (au A q=true):=hat;have mz:Me F B0 wz mb _ _ _ _ g row gs M:=h.below mF;have m0:wz.cell? ⟨mb,0,none⟩=some (.slice a2 g.levels.length c2):=mz.blk.cell 0;have m1:wz.cell? ⟨mb,1,none⟩=some (.slice a1 g.rules.length c1):=mz.blk.cell 1;have m2:wz.cell? ⟨mb,2,none⟩=some (.slice wa row.length wc):=mz.blk.cell 2;have m3:wz.cell? ⟨mb,3,none⟩=some (.slice oa gs.length oc):=mz.blk.cell 3;clear hat
     by_cases hk1:x.kind=1
     ·have akW:((x.kind:Int) == 1)=true:=by simp[hk1]
      by_cases hq1:q+1<n
      ·have hqr:q<row.length:=by have:=HN.out;omega
       obtain⟨gw,cw,hvw,-,-⟩:=mz.wd.form (by omega);cases hvw;have cW:=mz.wd.cellAt q (by simpa using hqr);rw[List.getElem?_map,List.getElem?_eq_getElem hqr]at cW;simp only[Option.map_some]at cW;have i3:(q:Int)<(row.length:Int):=by omega
       have i4:(q:Int)+1<(n:Int):=by omega
       have HZ:Hid (∀ nq,Below og W (wz.drewN nq)):=fun nq=>hbz.trans ⟨rfl,rfl,rfl,lr0,fun _ _=>rfl⟩
       by_cases hnm:row[q]=x.name
       ·have gJ:Hid (jm (Lx.RM g M n) row A x (q+1) (L.set (q+1) true)):=HP.out.akT (by rw[<-HN.out];exact hA) hk1 HAT.out (by rw[List.getElem?_eq_getElem hqr,hnm])
        have hne:(row[q].toList == x.name.toList)=true:=by rw[Cc];simpa using hnm
        generalize row[q]=rq at cW hne;have cO:wz.cell? ⟨og,q+1,none⟩=some (.bool (au L (q+1))):=(kL.cell (q+1)).trans (fI L (by omega));have hl2:(L.set (q+1) true).length=n:=by simpa using su
        clear HP hnm;go_wp2_with fail
        go_quiet (fail)
        obtain⟨wq,hwq⟩:∃ wq,wq=wz.drewN nq:=⟨_,rfl⟩;have TY:aj wq og (aL L) 4:=by rw[hwq];exact kL
        have cOq:wq.cell? ⟨og,q+1,none⟩=some (.bool (au L (q+1))):=by rw[hwq];exact cO
        have fO:∀ i,wq.frozen? ⟨og,i,none⟩=false:=TY.frozen;have Bu:=TY.set (q+1) (.bool true);rw[p9]at Bu;have hbq:Below og W wq:=by rw[hwq];exact HZ.out nq
        have lq:og<wq.heap.size:=TY.lt;rw[<-hwq];clear hwq cO x0 x1 m0 m1 m2 m3 cA cW;have sQ:Below og W (wq.setCell ⟨og,q+1,none⟩ (.bool true)):=hbq.setCell (p:=⟨og,q+1,none⟩) (lr0) _;have lz2:og<(wq.setCell ⟨og,q+1,none⟩ (.bool true)).heap.size:=by simpa [World.setCell]using lq
        go_wp2_with fail;go_roundg (n - (q+1))
        case measure=>omega
        case rel=>exact⟨q+1,_,by omega,by go_num,sQ,lz2,Bu,hl2,gJ⟩
       ·have gJ:Hid (jm (Lx.RM g M n) row A x (q+1) L):=HP.out.iV hk1 (by rw[List.getElem?_eq_getElem hqr];exact fun e=>hnm (Option.some.inj e))
        have hne:(row[q].toList == x.name.toList)=false:=by rw[Cc];simpa using hnm
        generalize row[q]=rq at cW hne;clear HP hnm;go_wp2_with fail
        go_quiet (fail)
        go_wp2_with fail;go_roundg (n - (q+1))
        case measure=>omega
        case rel=>exact⟨q+1,L,by omega,by go_num,HZ.out _,lz,kL,su,gJ⟩
      ·have gJ:Hid (jm (Lx.RM g M n) row A x (q+1) L):=HP.out.iV hk1 (by rw[List.getElem?_eq_none (by have:=HN.out;omega)];exact fun e=>by cases e)
       have HZ:Hid (∀ nq,Below og W (wz.drewN nq)):=fun nq=>hbz.trans ⟨rfl,rfl,rfl,lr0,fun _ _=>rfl⟩
       have i4:((q:Int)+1<(n:Int))=False:=eq_false (by omega);have i5:decide ((q:Int)+1<(n:Int))=false:=decide_eq_false (by omega);clear HP hq1;go_wp2_with fail
       go_quiet (fail)
       go_wp2_with fail;go_roundg (n - (q+1))
       case measure=>omega
       case rel=>exact⟨q+1,L,by omega,by go_num,HZ.out _,lz,kL,su,gJ⟩
     ·have akW:((x.kind:Int) == 1)=false:=bq0 (by omega)
      obtain⟨hk0,hfn⟩:x.kind=0/\0<=bA (aG g) x.name:=by
       rcases hK with hK | hK | hK
       ·exact hK
       ·exact absurd hK hk1
       ·exact absurd hK hk2
      have gJ:Hid (jm (Lx.RM g M n) row A x (q+1) (bV L (rO M n (Lx.fix (aG g) x.name) q) n)):=HP.out.rule hA hk0 HAT.out;obtain⟨r,hr⟩:∃ r,r=Lx.fix (aG g) x.name:=⟨_,rfl⟩;have hrl:r<g.rules.length:=by rw[hr];have:=(uo hfn).2;simpa [aG]using this
      have hrf:bA (uw g) x.name=(r:Int):=by rw[hr];exact (uo hfn).1
      rw[<-hr]at gJ;clear HP hK hr hk0 hfn;obtain⟨gO,AP,rC,NY,kb',lb⟩:=h.on.at (i:=r) (by rw[h.gl];exact hrl);cases rC;have hgb:gs[r]'(by rw[h.gl];exact hrl)<w.heap.size:=h.on.lt (List.getElem_mem _);generalize gs[r]'(by rw[h.gl];exact hrl)=gb at NY kb' hgb;rw[<-HN.out]at NY lb;have dgz:=mz.dg;have hgl:=h.gl;have i5:(0:Int)<=(r:Int):=by omega
      have i6:(r:Int)<(gs.length:Int):=by omega
      obtain⟨mm,hmm⟩:∃ mm,mm=q*n:=⟨_,rfl⟩;have hmb:mm+n<=n*n:=by
       have:(q+1)*n<=n*n:=Nat.mul_le_mul_right _ hlt;rw[Nat.add_mul]at this;omega
      have e2:IntKind.i64.wrap ((q:Int)*(n:Int))=(mm:Int):=by rw[hmm,Int.natCast_mul];exact wrap64 (by omega)
      have e2':(q:Int)*(n:Int)=(mm:Int):=by rw[hmm,Int.natCast_mul]
      have HM:Hid (mm=q*n):=hmm;obtain⟨nn,abg⟩:∃ nn,nn=n*n:=⟨_,rfl⟩;rw[<-abg]at hmb akV NY lb;clear hmm abg;go_wp2_with fail
      go_region_law (have q1:=BS (dgz.below (w':=wz.drew) ⟨rfl,rfl,rfl,lr0,fun _ _=>rfl⟩) x.name;rw[hrf]at q1;refine mZ rfl 107 #[.agg #[.slice a2 g.levels.length c2,.slice a1 g.rules.length c1],.string x.name] (by go_simp) q1 ?_;rintro e w1 ⟨rfl,hb1⟩;refine⟨_,rfl,?_⟩)
      all_goals
       have hb6:Below wz.heap.size wz w1:=(Below.refl _ wz).drew.trans hb1;have kL1:aj w1 og (aL L) 4:=(hb6.block _ lz).trans kL;have dV:Below w.heap.size w w1:=mF.trans (hb6.mono mF.size);have hs6:=hb6.size;clear x0 x1 m0 m1 m2 m3 cA dgz;go_wp2_with fail
       go_loopg [11] (n-q) (fun k i wr=>∃ b:Nat,b+k=n/\q<=b/\i=.int .i64 (b:Int)/\mE w1 og L (bV L (rO M n r q) b) wr)
       case atStart=>exact⟨q,by omega,lr0,rfl,by rw[agD su];exact⟨kL1,fun _ _=>rfl,rfl,rfl,rfl,rfl⟩⟩
       case round =>
        obtain⟨b,hkb,hqb,rfl,hJ⟩:=hrel;have hbr:Below w.heap.size w wr:=hJ.below dV (by omega)
        by_cases RZ:b<n
        ·have mr:Me F B0 wr mb _ _ _ _ g row gs M:=h.below hbr
         have m3:wr.cell? ⟨mb,3,none⟩=some (.slice (some ⟨gO,0,none⟩) gs.length oc):=mr.blk.cell 3;have cM:wr.cell? ⟨gO,r,none⟩=some (.slice (some ⟨gb,0,none⟩) nn nn):=cell_below hbr NY;have kb:aj wr gb _ 4:=(hbr.block _ hgb).trans kb';obtain⟨ki,hki⟩:∃ ki,ki=mm+b:=⟨_,rfl⟩;have e3:IntKind.i64.wrap ((mm:Int)+(b:Int))=(ki:Int):=by rw[hki,Int.natCast_add];exact wrap64 (by omega)
         have e3':(mm:Int)+(b:Int)=(ki:Int):=by omega
         have hS:au (rO M n r q) b=au (Lx.rowAt M r) ki:=by
          rw[Qg RZ,hki,HM.out];simp[hqb,eP]
         have cS:wr.cell? ⟨gb,ki,none⟩=some (.bool (au (rO M n r q) b)):=by rw[hS];exact (kb.cell ki).trans (fI _ (by omega))
         have cO:wr.cell? ⟨og,b,none⟩=some (.bool (au (bV L (rO M n r q) b) b)):=(hJ.blk.cell b).trans (fI _ (by rw[lT];omega));have fO:∀ i,wr.frozen? ⟨og,i,none⟩=false:=hJ.blk.frozen;have j1:(0:Int)<=(b:Int):=by omega
         have j2:(b:Int)<(n:Int):=by omega
         have j3:(0:Int)<=(ki:Int):=by omega
         have j4:(ki:Int)<(nn:Int):=by omega
         have HJ:Hid (∀ v,(au (bV L (rO M n r q) b) b || au (rO M n r q) b)=v->mE w1 og L (bV L (rO M n r q) (b+1)) (wr.setCell ⟨og,b,none⟩ (.bool v))):=fun v hv=>hJ.put (by omega) hv
         clear hki hS hJ kb hbr mr;generalize au (bV L (rO M n r q) b) b=b1 at cO HJ;generalize au (rO M n r q) b=b2 at cS HJ;cases b1 <;> cases b2
         all_goals
          go_wp2_with fail;go_roundg (n - (b+1))
          case measure=>omega
          case rel=>exact⟨b+1,by omega,by omega,by go_num,HJ.out _ rfl⟩
        ·obtain rfl:b=n:=by omega
         go_wp2_with fail;go_roundg (b - (q+1))
         case measure=>omega
         case rel=>exact⟨q+1,_,by omega,by go_num,hJ.below (hbz.trans (hb6.mono (by omega))) (lr0),by rw[hJ.size];omega,hJ.blk,by rw[lT];exact su,gJ⟩
   ·obtain rfl:q=n:=by omega
    go_wp2_with fail;go_ret;exact vZ.mk og L rfl (by omega) kL (HF.out L HP.out) mF
def Z6 (d:Nat):Prop:=∀ (F:Nat->Prop) (B0:Nat) (w:World) (mb:Nat) (vL vR vW vO:Value) (g:Lx.Gr) (row:List ByteArray) (gs:List Nat) (M:List (List Bool)),Me F B0 w mb vL vR vW vO g row gs M->∀ (va:Value) (x:Lx.It),ay YR d F w va x.alts->(∀ y∈nA d x,wS g y)->∀ (ag:Nat) (A:List Bool),aj w ag (aL A) 4->A.length=row.length+1 ->
 Calls prog 80 #[.pointer (some ⟨mb,0,none⟩),.agg #[.int .i64 (x.kind:Int),.string x.name,.int .u8 (x.mark:Int),va,.int .i64 (x.place:Int)],.slice (some ⟨ag,0,none⟩) (row.length+1) (row.length+1)] w (Gets w (Lx.RM g M (row.length+1)) row A (.I x))
theorem aiS {d:Nat}(IH:Z5 d):Z6 d:=by
 intro F B0 w mb vL vR vW vO g row gs M h va x hx hxk ag A kA hA;obtain⟨xa,xc,hva,-⟩:=ay.len hx;subst hva;obtain⟨-,hmk⟩:=hxk x List.mem_cons_self;have hle:=h.le;have lA:=kA.lt;have jL:=h.blk.lt;obtain⟨W,hW⟩:∃ W,W=w.alloc (.cells #[.int .i64 (x.kind:Int),.string x.name,.int .u8 (x.mark:Int),.slice xa x.alts.length xc,.int .i64 (x.place:Int)] 148):=⟨_,rfl⟩;have hbW:Below w.heap.size w W:=by rw[hW];exact (Below.refl _ _).alloc (lr0) _
 have hWs:W.heap.size=w.heap.size+1:=by rw[hW];simp
 have kx:aj W w.heap.size #[.int .i64 (x.kind:Int),.string x.name,.int .u8 (x.mark:Int),.slice xa x.alts.length xc,.int .i64 (x.place:Int)] 148:=by rw[hW];exact aj.new w _ 148
 have x0:W.cell? ⟨w.heap.size,0,none⟩=some (.int .i64 (x.kind:Int)):=kx.cell 0;have x1:W.cell? ⟨w.heap.size,1,none⟩=some (.string x.name):=kx.cell 1;have x2:W.cell? ⟨w.heap.size,2,none⟩=some (.int .u8 (x.mark:Int)):=kx.cell 2;have x3:W.cell? ⟨w.heap.size,3,none⟩=some (.slice xa x.alts.length xc):=kx.cell 3;have x4:W.cell? ⟨w.heap.size,4,none⟩=some (.int .i64 (x.place:Int)):=kx.cell 4;obtain⟨n,hn⟩:∃ n,row.length+1=n:=⟨_,rfl⟩;have Q2:∀ {w':World} (hb:Below w.heap.size w w') (ag:Nat) (A:List Bool),aj w' ag (aL A) 4->A.length=n->Calls prog 118 #[.pointer (some ⟨mb,0,none⟩),.agg #[.int .i64 (x.kind:Int),.string x.name,.int .u8 (x.mark:Int),.slice xa x.alts.length xc,.int .i64 (x.place:Int)],.slice (some ⟨ag,0,none⟩) n n] w' (fun e w''=>∃ (lg:Nat) (L:List Bool),e=.returned (.slice (some ⟨lg,0,none⟩) n n)/\w'.heap.size<=lg/\aj w'' lg (aL L) 4/\Hid (Lx.From (Lx.RM g M n) row A (.P x) L)/\L.length=n/\Below w'.heap.size w' w''):=by
  subst hn;intro w' hb ag A k hl;exact (IH F B0 w' mb vL vR vW vO g row gs M (h.below hb) _ x (ay.move (fun b hb'=>hb.block b (h.dg.lt b hb')) (fun _ h=>h) hx) hxk ag A k hl).mono fun e w'' ⟨lg,L,h1,h2,h3,h4,h5⟩=>⟨lg,L,h1,h2,h3,h4,by rw[h4.1];exact hl,h5⟩
 have HR:Hid (∀ (b:ByteArray) (i j:Nat),Lx.RM g M n b i j->i<=j/\j<=row.length):=by subst hn;exact Lx.RM.bd
 unfold Gets;rw[hn]at hA |-;have q1:=Q2 hbW ag A ((hbW.block _ lA).trans kA) hA;have hnn:n<=1048577:=by omega
 have HA:Hid (A.length=row.length+1):=by show _=_;omega
 clear h hx hxk IH hn;go_enter func80,ntmps80;go_wp2_with fail;rw[<-hW];clear hW;go_wp2_with fail;refine q1.mono ?_;rintro e w1 ⟨lg,O,rfl,Bh,kO,HO',lO,hb1⟩;have hO:=HO'.out;clear HO' q1 x0 x1 x2 x3 x4;have dV:Below w.heap.size w w1:=hbW.trans (hb1.mono hbW.size);have hs1:=hb1.size;have T9:aj w1 w.heap.size _ 148:=(hb1.block _ (by omega)).trans kx;have x2:w1.cell? ⟨w.heap.size,2,none⟩=some (.int .u8 (x.mark:Int)):=T9.cell 2
 by_cases hm0:x.mark=0
 ·have hb0:((x.mark:Int) == 0)=true:=by simp[hm0]
  have HO:Hid (Lx.From (Lx.RM g M n) row A (.I x) O):=hO.ahC hm0;clear hO hm0 hmk;go_wp2_with fail;go_ret;exact vZ.mk lg O rfl (by omega) kO HO.out dV
 ·have hb0:((x.mark:Int) == 0)=false:=bq0 (by omega)
  have Nk:x.mark=42\/x.mark=43\/x.mark=63:=by omega
  have HB:Hid (u7 (Lx.RM g M n) row A x 0 (Lx.upTo n (yX A O x.mark) n)):=by
   have:=u7.beg hO Nk;rw[hA]at this;exact this
  have HL:Hid (∀ q L,u7 (Lx.RM g M n) row A x q L->n<=q\/x.mark=63->Lx.From (Lx.RM g M n) row A (.I x) L):=fun q L hq hc=>hq.last HR.out HA.out (by rw[hA];exact hc) Nk
  have MN:=fun w=>BO (n:=n) (by omega) w
  have kA1:aj w1 ag (aL A) 4:=(dV.block _ lA).trans kA;clear hO hm0 hmk;obtain⟨W2,hW2⟩:∃ W2,W2=w1.alloc (.cells (aL (List.replicate n false)) 4):=⟨_,rfl⟩;have hb2:Below w1.heap.size w1 W2:=by rw[hW2];exact (Below.refl _ _).alloc (lr0) _
  have hs2:W2.heap.size=w1.heap.size+1:=by rw[hW2];simp
  have kN:aj W2 w1.heap.size (aL (List.replicate n false)) 4:=by rw[hW2];exact aj.new w1 _ 4
  obtain⟨og,hog⟩:∃ og,w1.heap.size=og:=⟨_,rfl⟩;have lgg:lg<og:=by rw[<-hog];exact kO.lt
  rw[<-ahD (f:=yX A O x.mark)]at kN;go_wp2_with fail;rw[<-hW2];clear hW2 x2;rw[hog]at kN hb2 hs2
  go_loopg [9] n (fun k i wr=>∃ t:Nat,t+k=n/\i=.int .i64 (t:Int)/\Below og w1 wr/\og<wr.heap.size/\aj wr og (aL (Lx.upTo n (yX A O x.mark) t)) 4)
  case atStart=>exact⟨0,by omega,rfl,hb2,by omega,kN⟩
  case round =>
   clear hb2 hs2 kN;revert wr;intro wz hrel;obtain⟨t,hkt,rfl,hbz,lz,kL⟩:=hrel;have mF:Below w.heap.size w wz:=dV.trans (hbz.mono (by omega))
   by_cases hlt:t<n
   ·have dY:aj wz ag (aL A) 4:=(mF.block _ lA).trans kA
    have kOz:aj wz lg (aL O) 4:=(hbz.block _ lgg).trans kO;have NW:aj wz w.heap.size _ 148:=(hbz.block _ (by omega)).trans T9;have x2:wz.cell? ⟨w.heap.size,2,none⟩=some (.int .u8 (x.mark:Int)):=NW.cell 2;have cA:wz.cell? ⟨ag,t,none⟩=some (.bool (au A t)):=(dY.cell t).trans (fI A (by omega));have cO:wz.cell? ⟨lg,t,none⟩=some (.bool (au O t)):=(kOz.cell t).trans (fI O (by omega));have fO:∀ i,wz.frozen? ⟨og,i,none⟩=false:=kL.frozen;have cU:wz.cell? ⟨og,t,none⟩=some (.bool (au (Lx.upTo n (yX A O x.mark) t) t)):=(kL.cell t).trans (fI _ (by rw[ED];omega));have i1:(0:Int)<=(t:Int):=by omega
    have i2:(t:Int)<(n:Int):=by omega
    have HK:Hid (∀ v,(au O t || (au A t && decide (x.mark≠43)))=v->aj (wz.setCell ⟨og,t,none⟩ (.bool v)) og (aL (Lx.upTo n (yX A O x.mark) (t+1))) 4):=fun v hv=>by
     have:=kL.set t (.bool v);rw[p9,<-hv]at this;rw[<-aiP,<-hv];exact this
    have HZ:Hid (∀ v:Value,Below og w1 (wz.setCell ⟨og,t,none⟩ v)/\og<(wz.setCell ⟨og,t,none⟩ v).heap.size):=fun v=>⟨hbz.setCell (p:=⟨og,t,none⟩) (lr0) _,by simpa [World.setCell]using lz⟩
    by_cases IC:x.mark=43
    ·have akX:((x.mark:Int) != 43)=false:=by simp[IC]
     have HD:Hid (decide (x.mark≠43)=false):=by show _=_;simp[IC]
     clear IC kL;generalize au O t=b1 at cO HK;generalize au A t=b2 at cA HK;cases b1 <;> cases b2
     all_goals
      go_wp2_with fail;go_roundg (n - (t+1))
      case measure=>omega
      case rel=>exact⟨t+1,by omega,by go_num,(HZ.out _).1,(HZ.out _).2,HK.out _ (by rw[HD.out];rfl)⟩
    ·have akX:((x.mark:Int) != 43)=true:=bne_iff_ne.2 (by omega)
     have HD:Hid (decide (x.mark≠43)=true):=by show _=_;simp[IC]
     clear IC kL;generalize au O t=b1 at cO HK;generalize au A t=b2 at cA HK;cases b1 <;> cases b2
     all_goals
      go_wp2_with fail;go_roundg (n - (t+1))
      case measure=>omega
      case rel=>exact⟨t+1,by omega,by go_num,(HZ.out _).1,(HZ.out _).2,HK.out _ (by rw[HD.out];rfl)⟩
   ·obtain rfl:t=n:=by omega
    have hlU:(Lx.upTo t (yX A O x.mark) t).length=t:=ED;go_wp2_with fail
    go_loopg [10] t (fun k i wr=>∃ (q:Nat) (L:List Bool),q+k=t/\i=.int .i64 (q:Int)/\Below og w1 wr/\og<wr.heap.size/\aj wr og (aL L) 4/\L.length=t/\Hid (u7 (Lx.RM g M t) row A x q L))
    case atStart=>exact⟨0,_,by omega,rfl,hbz,lz,kL,hlU,HB⟩
    case round =>
     clear hbz lz kL hlU HB mF;revert wr;intro wy hrel;obtain⟨q,L,hkq,rfl,hby,ly,JO,su,HI⟩:=hrel;have jU:Below w.heap.size w wy:=dV.trans (hby.mono (by omega));have JQ:aj wy w.heap.size _ 148:=(hby.block _ (by omega)).trans T9;have x0:wy.cell? ⟨w.heap.size,0,none⟩=some (.int .i64 (x.kind:Int)):=JQ.cell 0;have x1:wy.cell? ⟨w.heap.size,1,none⟩=some (.string x.name):=JQ.cell 1;have x2:wy.cell? ⟨w.heap.size,2,none⟩=some (.int .u8 (x.mark:Int)):=JQ.cell 2;have x3:wy.cell? ⟨w.heap.size,3,none⟩=some (.slice xa x.alts.length xc):=JQ.cell 3;have x4:wy.cell? ⟨w.heap.size,4,none⟩=some (.int .i64 (x.place:Int)):=JQ.cell 4
     by_cases hm63:x.mark=63
     ·have akY:((x.mark:Int) != 63)=false:=by simp[hm63]
      have HF:Hid (Lx.From (Lx.RM g M t) row A (.I x) L):=HL.out q L HI.out (.inr hm63);clear hm63 HI
      by_cases hlq:q<t
      ·have i2:(q:Int)<(t:Int):=by omega
       go_wp2_with fail;go_ret;exact vZ.mk og L rfl (by omega) JO HF.out jU
      ·have i2:¬ (q:Int)<(t:Int):=by omega
       go_wp2_with fail;go_ret;exact vZ.mk og L rfl (by omega) JO HF.out jU
     ·have akY:((x.mark:Int) != 63)=true:=bne_iff_ne.2 (by omega)
      by_cases hlq:q<t
      ·have i2:(q:Int)<(t:Int):=by omega
       have q2:=Q2 jU og L JO su;have HM:Hid (x.mark=42\/x.mark=43):=by show _\/_;omega
       clear hm63;go_wp2_with fail;refine q2.mono ?_;rintro e w2 ⟨ng,Nx,rfl,hng,kN,HNx,lN,hb2⟩;clear q2 x0 x1 x2 x3 x4;have Bu:aj w2 og (aL L) 4:=(hb2.block _ ly).trans JO;have HI2:Hid (u7 (Lx.RM g M t) row A x (q+1) (bV L Nx L.length)):=HI.out.step HM.out HNx.out (lT _ _ _) fun b hb=>Qf hb
       have hs2:=hb2.size;clear HI HNx;rw[su]at HI2;go_wp2_with fail
       go_loopg [12] t (fun k i wr=>∃ b:Nat,b+k=t/\i=.int .i64 (b:Int)/\mE w2 og L (bV L Nx b) wr)
       case atStart=>exact⟨0,by omega,rfl,mE.zero Bu⟩
       case round =>
        obtain⟨b,hkb,rfl,hJ⟩:=hrel
        by_cases RZ:b<t
        ·have JR:aj wr ng (aL Nx) 4:=(hJ.wR ng (by omega)).trans kN
         have cS:wr.cell? ⟨ng,b,none⟩=some (.bool (au Nx b)):=(JR.cell b).trans (fI Nx (by omega));have cO:wr.cell? ⟨og,b,none⟩=some (.bool (au (bV L Nx b) b)):=(hJ.blk.cell b).trans (fI _ (by rw[lT];omega));have fO:∀ i,wr.frozen? ⟨og,i,none⟩=false:=hJ.blk.frozen;have j1:(0:Int)<=(b:Int):=by omega
         have j2:(b:Int)<(t:Int):=by omega
         have HJ:Hid (∀ v,(au (bV L Nx b) b || au Nx b)=v->mE w2 og L (bV L Nx (b+1)) (wr.setCell ⟨og,b,none⟩ (.bool v))):=fun v hv=>hJ.put (by omega) hv
         clear hJ JR;generalize au (bV L Nx b) b=b1 at cO HJ;generalize au Nx b=b2 at cS HJ;cases b1 <;> cases b2
         all_goals
          go_wp2_with fail;go_roundg (t - (b+1))
          case measure=>omega
          case rel=>exact⟨b+1,by omega,by go_num,HJ.out _ rfl⟩
        ·obtain rfl:b=t:=by omega
         go_wp2_with fail;go_roundg (b - (q+1))
         case measure=>omega
         case rel=>exact⟨q+1,_,by omega,by go_num,hJ.below (hby.trans (hb2.mono (by omega))) (lr0),by rw[hJ.size];omega,hJ.blk,by rw[lT];exact su,HI2⟩
      ·have i2:¬ (q:Int)<(t:Int):=by omega
       have HF:Hid (Lx.From (Lx.RM g M t) row A (.I x) L):=HL.out q L HI.out (.inl (by omega));clear hm63 HI;go_wp2_with fail;go_ret;exact vZ.mk og L rfl (by omega) JO HF.out jU
theorem ahF:LV 0:=by
 intro F B0 w mb vL vR vW vO g row gs M h v l hl hk ag A kA hA;obtain⟨rfl,rfl⟩:=hl;have hle:=h.le;obtain⟨n,hn⟩:∃ n,row.length+1=n:=⟨_,rfl⟩;have MN:=fun w=>BO (n:=n) (by omega) w
 unfold Gets;rw[hn]at hA |-;have HF:Hid (Lx.From (Lx.RM g M n) row A (.A []) (List.replicate n false)):=by
  have:=Lx.From.MO (R:=Lx.RM g M n) (row:=row) (A:=A);rw[hA]at this;exact this
 clear hn;go_enter func39,ntmps39;go_wp2_with fail
 go_loopg [8] 0 (fun k i wr=>k=0/\i=.int .i64 0/\wr=w.alloc (.cells (aL (List.replicate n false)) 4))
 case atStart=>exact⟨rfl,rfl,rfl⟩
 case round =>
  obtain⟨rfl,rfl,rfl⟩:=hrel;go_wp2_with fail;go_ret;exact vZ.mk w.heap.size _ rfl (lr0) (aj.new w _ 4) HF.out ((Below.refl _ _).alloc (lr0) _)
theorem ahG {d:Nat}(IH:Z6 d):LV (d+1):=by
 intro F B0 w mb vL vR vW vO g row gs M h v l hl hxk ag A kA hA;obtain⟨va,vc,hv,hm⟩:=ay.len hl;subst hv;unfold maxLen at hm;have hle:=h.le;have lA:=kA.lt;obtain⟨n,hn⟩:∃ n,row.length+1=n:=⟨_,rfl⟩;have hnn:n<=1048577:=by omega
 have Q2:∀ {w':World} (hb:Below w.heap.size w w') (xa:Value) (x:Lx.It),ay YR d F w' xa x.alts->(∀ y∈nA d x,wS g y)->∀ (ag:Nat) (A:List Bool),aj w' ag (aL A) 4->A.length=n->Calls prog 80 #[.pointer (some ⟨mb,0,none⟩),.agg #[.int .i64 (x.kind:Int),.string x.name,.int .u8 (x.mark:Int),xa,.int .i64 (x.place:Int)],.slice (some ⟨ag,0,none⟩) n n] w' (fun e w''=>∃ (lg:Nat) (L:List Bool),e=.returned (.slice (some ⟨lg,0,none⟩) n n)/\w'.heap.size<=lg/\aj w'' lg (aL L) 4/\Hid (Lx.From (Lx.RM g M n) row A (.I x) L)/\L.length=n/\Below w'.heap.size w' w''):=by
  subst hn;intro w' hb xa x hx hk ag A k hl;exact (IH F B0 w' mb vL vR vW vO g row gs M (h.below hb) _ x hx hk ag A k hl).mono fun e w'' ⟨lg,L,h1,h2,h3,h4,h5⟩=>⟨lg,L,h1,h2,h3,h4,by rw[h4.1];exact hl,h5⟩
 have HR:Hid (∀ (b:ByteArray) (i j:Nat),Lx.RM g M n b i j->i<=j/\j<=row.length):=by subst hn;exact Lx.RM.bd
 unfold Gets;rw[hn]at hA |-;have HA:Hid (A.length=row.length+1):=by show _=_;omega
 have MN:=fun w=>BO (n:=n) (by omega) w
 have hdl:=h.dg.lt;have HXK:Hid (∀ al∈l,∀ x∈al.1,∀ y∈nA d x,wS g y):=fun al ha x hx y hy=>hxk y (nQ.2 ⟨al,ha,x,hx,List.mem_cons.1 hy⟩)
 have HF:Hid (Lx.From (Lx.RM g M n) row A (.A (l.take 0)) (List.replicate n false)):=by
  have:=Lx.From.MO (R:=Lx.RM g M n) (row:=row) (A:=A);rw[hA]at this;exact this
 obtain⟨og,hog⟩:∃ og,w.heap.size=og:=⟨_,rfl⟩;obtain⟨W,hW⟩:∃ W,W=w.alloc (.cells (aL (List.replicate n false)) 4):=⟨_,rfl⟩;have hbW:Below og w W:=by rw[hW,<-hog];exact (Below.refl _ _).alloc (lr0) _
 have hWs:W.heap.size=og+1:=by rw[hW,<-hog];simp
 have kO:aj W og (aL (List.replicate n false)) 4:=by rw[hW,<-hog];exact aj.new w _ 4
 clear h IH hn hxk;go_enter func39,ntmps39;go_wp2_with fail;rw[<-hW];rw[hog]at Q2 lA hdl;clear hW
 go_loopg [8] l.length (fun k i wr=>∃ (j:Nat) (L:List Bool),j+k=l.length/\i=.int .i64 (j:Int)/\Below og w wr/\og<wr.heap.size/\aj wr og (aL L) 4/\L.length=n/\Hid (Lx.From (Lx.RM g M n) row A (.A (l.take j)) L))
 case atStart=>exact⟨0,_,by omega,rfl,hbW,by omega,kO,by simp,HF⟩
 case round =>
  clear HF hbW hWs kO;revert wr;intro wz hrel;obtain⟨j,L,hkj,rfl,hbz,lz,kL,su,HL⟩:=hrel;have hsz:=hbz.size
  by_cases hlt:j<l.length
  ·have h1:ay YR (d+1) F wz _ l:=ay.move (fun b hb'=>hbz.block b (hdl b hb')) (fun _ h=>h) hl
   obtain⟨gb,cap,vi,hv,hg,hi,hc⟩:=Seq.at h1 (fun _=>rfl) hlt;cases hv;have HT:Hid (∀ N,Lx.From (Lx.RM g M n) row A (.S l[j].1) N->Lx.From (Lx.RM g M n) row A (.A (l.take (j+1))) (bV L N n)):=fun N hN=>by
    have:=HL.out.join hN;rw[su]at this;rw[List.take_succ_eq_append_getElem hlt];exact this
   have HX:Hid (∀ x∈l[j].1,∀ y∈nA d x,wS g y):=HXK.out _ (List.getElem_mem hlt);generalize l[j]=al at hi hc HT HX;obtain⟨its,prec,pa⟩:=al;obtain⟨ia,ic,iF,him⟩:=Seq.len hi;subst iF;unfold maxLen at him;have c0:wz.cell? ⟨gb,j*3,none⟩=some (.slice ia its.length ic):=hc 0 (by decide);clear h1 hc HL;have lD:=hdl gb hg;have dY:aj wz ag (aL A) 4:=(hbz.block _ lA).trans kA;have HS:Hid (Lx.From (Lx.RM g M n) row A (.S (its.take 0)) A):=Lx.From.RY;go_wp2_with fail
   go_loopg [9,10] its.length (fun k v i wr=>∃ (m ng:Nat) (Nw:List Bool),m+k=its.length/\v=.slice (some ⟨ng,0,none⟩) n n/\i=.int .i64 (m:Int)/\Below wz.heap.size wz wr/\ng≠og/\aj wr ng (aL Nw) 4/\Nw.length=n/\Hid (Lx.From (Lx.RM g M n) row A (.S (its.take m)) Nw))
   case atStart=>exact⟨0,ag,A,by omega,rfl,rfl,Below.refl _ _,by omega,dY,hA,HS⟩
   case round =>
    clear HS dY;revert wr;intro wy hrel;obtain⟨m,ng,Nw,hkm,rfl,rfl,hby,hng,kN,hlN,HS⟩:=hrel;have jU:Below og w wy:=hbz.trans (hby.mono (by omega));have hsy:=hby.size;have d0:wy.cell? ⟨gb,j*3,none⟩=some (.slice ia its.length ic):=cell_below hby c0;have i1:(0:Int)<=(j:Int):=by omega
    have i2:(j:Int)<(l.length:Int):=by omega
    by_cases bF:m<its.length
    ·have hir:bJ YR d F wy _ its:=bJ.move (fun b hb'=>hby.block b (by have:=hdl b hb';omega)) (fun _ h=>h) hi
     unfold bJ nV at hir;obtain⟨nb,rP,xa,hv,hnb,ha,hcc⟩:=Seq.at hir (fun _=>rfl) bF;cases hv;have HS2:Hid (∀ N,Lx.From (Lx.RM g M n) row Nw (.I its[m]) N->Lx.From (Lx.RM g M n) row A (.S (its.take (m+1))) N):=fun N hN=>by
      rw[List.take_succ_eq_append_getElem bF];exact HS.out.snoc HR.out HA.out hN
     have HXm:Hid (∀ y∈nA d its[m],wS g y):=HX.out _ (List.getElem_mem bF);generalize its[m]=it at ha hcc HS2 HXm;obtain⟨sa,sc,hva,-⟩:=ay.len ha;subst hva;have e0:wy.cell? ⟨nb,m*5,none⟩=some (.int .i64 (it.kind:Int)):=hcc 0 (by decide);have e1:wy.cell? ⟨nb,m*5+1,none⟩=some (.string it.name):=hcc 1 (by decide);have e2:wy.cell? ⟨nb,m*5+2,none⟩=some (.int .u8 (it.mark:Int)):=hcc 2 (by decide);have e3:wy.cell? ⟨nb,m*5+3,none⟩=some (.slice sa it.alts.length sc):=hcc 3 (by decide);have e4:wy.cell? ⟨nb,m*5+4,none⟩=some (.int .i64 (it.place:Int)):=hcc 4 (by decide);have q1:=Q2 jU _ it ha HXm.out ng Nw kN hlN;have i3:(0:Int)<=(m:Int):=by omega
     have i4:(m:Int)<(its.length:Int):=by omega
     clear hcc hir HS;go_wp2_with fail;refine q1.mono ?_;rintro e w2 ⟨lg,N2,rfl,Bh,kN2,FZ,lN2,hb2⟩;have HS3:Hid (Lx.From (Lx.RM g M n) row A (.S (its.take (m+1))) N2):=HS2.out _ FZ.out;clear HS2 FZ q1;go_wp2_with fail;go_roundg (its.length - (m+1))
     case measure=>omega
     case rel=>exact⟨m+1,lg,N2,by omega,rfl,by go_num,hby.trans (hb2.mono hsy),by omega,kN2,lN2,HS3⟩
    ·obtain rfl:m=its.length:=by omega
     have hs:=HS.out;rw[List.take_length]at hs;have HT2:Hid (Lx.From (Lx.RM g M n) row A (.A (l.take (j+1))) (bV L Nw n)):=HT.out _ hs;clear hs HS HT;have Bu:aj wy og (aL L) 4:=(hby.block _ lz).trans kL;go_wp2_with fail
     go_loopg [11] n (fun k i wr=>∃ b:Nat,b+k=n/\i=.int .i64 (b:Int)/\mE wy og L (bV L Nw b) wr)
     case atStart=>exact⟨0,by omega,rfl,mE.zero Bu⟩
     case round =>
      obtain⟨b,hkb,rfl,hJ⟩:=hrel
      by_cases RZ:b<n
      ·have JR:aj wr ng (aL Nw) 4:=(hJ.wR ng hng).trans kN
       have cS:wr.cell? ⟨ng,b,none⟩=some (.bool (au Nw b)):=(JR.cell b).trans (fI Nw (by omega));have cO:wr.cell? ⟨og,b,none⟩=some (.bool (au (bV L Nw b) b)):=(hJ.blk.cell b).trans (fI _ (by rw[lT];omega));have fO:∀ i,wr.frozen? ⟨og,i,none⟩=false:=hJ.blk.frozen;have j1:(0:Int)<=(b:Int):=by omega
       have j2:(b:Int)<(n:Int):=by omega
       have HJ:Hid (∀ v,(au (bV L Nw b) b || au Nw b)=v->mE wy og L (bV L Nw (b+1)) (wr.setCell ⟨og,b,none⟩ (.bool v))):=fun v hv=>hJ.put (by omega) hv
       clear hJ JR;generalize au (bV L Nw b) b=b1 at cO HJ;generalize au Nw b=b2 at cS HJ;cases b1 <;> cases b2
       all_goals
        go_wp2_with fail;go_roundg (n - (b+1))
        case measure=>omega
        case rel=>exact⟨b+1,by omega,by go_num,HJ.out _ rfl⟩
      ·obtain rfl:b=n:=by omega
       go_wp2_with fail;go_roundg (l.length - (j+1))
       case measure=>omega
       case rel=>exact⟨j+1,_,by omega,by go_num,hJ.below jU (lr0),by rw[hJ.size];omega,hJ.blk,by rw[lT];exact su,HT2⟩
  ·obtain rfl:j=l.length:=by omega
   have hf:=HL.out;rw[List.take_length]at hf;have AX:Hid _:=hf;clear hf HL;go_wp2_with fail;go_ret;exact vZ.mk og L rfl (by omega) kL AX.out (by rw[hog];exact hbz)
theorem ZF:∀ d:Nat,LV d
 | 0=>ahF
 | d+1=>ahG (aiS (aiR (ZF d)))
def Fx (w:World)(M:List (List Bool))(n:Nat)(r:List Nat)(i j:Nat)(e:Ending)(w':World):Prop:=∃ b:Bool,e=.returned (.bool b)/\(b=true↔qH M n r i j)/\Below w.heap.size w w'
theorem Fx.mk {w:World}{M:List (List Bool)}{n:Nat}{r:List Nat}{i j:Nat}{w':World}{e:Ending}(b:Bool)(he:e=.returned (.bool b))(h:b=true↔qH M n r i j)(h2:Below w.heap.size w w'):Fx w M n r i j e w':=⟨b,he,h,h2⟩
def KG (r:List Nat):Prop:=∀ (B0:Nat) (w:World) (sb N:Nat) (vO:Value) (gs:List Nat) (M:List (List Bool)),Sp B0 w sb N vO gs M->∀ v,rT w v r->(∀ s∈r,s<gs.length)->∀ i j:Nat,i<=j->j<=N ->
 Calls prog 79 #[.pointer (some ⟨sb,0,none⟩),v,.int .i64 (i:Int),.int .i64 (j:Int)] w (Fx w M (N+1) r i j)
theorem agE:KG []:=by
 intro B0 w sb N vO gs M h v hv hr i j hij hj;obtain⟨a,c,rfl,-,-⟩:=hv;go_enter func79,ntmps79;go_wp2_with fail;go_ret;exact Fx.mk ((i:Int) == (j:Int)) rfl (by rw[beq_iff_eq];exact⟨fun h=>(by omega:i=j),fun h=>by cases (show i=j from h);rfl⟩) (Below.refl _ _)
theorem afS {s:Nat}{r:List Nat}(IH:KG r):KG (s::r):=by
 intro B0 w sb N vO gs M h v hv hr i j hij hj;have hv':=hv;obtain⟨a,c,rfl,hc,hcell⟩:=hv';obtain⟨g,o,ha,hg,c0⟩:=hcell 0 (by simp);have c0:w.cell? ⟨g,o,none⟩=some (.int .i64 (s:Int)):=by simpa using c0
 obtain⟨a',hsl,hv2⟩:=hv.tail;have hs:=hr s List.mem_cons_self;have hr2:∀ t∈r,t<gs.length:=fun t ht=>hr t (List.mem_cons_of_mem _ ht)
 have hN:=h.le;subst ha;rw[List.length_cons]at hc |-;have HC:Hid (∀ b:Bool,(b=true↔∃ k,i<=k/\k<=j/\eP M (N+1) s i k=true/\qH M (N+1) r k j)->(b=true↔qH M (N+1) (s::r) i j)):=fun b hb=>hb
 have hcr:(r.length:Int)+1<=(c:Int):=by omega
 clear hcell hv hr;go_enter func79,ntmps79;go_wp2_with fail
 go_loopg [9] (j+1-i) (fun m k wr=>∃ q:Nat,q+m=j+1/\i<=q/\k=.int .i64 (q:Int)/\Below w.heap.size w wr/\Hid (∀ k,i<=k->k<q->eP M (N+1) s i k=true->¬ qH M (N+1) r k j))
 case atStart=>exact⟨i,by omega,lr0,rfl,Below.refl _ _,fun k h1 h2=>by omega⟩
 case round =>
  obtain⟨q,hq,hiq,rfl,hbr,HN⟩:=hrel;have d0:wr.cell? ⟨g,o,none⟩=some (.int .i64 (s:Int)):=cell_below hbr c0;have hsr:=hbr.size
  by_cases hlt:q<=j
  ·have q1:=QA (h.below hbr) (s:=s) (i:=i) (j:=q) hs (by omega) (by omega)
   have hle:(q:Int)<=(j:Int):=by omega
   cases hon:eP M (N+1) s i q with
   | true =>
    rw[hon]at q1;have qG:Hid (eP M (N+1) s i q=true):=hon;clear hon;go_wp2_with fail;refine q1.mono ?_;rintro e w1 ⟨rfl,hb1⟩;have hb2:Below w.heap.size w w1:=hbr.trans (hb1.mono hsr);have q2:=IH B0 w1 sb N vO gs M (h.below hb2) _ (hv2.below hb2) hr2 q j hlt hj;go_wp2_with fail;refine q2.mono ?_;rintro e w2 ⟨b,rfl,hbb,hb3⟩;have hb4:Below w.heap.size w w2:=hb2.trans (hb3.mono hb2.size);cases b with
    | true =>
     have HB:Hid (qH M (N+1) r q j):=hbb.1 rfl;clear hbb;go_wp2_with fail;go_ret;exact Fx.mk true rfl (HC.out true ⟨fun _=>⟨q,hiq,hlt,qG.out,HB.out⟩,fun _=>rfl⟩) hb4
    | false =>
     have HB:Hid (¬ qH M (N+1) r q j):=fun hh=>by cases hbb.2 hh
     clear hbb;go_wp2_with fail;go_roundg (j+1 - (q+1))
     case measure=>omega
     case rel=>exact⟨q+1,by omega,by omega,by go_num,hb4,fun k h1 h2 h3=>by
      by_cases e:k=q
      ·subst e;exact HB.out
      ·exact HN.out k h1 (by omega) h3⟩
   | false =>
    rw[hon]at q1;have qG:Hid (eP M (N+1) s i q=false):=hon;clear hon;go_wp2_with fail;refine q1.mono ?_;rintro e w1 ⟨rfl,hb1⟩;have hb2:Below w.heap.size w w1:=hbr.trans (hb1.mono hsr);go_wp2_with fail;go_roundg (j+1 - (q+1))
    case measure=>omega
    case rel=>exact⟨q+1,by omega,by omega,by go_num,hb2,fun k h1 h2 h3=>by
     by_cases e:k=q
     ·subst e;rw[qG.out]at h3;cases h3
     ·exact HN.out k h1 (by omega) h3⟩
  ·have hle:¬ (q:Int)<=(j:Int):=by omega
   go_wp2_with fail;go_ret;exact Fx.mk false rfl (HC.out false ⟨fun hh=>(by cases hh),fun ⟨k,h1,h2,h3,h4⟩=>absurd h4 (HN.out k h1 (by omega) h3)⟩) hbr
theorem Xh:∀ r:List Nat,KG r
 | []=>agE
 | _::r=>afS (Xh r)
end Go.Proofs.YtlcppnabbicmoaaGreatDoor
