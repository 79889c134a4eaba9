import Derived.Test.YtagkodkijkpemaaGreatDoorRA05
set_option maxHeartbeats 8000000
set_option maxRecDepth 1000000
namespace Go.Proofs.YtagkodkijkpemaaGreatDoor
open Lx Go.Proofs.Tryz
open Go.RowKit
namespace Lx
def bnd{α β:Type}(r:aR α)(k:α->List Tk->aR β):aR β :=
 match r with
 |.error e=>.error e
 | .ok (x,ts)=>k x ts
theorem ajd(aF:List Tk->aR (List Alt))(ts:List Tk):iB aF ts=if hd ts=mF then bnd (aF ts) (fun alts aG=>.ok ((⟨2,aT,(dJ aG).1,alts,pl ts⟩:It),(dJ aG).2))
  else if isName (hd ts)=true then .ok (⟨0,hd ts,(dJ ts.tail).1,[],pl ts⟩,(dJ ts.tail).2)
  else if isToken (hd ts)=true then .ok (⟨1,hd ts,(dJ ts.tail).1,[],pl ts⟩,(dJ ts.tail).2)
  else .error (2,pl ts):=by
 unfold iB
 split
 ·cases aF ts with
  |error e=>rfl
  |ok y=>rfl
 ·rfl
theorem ahM(aF:List Tk->aR (List Alt))(f:Nat)(ts:List Tk)(a:List It):jr aF (f+1) ts a=if rO ts=true then bnd (iB aF ts) (fun x aG=>jr aF f aG (a++[x])) else .ok (a,ts):=by
 simp only[jr]
 split
 ·cases iB aF ts with
  |error e=>rfl
  |ok y=>rfl
 ·rfl
theorem aje(top:Bool)(a:List It)(ts:List Tk):qz top a ts=if top=true/\hd ts=jT then bnd (eG isToken ts.tail) (fun x aG=>.ok (((a,x,pl ts.tail):Alt),aG)) else .ok ((a,aT,0),ts):=by
 unfold qz
 split
 ·cases eG isToken ts.tail with
  |error e=>rfl
  |ok y=>rfl
 ·rfl
theorem akJ(aF:List Tk->aR (List Alt))(top:Bool)(ts:List Tk):iH aF top ts=bnd (jr aF ts.length ts []) (fun x aG=>qz top x aG):=by
 unfold iH;cases jr aF ts.length ts [] with
 |error e=>rfl
 |ok y=>rfl
theorem ajf(aF:List Tk->aR (List Alt))(top:Bool)(f:Nat)(ts:List Tk)(a:List Alt):lW aF top (f+1) ts a=if hd ts=BP then bnd (iH aF top ts.tail) (fun x aG=>lW aF top f aG (a++[x])) else .ok (a,ts):=by
 simp only[lW]
 split
 ·cases iH aF top ts.tail with
  |error e=>rfl
  |ok y=>rfl
 ·rfl
theorem agA(aF:List Tk->aR (List Alt))(top:Bool)(ts:List Tk):qo aF top ts=bnd (iH aF top ts) (fun x aG=>lW aF top aG.length aG [x]):=by
 unfold qo;cases iH aF top ts with
 |error e=>rfl
 |ok y=>rfl
theorem ahN(r:List Tk->aR (List Alt))(ts:List Tk):qw r ts=bnd (r ts.tail) (fun l aG=>bnd (jy BH aG) fun _ bY=>.ok (l,bY)):=by
 unfold qw;cases r ts.tail with
 |error e=>rfl
 |ok y=>
  obtain⟨l,aG⟩:=y;simp only[bnd];cases jy BH aG with
  |error e=>rfl
  |ok y=>rfl
theorem ajg(ts:List Tk):iC ts=bnd (eG isName ts) (fun n aG=>bnd (jy lZ aG) fun _ bY=>bnd (nu 8 bY) fun l lM=>bnd (jy mG lM) fun _ nU=>.ok ((⟨n,l,pl ts⟩:Rl),nU)):=by
 unfold iC;cases eG isName ts with
 |error e=>rfl
 |ok y=>
  obtain⟨n,aG⟩:=y;simp only[bnd];cases jy lZ aG with
  |error e=>rfl
  |ok y=>
   obtain⟨u,bY⟩:=y;simp only;cases nu 8 bY with
   |error e=>rfl
   |ok y=>
    obtain⟨l,lM⟩:=y;simp only;cases jy mG lM with
    |error e=>rfl
    |ok y=>rfl
theorem agB(f:Nat)(ts a:List Tk):jF (f+1) ts a=if hd ts=mG then .ok (a,ts.tail) else bnd (eG isToken ts) (fun x aG=>jF f aG (a++[(x,pl ts)])):=by
 simp only[jF]
 split
 ·rfl
 ·cases eG isToken ts with
  |error e=>rfl
  |ok y=>rfl
theorem Q8(ts:List Tk):lu ts=bnd (eG isToken ts.tail) (fun b aG=>bnd (jF aG.length aG [(b,pl ts.tail)]) fun l bY=>.ok ((⟨(ja (hd ts)).toNat,l⟩:Lv),bY)):=by
 unfold lu;cases eG isToken ts.tail with
 |error e=>rfl
 |ok y=>
  obtain⟨b,aG⟩:=y;simp only[bnd];cases jF aG.length aG [(b,pl ts.tail)] with
  |error e=>rfl
  |ok y=>rfl
theorem agC(f:Nat)(ts:List Tk)(a:List Lv):kZ (f+1) ts a=if 0<=ja (hd ts) then bnd (lu ts) (fun x aG=>kZ f aG (a++[x])) else .ok (a,ts):=by
 simp only[kZ]
 split
 ·cases lu ts with
  |error e=>rfl
  |ok y=>rfl
 ·rfl
theorem ahO(f:Nat)(ts:List Tk)(a:List Rl):jv (f+1) ts a=if hd ts=aT then .ok (a,ts) else bnd (iC ts) (fun x aG=>jv f aG (a++[x])):=by
 simp only[jv]
 split
 ·rfl
 ·cases iC ts with
  |error e=>rfl
  |ok y=>rfl
theorem aff(ts:List Tk):jq ts=bnd (kZ ts.length ts []) (fun lv aG=>bnd (iC aG) fun x bY=>bnd (jv bY.length bY [x]) fun l lM=>.ok ((⟨lv,l⟩:Gr),lM)):=by
 unfold jq;cases kZ ts.length ts [] with
 |error e=>rfl
 |ok y=>
  obtain⟨lv,aG⟩:=y;simp only[bnd];cases iC aG with
  |error e=>rfl
  |ok y=>
   obtain⟨x,bY⟩:=y;simp only;cases jv bY.length bY [x] with
   |error e=>rfl
   |ok y=>rfl
theorem ni{α β:Type}{r:aR α}{k:α->List Tk->aR β}{z:β}{ts':List Tk}(h:bnd r k=.ok (z,ts')):∃x ts,r=.ok (x,ts)/\k x ts=.ok (z,ts'):=by
 cases r with
 |error e=>cases h
 |ok y=>exact⟨y.1,y.2,rfl,h⟩
end Lx
section
open Go.RowKit
open Lx (Tk)
open Tr
abbrev KI(d:Nat):(Nat->Prop)->World->Value->Lx.Alt->Prop:=fun F w vi a=>rU YP d F w vi a.1
theorem rU.form{Y:Lay}{d:Nat}{F:Nat->Prop}{w:World}{v:Value}{l:List Lx.It}(h:rU Y d F w v l):∃a k c,v=.slice a k c:=by
 exact dQ.form h
theorem aap{d:Nat}(HA:aa8 d):Rz d:=by
 intro sb u L p w r o ho h;obtain⟨i0,hi,U,O,aa⟩:=fd Tryz.akI;have hp:=h.lt;have hs:=h.Ag;have HO:Hid (o=8 - (d:Int)):=ho;have ag:=h.lb;have ae:=h.len;clear ho;have Z:Hid _:=ai5 d r;go_enter func155,ntmps155;go_wp2_with fail;refine(HA sb u L p w r o HO.out h).mono ?_;intro e w1 t;cases hr1:iH (iF d) (d == 8) r with
 |error x=>
  obtain⟨n,a⟩:=x;obtain⟨rfl,q⟩:=t.err hr1;exact⟨rfl,Ends.no (by rw[Z.out];unfold qo;rw[hr1]) q⟩
 |ok x=>
  obtain⟨s,G⟩:=x;obtain⟨v,rfl,q,TJ,vi,rfl,X⟩:=t.ok hr1;have am:=IK (Qw d) hr1;have ab:Hid (nu d r=lW (iF d) (d == 8) G.length G [s]):=by
   show _=_;rw[Z.out];unfold qo;rw[hr1]
  obtain⟨I,M,J,rfl⟩:=rU.form X;have G1:mH w.heap.size (w1.alloc (.cells #[.slice I M J,.string s.2.1] 269)) 269 2 YP.cA (KI d) (.slice (some ⟨w1.heap.size,0,none⟩) 1 1) [s] :=
   mH.one (LY YP d) (w:=w) (.slice I M J,s) (zL0) q.size X rfl
  have D:=TJ.alloc (.cells #[.slice I M J,.string s.2.1] 269);have C:=aL q (aX w1 (.cells #[.slice I M J,.string s.2.1] 269) (some p));clear hr1 t Z;go_wp2_with fail
  go_loopg [3] G.length (fun k v wr=>∃(j:List Tk)(c:List Lx.Alt)(f:Nat),j.length=k/\j.length<=f/\c.length+j.length<=r.length+1/\Rd sb u L p wr j o /\
    mH w.heap.size wr 269 2 YP.cA (KI d) v c/\w.grownBy wr (some p)/\Hid (nu d r=lW (iF d) (d == 8) f j c))
  case atStart=>exact⟨G,[s],G.length,rfl,zL0,by simp;omega,D,G1,C,ab⟩
  case round=>
   obtain⟨j,c,f,z,hf,ad,B,l,hg,m⟩:=hrel;clear D C G1 X;have al:=B.wf.ne;obtain⟨K,rfl⟩:∃K,f=K+1:=⟨f-1,by omega⟩
   by_cases hb:Lx.hd j=BP
   ·have y:Hid (Lx.hd j=BP):=hb
    clear hb;have ak:=B.wf.sS;go_wp2_with fail;refine(Md B BP (by decide) y.out).mono ?_;rintro e w2⟨rfl,E,T⟩;have S:=aL hg E;go_wp2_with fail;refine(HA sb u L p w2 j.tail o HO.out T).mono ?_;intro e H t;cases hr3:iH (iF d) (d == 8) j.tail with
    |error x=>
     obtain⟨n,a⟩:=x;obtain⟨rfl,i⟩:=t.err hr3;exact⟨rfl,Ends.no (by rw[m.out];simp only[lW];rw[de y.out,hr3]) (aL S i)⟩
    |ok x=>
     obtain⟨N,W⟩:=x;obtain⟨v,rfl,i,DF,ai,rfl,A⟩:=t.ok hr3;have ah:=IK (Qw d) hr3;have Q:Hid (nu d r=lW (iF d) (d == 8) K W (c++[N])):=by
      show _=_;rw[m.out];simp only[lW];rw[de y.out,hr3]
     obtain⟨xa,xk,xc,rfl⟩:=rU.form A;clear hr3 t m;obtain⟨ps,F,R⟩:=l;have DI:=R.kept (LY YP d) E (fun k z=>by cases z;omega);have P:=DI.kept (LY YP d) i (fun k z=>by cases z;omega);have b:=P.2.1;have s2:=S.size;have s3:=i.size
     go_wp2_with (first
      | (at_builtin;refine wpList_append_lies _ rfl _ _ 252 rfl w.heap.size 269 i0 _ 2 40 underlying252 hi U O aa rfl (by decide) u3 c.length (ps.flatMap YP.cA) rfl (b.alloc _) ⟨H.heap.size,0,none⟩ 1 1 (YP.cA (.slice xa xk xc,N)) rfl rfl (dI (aj.new H _ 269)) (by simp[YP,Value.oneCell']) (by decide) (by unfold maxLen;omega) (by omega) (by simp;omega) _ rfl ?_;intro g af w4 uM nJ Y an))
     have G4:=wQ.push (LY YP d) DI (p:=p) (by omega) s2 i (.slice xa xk xc,N) A (aX H _ none) uM nJ Y;have V:=(DF.alloc _).grown nJ (fun e=>by have:=(b.lt _ e.symm).1;omega) (fun e=>by have:=(b.lt _ e.symm).1;omega);have ac:=C9 (aL S i) (aX H _ none) nJ (fun k z=>(b.lt _ z).1);go_roundg W.length
     case measure=>omega
     case rel=>exact⟨W,c++[N],K,rfl,by omega,by simp;omega,V,G4,ac,Q⟩
   ·have y:Hid (¬Lx.hd j=BP):=hb
    clear hb
    go_wp2_with (first
     | (go_at_call 152;refine(Iz B BP y.out).mono ?_;rintro e w'⟨rfl,hw⟩;obtain rfl:=hw.symm))
    go_ret;refine Ends.yes (x:=c) (ts':=j) (by rw[m.out];simp only[lW];rw[dk y.out]) hg B ?_;exact l.seq
theorem abf:∀d,d<=8->Rz d
 |0,_=>aap (aa9 (aal agu))
 |d+1,h=>aap (aa9 (aal (agv (by omega) (abf d (by omega)))))
end
section
open Go.RowKit
open Lx (Tk)
open Tr
def amw(lo:Nat)(w':World)(v:Value)(r:Lx.Rl):Prop:=∃va,v=.agg #[.string r.name,va]/\eD YP 9 (In lo w'.heap.size) w' va r.alts
theorem Fu(P s:Nat)(L:List Tk)(p:Nat)(w:World)(ts:List Tk)(h:Rd P s L p w ts 0):
  Calls prog 113 #[.pointer (some ⟨p,0,none⟩)] w (Ends P s L p 0 (amw w.heap.size) w (iC ts)):=by
 have hp:=h.lt;have hs:=h.Ag;have h1:=h.alloc (.cells #[.string ⟨#[]⟩,.slice none 0 0] 254);have kB:=aj.new w #[.string ⟨#[]⟩,.slice none 0 0] 254;have V:=aX w (.cells #[.string ⟨#[]⟩,.slice none 0 0] 254) (some p);go_enter func113,ntmps113;go_wp2_with fail;refine(aa7 h1).mono ?_;intro e w1 c;cases hr1:eG Lx.isName ts with
 |error x=>
  obtain⟨n,a⟩:=x;obtain⟨rfl,m⟩:=c.err hr1;exact⟨rfl,Ends.no (by unfold iC;rw[hr1]) (aL V m)⟩
 |ok x=>
  obtain⟨b,aG⟩:=x;obtain⟨v,rfl,m,Z,rfl⟩:=c.ok hr1;have j:Hid _:=hr1;clear hr1 c;have U:=aL V m;have C:=kB.grown m (by simp;omega);have Y:=U.size;have sB:=C.lt;have h2:=Z.alloc (.cells #[.string b,.slice none 0 0] 254);have W:=aj.new w1 #[.string b,.slice none 0 0] 254;have D:=C.alloc (.cells #[.string b,.slice none 0 0] 254);have S:=aL U (aX w1 (.cells #[.string b,.slice none 0 0] 254) (some p));go_wp2_with fail;refine(L6 h2 lZ (by decide)).mono ?_;intro e w2 c;cases hr2:jy lZ aG with
  |error x=>
   obtain⟨n,a⟩:=x;obtain⟨rfl,g⟩:=c.err hr2;exact⟨rfl,Ends.no (by unfold iC;simp only[j.out,hr2]) (aL S g)⟩
  |ok x=>
   obtain⟨u,R⟩:=x;obtain⟨v,rfl,g,JD,rfl⟩:=c.ok hr2;have t:Hid _:=hr2;clear hr2 c;have H:=aL S g;have I:=W.grown g (by simp;omega);have A:=D.grown g (by simp;omega);have sC:=I.lt;go_wp2_with fail;refine(abf 8 (zL0) P s L p w2 R 0 rfl JD).mono ?_;intro e G c;cases hr3:nu 8 R with
   |error x=>
    obtain⟨n,a⟩:=x;obtain⟨rfl,f⟩:=c.err hr3;exact⟨rfl,Ends.no (by unfold iC;simp only[j.out,t.out,hr3]) (aL H f)⟩
   |ok x=>
    obtain⟨l,lM⟩:=x;obtain⟨v,rfl,f,DF,K⟩:=c.ok hr3;obtain⟨o,r,q,rfl⟩:=eD.form K;have B:Hid _:=hr3;clear hr3 c;have G3:=aL H f;have F:=I.grown f (by simp;omega);have E:=A.grown f (by simp;omega);have c1:G.cell? ⟨w1.heap.size,1,none⟩=some (.slice none 0 0):=F.cell 1;have f1:∀i,G.frozen? ⟨w1.heap.size,i,none⟩=false:=F.frozen;have h4:=DF.setOther (b:=w1.heap.size) 1 (.slice o r q) (by omega) (by omega);have X:=F.set 1 (.slice o r q);have oV:=E.other (b':=w1.heap.size) (i:=1) (by omega) (.slice o r q);have T:=dZ G3 (b:=w1.heap.size) Y 1 (.slice o r q);have O:=Dt.move (lo':=w2.heap.size) K (zL0) (iM G w1.heap.size 1 (.slice o r q)) (fun k y=>by cases y;omega);clear W D I A F E K;go_wp2_with fail;refine(L6 h4 mG (by decide)).mono ?_;intro e z c;cases qX:jy mG lM with
    |error x=>
     obtain⟨n,a⟩:=x;obtain⟨rfl,d⟩:=c.err qX;exact⟨rfl,Ends.no (by unfold iC;simp only[j.out,t.out,B.out,qX]) (aL T d)⟩
    |ok x=>
     obtain⟨u',N⟩:=x;obtain⟨v,rfl,d,M,rfl⟩:=c.ok qX;have HP:Hid (iC ts=.ok (⟨b,l,Lx.pl ts⟩,N)):=by
      show _=_;unfold iC;simp only[j.out,t.out,B.out,qX]
     clear qX c;have Q:=X.grown d (by simp;omega);have J:=oV.grown d (by simp;omega);have d0:z.cell? ⟨w1.heap.size,0,none⟩=some (.string b):=Q.cell 0;have d1:z.cell? ⟨w1.heap.size,1,none⟩=some (.slice o r q):=Q.cell 1;have e0:z.cell? ⟨w.heap.size,0,none⟩=some (.string ⟨#[]⟩):=J.cell 0;have e1:z.cell? ⟨w.heap.size,1,none⟩=some (.slice none 0 0):=J.cell 1;have f2:∀i,z.frozen? ⟨w.heap.size,i,none⟩=false:=J.frozen;have s2:=H.size;go_wp2_with fail;refine fx (v:=.agg #[.string b,.slice o r q]) (by simp[results,results113,go_sem,e0,e1]) rfl ?_;refine Ends.yes HP.out (dZ (dZ (aL T d) (zL0) _ _) (zL0) _ _) ((M.setOther _ _ (by omega) (by omega)).setOther _ _ (by omega) (by omega)) ⟨_,rfl,?_⟩;have m1:=O.move (zL0) d (fun k y=>by cases y;omega);have m2:=m1.move (zL0) (iM _ w.heap.size 0 (.string b)) (fun k y=>by cases y;omega);exact m2.move s2 (iM _ w.heap.size 1 (.slice o r q)) (fun k y=>by cases y;omega)
end
end Go.Proofs.YtagkodkijkpemaaGreatDoor
