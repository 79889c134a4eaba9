import Derived.Test.YtagkodkijkpemaaGreatDoorQA02
import Derived.Lib.ItoaNum
set_option maxHeartbeats 8000000
set_option maxRecDepth 1000000
namespace Go.Proofs.YtagkodkijkpemaaGreatDoor
open Lx Go.Proofs.Tryz
open Go.RowKit Tr
section
open Go.RowKit
open Lx (Tk)
open Tr
namespace Lx
theorem ajV{s:ByteArray}{g:Gr}(h:parse s=.ok g):s.size<=2000/\∃ts',iZ (lex s)=.ok (g,ts'):=by
 unfold parse at h
 split at h
 ·cases h
 ·rename_i b
  cases hr:iZ (lex s) with
  |error e=>rw[hr]at h;cases h
  |ok x=>
   obtain⟨a,ts'⟩:=x;rw[hr]at h;cases h;exact⟨by omega,ts',rfl⟩
end Lx
end
section
open Go.RowKit
open Lx (Tk)
open Tr
namespace Lx
theorem Y8:∀(f:Nat)(ts:List Tk)(acc l:List Rl)(ts':List Tk),ts.length<=f->jv f ts acc=.ok (l,ts')->hd ts'=aW
 |0,ts,acc,l,ts',hl,h=>by
  simp only[jv,Except.ok.injEq,Prod.mk.injEq]at h;cases ts with
  |nil=>rw[<-h.2];rfl
  |cons t r=>simp at hl
 |f+1,ts,acc,l,ts',hl,h=>by
  simp only[jv]at h
  split at h
  ·rename_i a
   simp only[Except.ok.injEq,Prod.mk.injEq]at h;rw[<-h.2];exact a
  ·rename_i a
   cases hr:iw ts with
   |error e=>rw[hr]at h;cases h
   |ok y=>
    obtain⟨x,b⟩:=y;rw[hr]at h;have h1:=Rt hr;have h2:ts.tail.length+1<=ts.length:=by
     cases ts with
     |nil=>exact absurd rfl a
     |cons t r=>simp
    exact Y8 f b _ l ts' (by omega) h
theorem afY{ts ts':List Tk}{g:Gr}(h:iZ ts=.ok (g,ts')):hd ts'=aW:=by
 unfold iZ at h;cases h1:jO ts.length ts [] with
 |error e=>rw[h1]at h;cases h
 |ok y=>
  obtain⟨c,b⟩:=y;rw[h1]at h;simp only at h;cases h2:iw b with
  |error e=>rw[h2]at h;cases h
  |ok y=>
   obtain⟨x,a⟩:=y;rw[h2]at h;simp only at h;cases h3:jv a.length a [x] with
   |error e=>rw[h3]at h;cases h
   |ok y=>
    obtain⟨l,d⟩:=y;rw[h3]at h;simp only[Except.ok.injEq,Prod.mk.injEq]at h;rw[<-h.2];exact Y8 _ _ _ _ _ (dy _) h3
end Lx
end
namespace Lx
abbrev Wd:=Nat×ByteArray×Nat
def yS(il:Bool)(t:Tk):Bool:=if isName t.1=true then false else il
def qX(aI:ByteArray)(il:Bool)(t:Tk)(nx:ByteArray):List Wd :=
 if isName t.1=true then [(if nx=mE then 1 else 2,t.1,t.2)]
 else if isToken t.1=true then [(if il=true then 0 else if aI=ku then 4 else 3,t.1,t.2)]
 else []
def wl:ByteArray->Bool->List Tk->List Wd
 |_,_,[]=>[]
 |aI,il,t::ts=>qX aI il t (hd ts)++wl t.1 (yS il t) ts
def eZ:Nat->List Alt->List Wd
 |0,_=>[]
 |d+1,l=>l.flatMap fun a=>(a.1.flatMap fun x=>(if x.kind=0 then [(2,x.name,x.place)] else if x.kind=1 then [(3,x.name,x.place)] else [])++eZ d x.alts)++(if a.2.1=aW then [] else [(4,a.2.1,a.2.2)])
def mQ(d:Nat)(x:It):List Wd:=(if x.kind=0 then [(2,x.name,x.place)] else if x.kind=1 then [(3,x.name,x.place)] else [])++eZ d x.alts
def DI(d:Nat)(a:Alt):List Wd:=a.1.flatMap (mQ d)++(if a.2.1=aW then [] else [(4,a.2.1,a.2.2)])
theorem aac:∀d,eZ d []=[]
 |0=>rfl
 |_+1=>rfl
theorem IE(d:Nat)(l:List Alt):eZ (d+1) l=l.flatMap (DI d):=rfl
def iF(g:Gr):List Wd:=(g.levels.flatMap fun lv=>lv.tokens.map fun t=>(0,t.1,t.2))++g.rules.flatMap fun r=>(1,r.name,r.place)::eZ 9 r.alts
def Pass{α:Type}(fl:α->List Wd)(f:List Tk->aV α):Prop:=∀ts x ts',WF ts->f ts=.ok (x,ts')->WF ts'/\(hd ts'≠mE->∀aI,aI≠ku->∃kI,kI≠ku/\wl aI false ts=fl x++wl kI false ts')
theorem BG{ts:List Tk}(h:WF ts)(aI:ByteArray)(a:Bool):wl aI a ts=qX aI a (hd ts,pl ts) (hd ts.tail)++wl (hd ts) (yS a (hd ts,pl ts)) ts.tail:=by
 cases ts with
 |nil=>exact h.elim
 |cons t r=>rfl
theorem TV{t:ByteArray}{p:Nat}{a aI:ByteArray}{b:Bool}(h1:isName t=false)(h2:isToken t=false):qX aI b (t,p) a=[]:=by
 unfold qX;simp only[h1,h2];rfl
theorem DJ{t:ByteArray}{p:Nat}(h1:isName t=false)(a:Bool):yS a (t,p)=a:=by
 unfold yS;simp only[h1];rfl
theorem Ae{ts:List Tk}(h:WF ts){b:ByteArray}(c:hd ts=b)(h1:isName b=false)(h2:isToken b=false)(aI:ByteArray)(a:Bool):wl aI a ts=wl b a ts.tail:=by
 rw[BG h,c,TV h1 h2,DJ h1];rfl
theorem MU{b:ByteArray}(g:b≠aW)(h1:isName b=false)(h2:isToken b=false){ts ts':List Tk}{u:Unit}(c:WF ts)(h:jy b ts=.ok (u,ts'))(aI:ByteArray)(a:Bool):WF ts'/\wl aI a ts=wl b a ts':=by
 obtain⟨f,d⟩:=yK h;subst f;exact⟨c.tail (by rw[d];exact g),Ae c d h1 h2 aI a⟩
theorem FB{ts:List Tk}(a:WF ts){aI:ByteArray}(b:aI≠ku):WF (dJ ts).2/\∃kI,kI≠ku/\wl aI false ts=wl kI false (dJ ts).2:=by
 unfold dJ
 split
 ·rename_i h;exact⟨a.tail (by rw[h];decide),_,by decide,Ae a h (by decide) (by decide) aI false⟩
 ·split
  ·rename_i h;exact⟨a.tail (by rw[h];decide),_,by decide,Ae a h (by decide) (by decide) aI false⟩
  ·split
   ·rename_i h;exact⟨a.tail (by rw[h];decide),_,by decide,Ae a h (by decide) (by decide) aI false⟩
   ·exact⟨a,aI,b,rfl⟩
theorem ajW{ts:List Tk}(h:hd (dJ ts).2≠mE):hd ts≠mE:=by
 unfold dJ at h
 split at h
 ·rename_i h1;rw[h1];decide
 ·split at h
  ·rename_i h1;rw[h1];decide
  ·split at h
   ·rename_i h1;rw[h1];decide
   ·exact h
theorem BH{k:ByteArray->Bool}(a:k aW=false){t:ByteArray}(h:k t=true):t≠aW:=fun e=>by rw[e,a]at h;cases h
theorem aiE{t:ByteArray}(h:isName t=true):t≠ku:=fun e=>by rw[e]at h;exact absurd h (by decide)
theorem aa7{t:ByteArray}(h:isToken t=true):t≠ku:=fun e=>by rw[e]at h;exact absurd h (by decide)
theorem Ab{t:ByteArray}(h:isToken t=true):isName t=false:=by
 unfold isToken isWord at h;simp only[Bool.and_eq_true]at h;have a:=h.1.2;unfold isName isWord;have:small (gZ t 0)=false:=by
  unfold capital at a;unfold small;have:=iS a;exact eE (by omega)
 simp[this]
theorem Y9{d:Nat}{aF:List Tk->aV (List Alt)}(o:∀ts x ts',WF ts->hd ts=mM->aF ts=.ok (x,ts')->WF ts'/\∀aI,∃kI,kI≠ku/\wl aI false ts=eZ d x++wl kI false ts'):Pass (mQ d) (iq aF):=fun ts x ts' i h=>by
 rw[ajQ]at h
 split at h
 ·rename_i k
  obtain⟨t,r,h1,h2⟩:=nG h;cases h2;obtain⟨w1,q⟩:=o _ _ _ i k h1;refine⟨(FB w1 (aI:=aW) (by decide)).1,fun _ aI l=>?_⟩;obtain⟨s,p,n⟩:=q aI;obtain⟨_,g,j,f⟩:=FB w1 p;refine⟨g,j,?_⟩;rw[n,f];simp only[mQ,List.append_assoc];rfl
 ·split at h
  ·rename_i k b
   cases h;have c:=i.tail (BH (by decide) b);refine⟨(FB c (aI:=aW) (by decide)).1,fun m aI l=>?_⟩;obtain⟨_,g,j,f⟩:=FB c (aiE b);refine⟨g,j,?_⟩;rw[BG i,show yS false (hd ts,pl ts)=false by unfold yS;split <;> rfl,f];unfold qX mQ;simp only[b,if_true,if_neg (ajW m),aac,List.append_nil]
  ·split at h
   ·rename_i k b a
    cases h;have c:=i.tail (BH (by decide) a);refine⟨(FB c (aI:=aW) (by decide)).1,fun m aI l=>?_⟩;obtain⟨_,g,j,f⟩:=FB c (aa7 a);refine⟨g,j,?_⟩;rw[BG i,DJ (Ab a),f];unfold qX mQ;simp only[Ab a,a,if_true,if_neg l,aac,List.append_nil];simp
   ·cases h
theorem alz{ts:List Tk}(h:rM ts=true):hd ts≠mE:=by
 intro e;unfold rM at h;rw[e]at h;exact absurd h (by decide)
theorem Yy{d:Nat}{aF:List Tk->aV (List Alt)}(l:Pass (mQ d) (iq aF))(j:∀ts x ts',aF ts=.ok (x,ts')->ts'.length<=ts.tail.length):∀(f:Nat)(ts:List Tk)(a x:List It)(ts':List Tk),WF ts->ts.length<=f->jr aF f ts a=.ok (x,ts')->WF ts'/\∃y,x=a++y/\(hd ts'≠mE->hd ts≠mE/\∀aI,aI≠ku->∃kI,kI≠ku/\wl aI false ts=y.flatMap (mQ d)++wl kI false ts')
 |0,ts,a,x,ts',hw,hf,h=>by have:=hw.ne;omega
 |f+1,ts,a,x,ts',hw,hf,h=>by
  rw[aiB]at h
  split at h
  ·rename_i B
   obtain⟨z,o,h1,h2⟩:=nG h;obtain⟨w1,q⟩:=l _ _ _ hw h1;have k:=Rs j h1;have s:=hw.sV;obtain⟨w2,y,m,A⟩:=Yy l j f o _ x ts' w1 (by omega) h2;refine⟨w2,z::y,by rw[m];simp,fun b=>⟨alz B,fun aI g=>?_⟩⟩;obtain⟨p,t⟩:=A b;obtain⟨u,c,r⟩:=q p aI g;obtain⟨v,i,n⟩:=t u c;exact⟨v,i,by rw[r,n,eh,dq]⟩
  ·cases h
   exact⟨hw,[],by simp,fun b=>⟨b,fun aI g=>⟨aI,g,rfl⟩⟩⟩
theorem ahp(d:Bool)(a:List It){ts ts':List Tk}{x:Alt}(g:WF ts)(h:qB d a ts=.ok (x,ts')):WF ts'/\x.1=a/\(hd ts'≠mE->hd ts≠mE)/\∀aI,aI≠ku->∃kI,kI≠ku/\wl aI false ts=(if x.2.1=aW then [] else [(4,x.2.1,x.2.2)])++wl kI false ts':=by
 rw[ajR]at h
 split at h
 ·rename_i f
  obtain⟨b,m,h1,h2⟩:=nG h;cases h2;obtain⟨k,l,c⟩:=oO h1;have j:=g.tail (by rw[f.2];decide);subst k l;refine⟨j.tail (BH (by decide) c),rfl,fun _=>by rw[f.2];decide,fun aI i=>⟨hd ts.tail,aa7 c,?_⟩⟩;rw[Ae g f.2 (by decide) (by decide),BG j,DJ (Ab c)];rw[dt (BH (by decide) c)];unfold qX;simp only[Ab c,c,if_true];simp
 ·cases h
  exact⟨g,rfl,fun h=>h,fun aI i=>⟨aI,i,by simp⟩⟩
theorem aad{d:Nat}{aF:List Tk->aV (List Alt)}(p:Pass (mQ d) (iq aF))(i:∀ts x ts',aF ts=.ok (x,ts')->ts'.length<=ts.tail.length)(a:Bool):Pass (DI d) (iG aF a):=fun ts x ts' t h=>by
 rw[alu]at h;obtain⟨y,A,h1,h2⟩:=nG h;obtain⟨w1,z,g,k⟩:=Yy p i _ _ _ _ _ t (dy _) h1;obtain⟨w2,l,v,s⟩:=ahp a _ w1 h2;refine⟨w2,fun j u m=>?_⟩;obtain⟨_,n⟩:=k (v j);obtain⟨o,b,f⟩:=n u m;obtain⟨q,c,r⟩:=s o b;refine⟨q,c,?_⟩;rw[f,r];unfold DI;rw[l,g,g8,dq]
theorem Za{d:Nat}{aF:List Tk->aV (List Alt)}(n:Pass (mQ d) (iq aF))(c:∀ts x ts',aF ts=.ok (x,ts')->ts'.length<=ts.tail.length)(b:Bool):∀(f:Nat)(ts:List Tk)(a x:List Alt)(ts':List Tk),WF ts->ts.length<=f->l9 aF b f ts a=.ok (x,ts')->WF ts'/\∃y,x=a++y/\(hd ts'≠mE->hd ts≠mE/\∀aI,aI≠ku->∃kI,kI≠ku/\wl aI false ts=y.flatMap (DI d)++wl kI false ts')
 |0,ts,a,x,ts',hw,hf,h=>by have:=hw.ne;omega
 |f+1,ts,a,x,ts',hw,hf,h=>by
  rw[ajS]at h
  split at h
  ·rename_i j
   obtain⟨z,q,h1,h2⟩:=nG h;have r:=hw.tail (by rw[j];decide);obtain⟨w1,t⟩:=aad n c b _ _ _ r h1;have l:=IW c h1;have v:=hw.sV;obtain⟨w2,y,o,D⟩:=Za n c b f q _ x ts' w1 (by omega) h2;refine⟨w2,z::y,by rw[o];simp,fun g=>⟨by rw[j];decide,fun aI m=>?_⟩⟩;obtain⟨s,A⟩:=D g;obtain⟨B,i,u⟩:=t s Ca (by decide);obtain⟨C,k,p⟩:=A B i;refine⟨C,k,?_⟩;rw[Ae hw j (by decide) (by decide),u,p,eh,dq]
  ·cases h
   exact⟨hw,[],by simp,fun g=>⟨g,fun aI m=>⟨aI,m,rfl⟩⟩⟩
theorem XY{d:Nat}{aF:List Tk->aV (List Alt)}(g:Pass (mQ d) (iq aF))(f:∀ts x ts',aF ts=.ok (x,ts')->ts'.length<=ts.tail.length)(a:Bool):Pass (eZ (d+1)) (qx aF a):=fun ts x ts' t h=>by
 rw[ahl]at h;obtain⟨y,v,h1,h2⟩:=nG h;obtain⟨w1,m⟩:=aad g f a _ _ _ t h1;obtain⟨w2,z,j,s⟩:=Za g f a _ _ _ _ _ w1 (dy _) h2;refine⟨w2,fun k u n=>?_⟩;obtain⟨l,o⟩:=s k;obtain⟨p,b,i⟩:=m l u n;obtain⟨q,c,r⟩:=o p b;refine⟨q,c,?_⟩;rw[i,r,j,IE,gw,eh,p6,eV,dq]
theorem agt{d:Nat}{r:List Tk->aV (List Alt)}(f:Pass (eZ d) r)(ts:List Tk)(x:List Alt)(ts':List Tk)(b:WF ts)(a:hd ts=mM)(h:qz r ts=.ok (x,ts')):WF ts'/\∀aI,∃kI,kI≠ku/\wl aI false ts=eZ d x++wl kI false ts':=by
 rw[aiC]at h;obtain⟨y,l,h1,h2⟩:=nG h;obtain⟨u,m,h3,h4⟩:=nG h2;cases h4;obtain⟨w1,j⟩:=f _ _ _ (b.tail (by rw[a];decide)) h1;have g:=(yK h3).2;obtain⟨w2,n⟩:=MU (by decide) (by decide) (by decide) w1 h3 aW false;refine⟨w2,fun aI=>?_⟩;obtain⟨k,i,c⟩:=j (by rw[g];decide) mM (by decide);refine⟨BO,by decide,?_⟩;rw[Ae b a (by decide) (by decide),c,(MU (by decide) (by decide) (by decide) w1 h3 k false).2]
theorem Zb:∀d,Pass (eZ (d+1)) (nJ d)
 |0=>XY (aF:=fun a=>.error (3,pl a)) (Y9 (fun _ _ _ _ _ h=>by cases h)) (fun _ _ _ h=>by cases h) false
 |d+1=>XY (Y9 (agt (Zb d))) (Ra (MF d)) (d == 7)
theorem Zc{ts ts':List Tk}{x:Rl}(f:WF ts)(h:iw ts=.ok (x,ts')):WF ts'/\∀aI il,wl aI il ts=(1,x.name,x.place)::eZ 9 x.alts++wl mO false ts':=by
 rw[ajT]at h;obtain⟨n,A,h1,h2⟩:=nG h;obtain⟨_,C,h3,h4⟩:=nG h2;obtain⟨l,z,r,t⟩:=nG h4;obtain⟨_,B,d,j⟩:=nG t;cases j;obtain⟨i,o,b⟩:=oO h1;subst i o;have u:=f.tail (BH (by decide) b);have c:=(yK h3).2;obtain⟨w2,s⟩:=MU (by decide) (by decide) (by decide) u h3 (hd ts) false;obtain⟨q,v⟩:=Zb 8 _ _ _ w2 r;have a:=(yK d).2;obtain⟨p,m,g⟩:=v (by rw[a];decide) mE (by decide);obtain⟨y,k⟩:=MU (by decide) (by decide) (by decide) q d p false;refine⟨y,fun aI il=>?_⟩;rw[BG f,show yS il (hd ts,pl ts)=false by unfold yS;rw[dj b],s,g,k];unfold qX;simp only[b,if_true,c];simp
theorem XZ:∀(f:Nat)(ts a x ts':List Tk),WF ts->ts.length<=f->jG f ts a=.ok (x,ts')->WF ts'/\∃y,x=a++y/\∀aI,wl aI true ts=y.map (fun t=>(0,t.1,t.2))++wl mO true ts'
 |0,ts,a,x,ts',hw,hf,h=>by have:=hw.ne;omega
 |f+1,ts,a,x,ts',hw,hf,h=>by
  rw[ahm]at h
  split at h
  ·rename_i d
   cases h;exact⟨hw.tail (by rw[d];decide),[],by simp,fun aI=>by rw[Ae hw d (by decide) (by decide)];rfl⟩
  ·obtain⟨b,n,h1,h2⟩:=nG h
   obtain⟨j,m,c⟩:=oO h1;subst j m;have l:=hw.tail (BH (by decide) c);have g:=hw.sV;obtain⟨w2,y,i,k⟩:=XZ f ts.tail _ x ts' l (by omega) h2;refine⟨w2,(hd ts,pl ts)::y,by rw[i];simp,fun aI=>?_⟩;rw[BG hw,DJ (Ab c),k];unfold qX;simp only[Ab c,c,if_true];simp
theorem agu{ts ts':List Tk}{x:Lv}(j:WF ts)(d:0<=iL (hd ts))(h:jY ts=.ok (x,ts')):WF ts'/\∀aI,wl aI true ts=x.tokens.map (fun t=>(0,t.1,t.2))++wl mO true ts':=by
 rw[Ru]at h;obtain⟨b,q,h1,h2⟩:=nG h;obtain⟨l,r,h3,h4⟩:=nG h2;cases h4;have c:hd ts=N7\/hd ts=NS\/hd ts=N8:=by
  unfold iL at d
  split at d
  ·rename_i h;exact .inl h
  ·split at d
   ·rename_i h;exact .inr (.inl h)
   ·split at d
    ·rename_i h;exact .inr (.inr h)
    ·exact absurd d (by decide)
 have a:isName (hd ts)=false/\isToken (hd ts)=false/\hd ts≠aW:=by
  rcases c with e|e|e <;> rw[e] <;> decide
 have i:=j.tail a.2.2;obtain⟨m,n,f⟩:=oO h1;subst m n;have g:=i.tail (BH (by decide) f);obtain⟨o,y,k,p⟩:=XZ _ _ _ _ _ g (dy _) h3;refine⟨o,fun aI=>?_⟩;rw[Ae j rfl a.1 a.2.1,BG i,DJ (Ab f),p,k];unfold qX;simp only[Ab f,f,if_true];simp
theorem X0:∀(f:Nat)(ts:List Tk)(a x:List Lv)(ts':List Tk),WF ts->jO f ts a=.ok (x,ts')->WF ts'/\∃y,x=a++y/\∀aI,∃kI,wl aI true ts=(y.flatMap fun lv=>lv.tokens.map fun t=>(0,t.1,t.2))++wl kI true ts'
 |0,ts,a,x,ts',hw,h=>by cases h;exact⟨hw,[],by simp,fun aI=>⟨aI,rfl⟩⟩
 |f+1,ts,a,x,ts',hw,h=>by
  rw[ahn]at h
  split at h
  ·rename_i b
   obtain⟨z,j,h1,h2⟩:=nG h;obtain⟨w1,k⟩:=agu hw b h1;obtain⟨w2,y,c,i⟩:=X0 f j _ x ts' w1 h2;refine⟨w2,z::y,by rw[c];simp,fun aI=>?_⟩;obtain⟨d,g⟩:=i mO;exact⟨d,by rw[k,g,eh,dq]⟩
  ·cases h;exact⟨hw,[],by simp,fun aI=>⟨aI,rfl⟩⟩
theorem Yz:∀(f:Nat)(ts:List Tk)(a x:List Rl)(ts':List Tk),WF ts->jv f ts a=.ok (x,ts')->WF ts'/\∃y,x=a++y/\∀aI il,∃kI il',wl aI il ts=(y.flatMap fun r=>(1,r.name,r.place)::eZ 9 r.alts)++wl kI il' ts'
 |0,ts,a,x,ts',hw,h=>by cases h;exact⟨hw,[],by simp,fun aI il=>⟨aI,il,rfl⟩⟩
 |f+1,ts,a,x,ts',hw,h=>by
  rw[aiD]at h
  split at h
  ·cases h;exact⟨hw,[],by simp,fun aI il=>⟨aI,il,rfl⟩⟩
  ·obtain⟨z,j,h1,h2⟩:=nG h
   obtain⟨w1,k⟩:=Zc hw h1;obtain⟨w2,y,c,i⟩:=Yz f j _ x ts' w1 h2;refine⟨w2,z::y,by rw[c];simp,fun aI il=>?_⟩;obtain⟨d,b,g⟩:=i mO false;exact⟨d,b,by rw[k,g,eh,dq]⟩
theorem Rb{s:ByteArray}{g:Gr}(h:parse s=.ok g):wl aW true (lex s)=iF g:=by
 obtain⟨_,c,f⟩:=ajV h;have a:=afY f;rw[afW]at f;obtain⟨F,B,h1,h2⟩:=nG f;obtain⟨x,G,h3,h4⟩:=nG h2;obtain⟨l,A,m,o⟩:=nG h4;cases o;obtain⟨w1,C,k,y⟩:=X0 _ _ _ _ _ (lex_wf s) h1;obtain⟨w2,n⟩:=Zc w1 h3;obtain⟨i,E,p,z⟩:=Yz _ _ _ _ _ w2 m;obtain⟨D,j⟩:=y aW;obtain⟨v,d,q⟩:=z mO false;have b:wl v d c=[]:=by
  rw[BG i,a,TV (by decide) (by decide)];have:=i
  match c,this,a with
  | [t],_,_=>rfl
  |t::u::r,h,e=>exact absurd e h.1
 rw[j,n,q,b,k,p];unfold iF;simp
theorem aa8:∀(ts:List Tk)(aI:ByteArray)(il:Bool)(w:Wd),w∈wl aI il ts->((w.1=1\/w.1=2)/\isName w.2.1=true)\/((w.1=0\/w.1=3\/w.1=4)/\isToken w.2.1=true)
 | [],_,_,_,h=>by cases h
 |t::ts,aI,il,w,h=>by
  rcases cY.1 h with h|h
  ·unfold qX at h
   split at h
   ·rename_i a
    simp only[List.mem_singleton]at h;subst h
    left
    refine⟨?_,a⟩
    by_cases he:hd ts=mE
    ·left;simp[he]
    ·right;simp[he]
   ·split at h
    ·rename_i a b
     simp only[List.mem_singleton]at h;subst h
     right
     refine⟨?_,b⟩
     by_cases h1:il=true
     ·left;simp[h1]
     ·by_cases h2:aI=ku
      ·right;right;simp[h1,h2]
      ·right;left;simp[h1,h2]
    ·cases h
  ·exact aa8 ts _ _ w h
theorem Fh{s:ByteArray}{g:Gr}(h:parse s=.ok g)(w:Wd)(a:w∈iF g):((w.1=1\/w.1=2)/\isName w.2.1=true)\/((w.1=0\/w.1=3\/w.1=4)/\isToken w.2.1=true):=by
 rw[<-Rb h]at a;exact aa8 _ _ _ w a
theorem QL{t:ByteArray}(h1:isName t=true)(h2:isToken t=true):False:=by rw[Ab h2]at h1;cases h1
def told(ws:List Wd):List Wd:=ws.filter fun w=>decide (w.1=0\/w.1=1)
def iH(b:ByteArray)(l:List ByteArray):Bool:=l.any fun x=>decide (x=b)
theorem Bz{b:ByteArray}{l:List ByteArray}:iH b l=true↔b∈l:=by
 unfold iH;rw[oX];constructor
 ·rintro⟨x,a,e⟩
  have:=iS e;subst this;exact a
 ·intro h;exact⟨b,h,fi rfl⟩
def ja:List ByteArray->List Wd->Option Nat
 |_,[]=>none
 |seen,w::ws=>if iH w.2.1 seen=true then some w.2.2 else ja (w.2.1::seen) ws
def om(g:Gr):List Wd:=g.levels.flatMap fun lv=>lv.tokens.map fun t=>(0,t.1,t.2)
def Fq(g:Gr):List Wd:=g.rules.map fun r=>(1,r.name,r.place)
theorem Mr:∀(d:Nat)(l:List Alt)(w:Wd),w∈eZ d l->w.1=2\/w.1=3\/w.1=4
 |0,_,_,h=>by cases h
 |d+1,l,w,h=>by
  rw[IE]at h;obtain⟨a,_,h⟩:=fW.1 h;rcases cY.1 h with h|h
  ·obtain⟨x,_,h⟩:=fW.1 h
   rcases cY.1 h with h|h
   ·split at h
    ·simp only[List.mem_singleton]at h;subst h;exact .inl rfl
    ·split at h
     ·simp only[List.mem_singleton]at h;subst h;exact .inr (.inl rfl)
     ·cases h
   ·exact Mr d _ w h
  ·split at h
   ·cases h
   ·simp only[List.mem_singleton]at h;subst h;exact .inr (.inr rfl)
theorem ahq(d:Nat)(l:List Alt):told (eZ d l)=[]:=by
 unfold told;rw[t6];intro w a;have:=Mr d l w a;simp only[decide_eq_true_eq];omega
theorem agv(g:Gr):told (om g)=om g:=by
 unfold told;rw[td];intro w a;unfold om at a;obtain⟨b,_,a⟩:=fW.1 a;obtain⟨t,_,rfl⟩:=ee.1 a;rfl
theorem MI(g:Gr):told (iF g)=om g++Fq g:=by
 unfold iF;have h1:told (om g)=om g:=agv g;have h2:∀a:List Rl,told (a.flatMap fun r=>(1,r.name,r.place)::eZ 9 r.alts)=a.map fun r=>(1,r.name,r.place):=by
  intro a
  induction a with
  |nil=>rfl
  |cons r a ih=>
   rw[eh,j7,<-ih];have h3:=ahq 9 r.alts;unfold told at h3|-;rw[ki,mL,h3];rfl
 show told (om g++_)=_;unfold told at h1 h2|-;rw[ki,h1,h2];rfl
def mI(names toks:List ByteArray):List Wd->Option Nat
 | []=>none
 |w::ws=>if (w.1=2/\iH w.2.1 names=false)\/(w.1=4/\iH w.2.1 toks=false) then some w.2.2 else mI names toks ws
theorem QE(c d:List ByteArray)(a b:List Wd):mI c d (a++b)=(mI c d a).or (mI c d b):=by
 induction a with
 |nil=>simp[mI]
 |cons w a ih=>
  simp only[List.cons_append,mI]
  split
  ·rfl
  ·exact ih
def iter{σ:Type}(R:σ->σ):Nat->σ->σ
 |0,s=>s
 |k+1,s=>iter R k (R s)
theorem YA{σ:Type}{R:σ->σ}{Inv Closed:σ->Prop}{cnt:σ->Nat}{N:Nat}(d:∀s,Inv s->Inv (R s))(c:∀s,Inv s->cnt s<=N)(b:∀s,Inv s->¬Closed s->cnt s<cnt (R s))(a:∀s,Inv s->Closed s->R s=s):∀(k:Nat)(s:σ),Inv s->N+1<=k+cnt s->Closed (iter R k s)
 |0,s,hi,h=>by have:=c s hi;omega
 |k+1,s,hi,h=>by
  by_cases hc:Closed s
  ·have:∀k,iter R k s=s:=by
    intro k
    induction k with
    |zero=>rfl
    |succ k ih=>rw[iter,a s hi hc,ih]
   rw[this];exact hc
  ·have:=b s hi hc
   exact YA d c b a k (R s) (d s hi) (by omega)
def fD(ws:List Wd):List ByteArray:=ws.map fun w=>w.2.1
theorem Zd{b:ByteArray}{l:List ByteArray}:iH b l=false↔b∉l:=by
 rw[<-oY,Bz]
theorem Rv{b:ByteArray}{l m:List ByteArray}(h:b∈l↔b∈m):iH b l=iH b m:=by
 cases h1:iH b l
 ·cases h2:iH b m
  ·rfl
  ·exact absurd (h.2 (Bz.1 h2)) (Zd.1 h1)
 ·exact(Bz.2 (h.1 (Bz.1 h1))).symm
theorem XJ:∀(ws:List Wd)(s t:List ByteArray),(∀w∈ws,w.2.1∈s↔w.2.1∈t)->ja s ws=ja t ws
 | [],_,_,_=>rfl
 |w::ws,s,t,h=>by
  simp only[ja];rw[Rv (h w (by simp)),XJ ws (w.2.1::s) (w.2.1::t) fun u a=>by
   simp only[List.mem_cons];rw[h u (by simp[a])]]
theorem X6:∀(a b:List Wd)(s:List ByteArray),ja s (a++b)=(ja s a).or (ja ((fD a).reverse++s) b)
 | [],b,s=>by simp[ja,fD]
 |w::a,b,s=>by
  simp only[List.cons_append,ja]
  split
  ·rfl
  ·rw[X6 a b]
   simp[fD]
theorem aiF{s:ByteArray}{g:Gr}(h:parse s=.ok g):ja [] (told (iF g))=(ja [] (om g)).or (ja [] (Fq g)):=by
 rw[MI,X6];refine fb _ (XJ _ _ _ fun w i=>?_);have d:∀u∈om g,isToken u.2.1=true:=fun u b=>by
  have a:u∈iF g:=so _ b;rcases Fh h u a with ⟨h1,_⟩|⟨_,h2⟩
  ·unfold om at b
   obtain⟨j,_,b⟩:=fW.1 b;obtain⟨t,_,rfl⟩:=ee.1 b;simp at h1
  ·exact h2
 have f:isName w.2.1=true:=by
  have a:w∈told (iF g):=by rw[MI];exact ub _ i
  have c:w∈iF g:=(hU.1 a).1;rcases Fh h w c with ⟨_,h2⟩|⟨h1,_⟩
  ·exact h2
  ·unfold Fq at i
   obtain⟨r,_,rfl⟩:=ee.1 i;simp at h1
 constructor
 ·intro a
  rw[eV,List.mem_reverse]at a;obtain⟨u,b,e⟩:=ee.1 a;exfalso;exact QL f (by rw[<-e];exact d u b)
 ·intro a;cases a
def oP(all:List ByteArray):List Wd->Option Nat
 | []=>none
 |w::ws=>if (w.1=2\/w.1=4)/\iH w.2.1 all=false then some w.2.2 else oP all ws
def bA(g:Gr):List ByteArray:=g.rules.map fun r=>r.name
def lM(g:Gr):List ByteArray:=fD (om g)
theorem X8{a c:List ByteArray}(g:∀b∈a,isName b=true)(f:∀b∈c,isToken b=true):∀ws:List Wd,(∀w∈ws,((w.1=1\/w.1=2)/\isName w.2.1=true)\/((w.1=0\/w.1=3\/w.1=4)/\isToken w.2.1=true))->oP (c++a) ws=mI a c ws
 | [],_=>rfl
 |w::ws,h=>by
  have ih:=X8 g f ws (fun u j=>h u (by simp[j]));simp only[oP,mI];have i:=h w (by simp);have key:((w.1=2\/w.1=4)/\iH w.2.1 (c++a)=false)↔((w.1=2/\iH w.2.1 a=false)\/(w.1=4/\iH w.2.1 c=false)):=by
   rcases i with ⟨h1,h2⟩|⟨h1,h2⟩
   ·have e:iH w.2.1 (c++a)=iH w.2.1 a:=Rv ⟨fun d=>(cY.1 d).elim (fun d=>(QL h2 (f _ d)).elim) id,fun d=>ub _ d⟩
    rw[e];constructor
    ·rintro⟨h3,h4⟩;exact .inl ⟨by omega,h4⟩
    ·rintro(⟨h3,h4⟩ | ⟨h3,_⟩)
     ·exact⟨.inl h3,h4⟩
     ·omega
   ·have e:iH w.2.1 (c++a)=iH w.2.1 c:=Rv ⟨fun d=>(cY.1 d).elim id (fun d=>(QL (g _ d) h2).elim),fun d=>so _ d⟩
    rw[e];constructor
    ·rintro⟨h3,h4⟩;exact .inr ⟨by omega,h4⟩
    ·rintro(⟨h3,_⟩ | ⟨h3,h4⟩)
     ·omega
     ·exact⟨.inr h3,h4⟩
  by_cases hc:(w.1=2\/w.1=4)/\iH w.2.1 (c++a)=false
  ·rw[dj hc,dj (key.1 hc)]
  ·rw[dt hc,dt (fun h=>hc (key.2 h)),ih]
theorem Ya(a b:List ByteArray):∀ws:List Wd,(∀w∈ws,w.1=0\/w.1=1)->mI a b ws=none
 | [],_=>rfl
 |w::ws,h=>by
  have:=h w (by simp);simp only[mI];rw[dt (by omega)];exact Ya a b ws (fun u c=>h u (by simp[c]))
def Fe(names toks:List ByteArray):List Rl->Option Nat
 | []=>none
 |r::rs=>(mI names toks (eZ 9 r.alts)).or (Fe names toks rs)
theorem afy(g:Gr)(a b:List ByteArray):mI a b (iF g)=Fe a b g.rules:=by
 unfold iF;rw[QE,Ya a b _ fun w c=>by
  obtain⟨d,_,c⟩:=fW.1 c;obtain⟨t,_,rfl⟩:=ee.1 c;exact .inl rfl,Option.none_or]
 induction g.rules with
 |nil=>rfl
 |cons r rs ih=>
  rw[eh,QE,ih,Fe];have e:mI a b ((1,r.name,r.place)::eZ 9 r.alts)=mI a b (eZ 9 r.alts):=by
   simp only[mI];rw[dt (by simp)]
  rw[e]
def aK(bs:List Bool)(i:Nat):Bool:=bs[i]?.getD false
def bW(a b:List Bool):Prop:=a.length=b.length/\∀i,aK a i=true->aK b i=true
theorem bW.refl(a:List Bool):bW a a:=⟨rfl,fun _ h=>h⟩
theorem bW.trans{a b c:List Bool}(h:bW a b)(k:bW b c):bW a c:=⟨h.1.trans k.1,fun i d=>k.2 i (h.2 i d)⟩
theorem at_set(bs:List Bool)(j i:Nat):aK (bs.set j true) i=if j=i/\j<bs.length then true else aK bs i:=by
 unfold aK;rw[fx]
 by_cases h:j=i
 ·subst h
  by_cases hl:j<bs.length
  ·simp[hl]
  ·simp[hl]
 ·simp[h]
theorem bW.set(bs:List Bool)(j:Nat):bW bs (bs.set j true):=⟨by simp,fun i a=>by rw[at_set];split <;> simp_all⟩
theorem R9{bs:List Bool}{j:Nat}(h:j<bs.length->aK bs j=true):bs.set j true=bs:=by
 apply oy;intro i;rw[fx]
 by_cases hj:j=i
 ·subst hj
  by_cases hl:j<bs.length
  ·have h1:=h hl
   unfold aK at h1;rw[cF hl]at h1|-;simp only[Option.getD_some]at h1;simp[h1];exact hl
  ·simp[hl]
 ·simp[hj]
def bB(bs:List Bool):Nat:=bs.countP id
theorem BI(bs:List Bool):bB bs<=bs.length:=ud
theorem cnt_mono:∀{a b:List Bool},bW a b->bB a<=bB b
 | [],[],_=>dy _
 | [],_::_,h=>by have:=h.1;simp at this
 |_::_,[],h=>by have:=h.1;simp at this
 |x::a,y::b,h=>by
  have ih:=cnt_mono (a:=a) (b:=b) ⟨by have:=h.1;simpa using this,fun i c=>h.2 (i+1) c⟩;have d:x=true->y=true:=fun e=>by subst e;exact h.2 0 rfl
  unfold bB at *;rw[mv,mv];cases x <;> cases y <;> simp_all <;> omega
theorem cnt_lt:∀{a b:List Bool}(i:Nat),bW a b->aK a i=false->aK b i=true->bB a<bB b
 | [],[],i,_,_,hb=>by simp[aK]at hb
 | [],_::_,_,h,_,_=>by have:=h.1;simp at this
 |_::_,[],_,h,_,_=>by have:=h.1;simp at this
 |x::a,y::b,0,h,ha,hb=>by
  have j:=cnt_mono (a:=a) (b:=b) ⟨by have:=h.1;simpa using this,fun i c=>h.2 (i+1) c⟩;have d:x=false:=ha;have f:y=true:=hb;subst d f;unfold bB at *;rw[mv,mv];simp only[id];simp;omega
 |x::a,y::b,i+1,h,ha,hb=>by
  have ih:=cnt_lt (a:=a) (b:=b) i ⟨by have:=h.1;simpa using this,fun i c=>h.2 (i+1) c⟩ ha hb;have g:x=true->y=true:=fun e=>by subst e;exact h.2 0 rfl
  unfold bB at *;rw[mv,mv];cases x <;> cases y <;> simp_all <;> omega
def rV(step:Nat->List Bool->List Bool):Nat->Nat->List Bool->List Bool
 |0,_,bs=>bs
 |k+1,i,bs=>rV step k (i+1) (step i bs)
structure StepB(step:Nat->List Bool->List Bool)(Cl:Nat->List Bool->Prop):Prop where
 le:∀i bs,bW bs (step i bs)
 idle:∀i bs,Cl i bs->step i bs=bs
 more:∀i a bs,bW a bs->¬Cl i a->(∃j,aK a j=false/\aK (step i bs) j=true)
theorem IX{step:Nat->List Bool->List Bool}{a:Nat->List Bool->Prop}(h:StepB step a):∀(k i:Nat)(bs:List Bool),bW bs (rV step k i bs)
 |0,_,bs=>bW.refl bs
 |k+1,i,bs=>(h.le i bs).trans (IX h k (i+1) (step i bs))
theorem Ze{step:Nat->List Bool->List Bool}{a:Nat->List Bool->Prop}(h:StepB step a):∀(k i:Nat)(bs:List Bool),(∀j,i<=j->j<i+k->a j bs)->rV step k i bs=bs
 |0,_,_,_=>rfl
 |k+1,i,bs,hc=>by
  rw[rV,h.idle i bs (hc i (dy _) (by omega))];exact Ze h k (i+1) bs fun j h1 h2=>hc j (by omega) (by omega)
theorem Zf{step:Nat->List Bool->List Bool}{d:Nat->List Bool->Prop}(h:StepB step d)(a:List Bool):∀(k i:Nat)(bs:List Bool),bW a bs->(∃j,i<=j/\j<i+k/\¬d j a)->∃j,aK a j=false/\aK (rV step k i bs) j=true
 |0,i,_,_,⟨j,h1,h2,_⟩=>by omega
 |k+1,i,bs,hl,⟨j,h1,h2,h3⟩=>by
  by_cases hj:j=i
  ·subst hj
   obtain⟨m,c,b⟩:=h.more j a bs hl h3;exact⟨m,c,(IX h k (j+1) (step j bs)).2 m b⟩
  ·exact Zf h a k (i+1) (step i bs) (hl.trans (h.le i bs)) ⟨j,by omega,by omega,h3⟩
theorem XK{step:Nat->List Bool->List Bool}{a:Nat->List Bool->Prop}(h:StepB step a)(n k:Nat)(bs:List Bool)(f:bs.length=n)(l:n+1<=k):∀i,i<n->a i (iter (rV step n 0) k bs):=by
 have key:=YA (R:=rV step n 0) (Inv:=fun s=>s.length=n) (Closed:=fun s=>∀i,i<n->a i s) (cnt:=bB) (N:=n)
  (fun s b=>by rw[<-b];exact(IX h _ _ s).1.symm)
  (fun s b=>by rw[<-b];exact BI s)
  (fun s b d=>by
   have c:∃j,0<=j/\j<0+n/\¬a j s:=by
    by_cases hh:∃j,0<=j/\j<0+n/\¬a j s
    ·exact hh
    ·exfalso;apply d
     intro i g
     by_cases hci:a i s
     ·exact hci
     ·exact absurd ⟨i,ff _,by omega,hci⟩ hh
   obtain⟨j,h1,h2⟩:=Zf h s n 0 s (bW.refl s) c;exact cnt_lt j (IX h n 0 s) h1 h2)
  (fun s b d=>Ze h n 0 s fun j _ h2=>d j (by omega))
 exact key k bs f (by omega)
theorem IK{step:Nat->List Bool->List Bool}{a:Nat->List Bool->Prop}(h:StepB step a)(n:Nat):∀(k:Nat)(bs:List Bool),bW bs (iter (rV step n 0) k bs)
 |0,bs=>bW.refl bs
 |k+1,bs=>(IX h n 0 bs).trans (IK h n k _)
theorem YB{step:Nat->List Bool->List Bool}{I:List Bool->Prop}(b:∀i bs,I bs->I (step i bs))(n:Nat):∀(k:Nat)(bs:List Bool),I bs->I (iter (rV step n 0) k bs):=by
 have a:∀(m i:Nat)(bs:List Bool),I bs->I (rV step m i bs):=by
  intro m
  induction m with
  |zero=>intro i bs h;exact h
  |succ m ih=>intro i bs h;exact ih _ _ (b i bs h)
 intro k
 induction k with
 |zero=>intro bs h;exact h
 |succ k ih=>intro bs h;exact ih _ (a n 0 bs h)
def nO(ns:List ByteArray)(b:ByteArray):Nat:=ns.findIdx fun x=>decide (x=b)
def pu(l:List Alt):List ByteArray:=fD ((eZ 9 l).filter fun w=>decide (w.1=2))
def lN(g:Gr)(i:Nat):List Alt:=(g.rules[i]?.map fun r=>r.alts).getD []
def yX(ns us:List ByteArray)(bs:List Bool):List Bool:=us.foldl (fun bs b=>bs.set (nO ns b) true) bs
theorem Jb(a:List ByteArray):∀(us:List ByteArray)(bs:List Bool),bW bs (yX a us bs)
 | [],bs=>bW.refl bs
 |b::us,bs=>(bW.set bs (nO a b)).trans (Jb a us _)
theorem aae(a:List ByteArray):∀(us:List ByteArray)(bs:List Bool),(∀b∈us,nO a b<bs.length->aK bs (nO a b)=true)->yX a us bs=bs
 | [],_,_=>rfl
 |b::us,bs,h=>by
  show yX a us (bs.set (nO a b) true)=bs;rw[R9 (h b (by simp))];exact aae a us bs fun c d=>h c (by simp[d])
theorem Sb(a:List ByteArray):∀(us:List ByteArray)(bs:List Bool)(b:ByteArray),b∈us->nO a b<bs.length->aK (yX a us bs) (nO a b)=true
 | [],_,_,h,_=>by cases h
 |c::us,bs,b,h,hl=>by
  show aK (yX a us (bs.set (nO a c) true)) _=true;rcases eC.1 h with rfl|h
  ·refine(Jb a us _).2 _ ?_
   rw[at_set,dj ⟨rfl,hl⟩]
  ·exact Sb a us _ b h (by simpa using hl)
theorem aaf(a:List ByteArray)(T:List Bool):∀(us:List ByteArray)(bs:List Bool),bs.length=T.length->(∀b∈us,nO a b<T.length->aK T (nO a b)=true)->bW bs T->bW (yX a us bs) T
 | [],_,_,_,h=>h
 |b::us,bs,hl,hu,h=>by
  show bW (yX a us (bs.set (nO a b) true)) T;refine aaf a T us _ (by simpa using hl) (fun c d=>hu c (by simp[d])) ⟨by simpa using hl,fun i f=>?_⟩;rw[at_set]at f
  split at f
  ·rename_i d
   rw[<-d.1];exact hu b (by simp) (by rw[<-hl];exact d.2)
  ·exact h.2 i f
def yM(g:Gr)(i:Nat)(bs:List Bool):List Bool:=if aK bs i=true then yX (bA g) (pu (lN g i)) bs else bs
def Cz(g:Gr)(i:Nat)(bs:List Bool):Prop:=aK bs i=true->∀b∈pu (lN g i),nO (bA g) b<bs.length->aK bs (nO (bA g) b)=true
theorem Rw(g:Gr):StepB (yM g) (Cz g) where
 le i bs:=by
  unfold yM
  split
  ·exact Jb _ _ bs
  ·exact bW.refl bs
 idle i bs h:=by
  unfold yM
  split
  ·rename_i j;exact aae _ _ bs (h j)
  ·rfl
 more i a bs hl h:=by
  have j:aK a i=true:=by
   cases hh:aK a i
   ·exact absurd (fun l=>by rw[hh]at l;cases l) h
   ·rfl
  have d:∃b,b∈pu (lN g i)/\nO (bA g) b<a.length/\aK a (nO (bA g) b)=false:=by
   by_cases hh:∃b,b∈pu (lN g i)/\nO (bA g) b<a.length/\aK a (nO (bA g) b)=false
   ·exact hh
   ·exfalso
    apply h;intro _ b f c;cases k:aK a (nO (bA g) b)
    ·exact absurd ⟨b,f,c,k⟩ hh
    ·rfl
  obtain⟨b,f,c,k⟩:=d;refine⟨_,k,?_⟩;unfold yM;rw[dj (hl.2 i j)];exact Sb _ _ bs b f (by rw[<-hl.1];exact c)
def pz(on:ByteArray->Bool):Nat->List Alt->Bool
 |0,_=>false
 |d+1,l=>l.any fun a=>a.1.all fun x=>decide (x.kind=1) || decide (x.mark=42) || decide (x.mark=63) || (decide (x.kind=0) && on x.name) || (decide (x.kind=2) && pz on d x.alts)
theorem Rx{on on':ByteArray->Bool}(h:∀b,on b=true->on' b=true):∀(d:Nat)(l:List Alt),pz on d l=true->pz on' d l=true
 |0,_,e=>by cases e
 |d+1,l,e=>by
  simp only[pz,List.any_eq_true,List.all_eq_true]at e|-;obtain⟨a,g,f⟩:=e;refine⟨a,g,fun x c=>?_⟩;have:=f x c;simp only[Bool.or_eq_true,Bool.and_eq_true]at this|-;rcases this with ((((t|t)|t)|t)|t)
  ·exact .inl (.inl (.inl (.inl t)))
  ·exact .inl (.inl (.inl (.inr t)))
  ·exact .inl (.inl (.inr t))
  ·exact .inl (.inr ⟨t.1,h _ t.2⟩)
  ·exact .inr ⟨t.1,Rx h d _ t.2⟩
def vU(g:Gr)(bs:List Bool)(b:ByteArray):Bool:=aK bs (nO (bA g) b)
def sZ(g:Gr)(i:Nat)(bs:List Bool):List Bool:=if pz (vU g bs) 9 (lN g i)=true then bs.set i true else bs
def kU(g:Gr)(i:Nat)(bs:List Bool):Prop:=pz (vU g bs) 9 (lN g i)=true->i<bs.length->aK bs i=true
theorem MV(g:Gr):StepB (sZ g) (kU g) where
 le i bs:=by
  unfold sZ
  split
  ·exact bW.set bs i
  ·exact bW.refl bs
 idle i bs h:=by
  unfold sZ
  split
  ·rename_i k;exact R9 (h k)
  ·rfl
 more i a bs hl h:=by
  have m:pz (vU g a) 9 (lN g i)=true:=by
   cases hh:pz (vU g a) 9 (lN g i)
   ·exact absurd (fun c=>by rw[hh]at c;cases c) h
   ·rfl
  have d:i<a.length:=by
   rcases pt i a.length with f|f
   ·exact f
   ·exact absurd (fun _ c=>by omega) h
  have l:aK a i=false:=by
   cases hh:aK a i
   ·rfl
   ·exact absurd (fun _ _=>hh) h
  refine⟨i,l,?_⟩;unfold sZ;rw[dj (Rx (on':=vU g bs) (fun b j=>hl.2 _ j) 9 _ m),at_set,dj ⟨rfl,by rw[<-hl.1];exact d⟩]
structure wY(Cl:Nat->List Bool->Prop)(n:Nat)(s bs:List Bool):Prop where
 len:bs.length=n
 has:bW s bs
 closed:∀i,i<n->Cl i bs
 least:∀T,T.length=n->bW s T->(∀i,i<n->Cl i T)->bW bs T
theorem amR{a b:List Bool}(h:a.length=b.length)(c:∀i,aK a i=aK b i):a=b:=by
 apply ms h;intro i h1 h2;have:=c i;unfold aK at this;rw[cF h1,cF h2]at this;simpa using this
theorem wY.unique{c:Nat->List Bool->Prop}{n:Nat}{s a b:List Bool}(h:wY c n s a)(k:wY c n s b):a=b:=by
 have h1:=h.least b k.len k.has k.closed;have h2:=k.least a h.len h.has h.closed;refine amR h1.1 fun i=>?_
 cases ha:aK a i
 ·cases hb:aK b i
  ·rfl
  ·rw[h2.2 i hb]at ha;cases ha
 ·rw[h1.2 i ha]
theorem aag(g:Gr)(T:List Bool)(l:∀i,i<T.length->Cz g i T)(i:Nat)(bs:List Bool)(h:bW bs T):bW (yM g i bs) T:=by
 unfold yM
 split
 ·rename_i k
  refine aaf _ T _ bs h.1 (fun b j f=>?_) h;have a:=h.2 i k;have d:i<T.length:=by
   rcases pt i T.length with c|c
   ·exact c
   ·unfold aK at a;rw[ju c]at a;cases a
  exact l i d a b j f
 ·exact h
theorem aa9(g:Gr)(T:List Bool)(l:∀i,i<T.length->kU g i T)(i:Nat)(bs:List Bool)(h:bW bs T):bW (sZ g i bs) T:=by
 unfold sZ
 split
 ·rename_i k
  refine⟨by simpa using h.1,fun j c=>?_⟩;rw[at_set]at c
  split at c
  ·rename_i d
   rw[<-d.1];have a:i<T.length:=by rw[<-h.1];exact d.2
   exact l i a (Rx (on':=vU g T) (fun b f=>h.2 _ f) 9 _ k) a
  ·exact h.2 j c
 ·exact h
theorem ahr(g:Gr)(n k:Nat)(s:List Bool)(b:s.length=n)(c:n+1<=k):wY (Cz g) n s (iter (rV (yM g) n 0) k s) where
 len:=by rw[<-b];exact(IK (Rw g) _ k s).1.symm
 has:=IK (Rw g) n k s
 closed:=XK (Rw g) n k s b c
 least T hT h1 h2:=YB (I:=fun a=>bW a T) (fun i a h=>aag g T (fun i d=>h2 i (by omega)) i a h) n k s h1
theorem aiG(g:Gr)(n k:Nat)(s:List Bool)(b:s.length=n)(c:n+1<=k):wY (kU g) n s (iter (rV (sZ g) n 0) k s) where
 len:=by rw[<-b];exact(IK (MV g) _ k s).1.symm
 has:=IK (MV g) n k s
 closed:=XK (MV g) n k s b c
 least T hT h1 h2:=YB (I:=fun a=>bW a T) (fun i a h=>aa9 g T (fun i d=>h2 i (by omega)) i a h) n k s h1
def unk(g:Gr)(ws:List Wd):Option Nat:=mI (bA g) (lM g) ws
theorem SB(g:Gr)(a b:List Wd):unk g (a++b)=(unk g a).or (unk g b):=QE _ _ a b
theorem ab0{l:List ByteArray}{b:ByteArray}:bZ l b<0↔iH b l=false:=by
 have h:=jI (l:=l) (b:=b);rw[Zd];constructor
 ·intro h1 h2;have:=h.2 h2;omega
 ·intro h1;by_cases h2:bZ l b<0
  ·exact h2
  ·exact absurd (h.1 (by omega)) h1
theorem abb(g:Gr)(b:ByteArray):lvls g b=iH b (lM g):=by
 have e:lvls g b=true↔iH b (lM g)=true:=by
  rw[Bz];unfold lvls lM fD om;rw[oX];constructor
  ·rintro⟨a,h1,h2⟩
   have h2:=jI.1 (iS h2);obtain⟨t,c,rfl⟩:=ee.1 h2;exact ee.2 ⟨(0,t.1,t.2),fW.2 ⟨a,h1,ee.2 ⟨t,c,rfl⟩⟩,rfl⟩
  ·intro h
   obtain⟨wd,h1,rfl⟩:=ee.1 h;obtain⟨a,h2,h3⟩:=fW.1 h1;obtain⟨t,c,rfl⟩:=ee.1 h3;exact⟨a,h2,fi (jI.2 (ee.2 ⟨t,c,rfl⟩))⟩
 cases h1:lvls g b <;> cases h2:iH b (lM g) <;> simp_all
def DT(a:Alt):List Wd:=if a.2.1=aW then [] else [(4,a.2.1,a.2.2)]
theorem Zg(d:Nat)(a:Alt):DI d a=a.1.flatMap (mQ d)++DT a:=rfl
theorem agw{g:Gr}{d:Nat}{x:It}(a:x.kind=0)(h:bZ (bA g) x.name<0)(r:List Wd):unk g (mQ d x++r)=some x.place:=by
 unfold unk mQ;rw[dj a];simp only[List.cons_append,List.nil_append,mI];rw[dj (.inl ⟨by simp,ab0.1 h⟩)]
theorem agx{g:Gr}{d:Nat}{x:It}(h:¬(x.kind=0/\bZ (bA g) x.name<0))(r:List Wd):unk g (mQ d x++r)=(unk g (eZ d x.alts)).or (unk g r):=by
 rw[show mQ d x=(if x.kind=0 then [(2,x.name,x.place)] else if x.kind=1 then [(3,x.name,x.place)] else [])++eZ d x.alts from rfl,dq,SB,SB];have e:unk g (if x.kind=0 then [(2,x.name,x.place)] else if x.kind=1 then [(3,x.name,x.place)] else [])=none:=by
  unfold unk
  split
  ·rename_i a
   have:¬iH x.name (bA g)=false:=fun e=>h ⟨a,ab0.2 e⟩
   simp only[mI];rw[dt];rintro(⟨_,h2⟩ | ⟨h1,_⟩)
   ·exact this h2
   ·cases h1
  ·split
   ·simp[mI]
   ·rfl
 rw[e];rfl
theorem agy{g:Gr}{a:Alt}(h:a.2.1≠aW)(b:lvls g a.2.1=false)(r:List Wd):unk g (DT a++r)=some a.2.2:=by
 unfold unk DT;rw[dt h];simp only[List.cons_append,List.nil_append,mI];rw[dj (.inr ⟨by simp,by rw[<-abb];exact b⟩)]
def DU(d:Nat)(l:List Alt):List ByteArray:=fD ((eZ d l).filter fun w=>decide (w.1=2))
def JC(d:Nat)(x:It):List ByteArray:=(if x.kind=0 then [x.name] else [])++DU d x.alts
theorem Fg(a b:List Wd):fD (a++b)=fD a++fD b:=by unfold fD;rw[eJ]
theorem ahs(d:Nat)(x:It):fD ((mQ d x).filter fun w=>decide (w.1=2))=JC d x:=by
 unfold mQ JC DU;rw[ki,Fg];congr 1
 split
 ·simp[fD]
 ·split
  ·simp[fD]
  ·rfl
theorem Zh(d:Nat):∀its:List It,fD ((its.flatMap (mQ d)).filter fun w=>decide (w.1=2))=its.flatMap (JC d)
 | []=>rfl
 |x::its=>by rw[eh,ki,Fg,ahs,Zh d its,eh]
theorem Zi(d:Nat):∀l:List Alt,DU (d+1) l=l.flatMap fun a=>a.1.flatMap (JC d)
 | []=>rfl
 |a::l=>by
  have ih:=Zi d l;unfold DU at ih|-;rw[IE]at ih|-;rw[eh,ki,Fg,ih,Zg,ki,Fg,Zh,eh];have:fD ((DT a).filter fun w=>decide (w.1=2))=[]:=by
   unfold DT;split
   ·rfl
   ·simp[fD]
  rw[this,eV]
theorem agz{g:Gr}{d:Nat}{x:It}{r:List Wd}(h:unk g (mQ d x++r)=none):(x.kind=0->0<=bZ (bA g) x.name)/\unk g (eZ d x.alts)=none/\unk g r=none:=by
 by_cases he:x.kind=0/\bZ (bA g) x.name<0
 ·rw[agw he.1 he.2]at h;cases h
 ·rw[agx he]at h
  refine⟨fun a=>?_,?_⟩
  ·have:=fun h=>he ⟨a,h⟩;omega
  ·cases h1:unk g (eZ d x.alts) with
   |none=>rw[h1]at h;exact⟨rfl,h⟩
   |some p=>rw[h1]at h;cases h
theorem agA{g:Gr}{a:Alt}{r:List Wd}(h:unk g (DT a++r)=none):unk g r=none:=by
 rw[SB]at h;cases h1:unk g (DT a) with
 |none=>rw[h1]at h;exact h
 |some p=>rw[h1]at h;cases h
end Lx
def bG(bs:List Bool):Array Value:=(bs.map Value.bool).toArray
theorem Dw(bs:List Bool)(i:Nat)(b:Bool):(bG bs).setIfInBounds i (.bool b)=bG (bs.set i b):=by
 unfold bG;rw[kf,oj]
theorem qR(bs:List Bool){i:Nat}(h:i<bs.length):(bG bs)[i]?=some (.bool (aK bs i)):=by
 unfold bG aK;simp[h]
theorem Ns{l:List ByteArray}{b:ByteArray}(h:0<=bZ l b):bZ l b=(Lx.fix l b:Int)/\Lx.fix l b<l.length:=by
 unfold bZ at h|-
 split
 ·rename_i h1;exact⟨rfl,h1⟩
 ·rename_i h1;rw[dt h1]at h;omega
namespace Lx
def uQ(on:ByteArray->Bool)(d:Nat)(x:It):Bool:=decide (x.kind=1) || decide (x.mark=42) || decide (x.mark=63) || (decide (x.kind=0) && on x.name) || (decide (x.kind=2) && pz on d x.alts)
theorem aht(on:ByteArray->Bool)(d:Nat)(l:List Alt):pz on (d+1) l=l.any fun a=>a.1.all (uQ on d):=rfl
end Lx
theorem Tryz.Ob:(prog.info? 4).map (fun i=>(i.zero,i.size,i.bytes))=some (some (.bool false),1,1):=by kernel_rfl
theorem Rc(n:Nat):madeCells #[.bool false] (n*1)=bG (List.replicate n false):=by
 unfold madeCells bG;apply qe
 ·simp
 ·intro i h1 h2
  simp[Nat.mod_one]
theorem Zj{n:Nat}(g:n<=2001)(w:World):(Instr.makeSlice 142 (.int .i64 (n:Int)) (.int .i64 (n:Int))).run prog w=.ok (.slice (some ⟨w.heap.size,0,none⟩) n n) (w.alloc (.cells (bG (List.replicate n false)) 4)):=by
 obtain⟨f,d,b,c,a⟩:=ft Tryz.Ob;have h:=pA (P:=prog) w 142 4 f _ (by kernel_rfl) d b .i64 .i64 (n:Int) (n:Int) (by omega) (nF _) (by rw[a];omega) (by omega);rw[h,im,c];have e:Value.cells (.bool false)=#[.bool false]:=rfl;rw[e,Rc]
namespace Lx
def qU:List Rl->List Bool->Option Nat
 |r::rs,b::bs=>if b=true then qU rs bs else some r.place
 |_,_=>none
def F4(g:Gr):List Bool:=iter (rV (yM g) g.rules.length 0) (g.rules.length+1) ((List.replicate g.rules.length false).set 0 true)
def D9(g:Gr):List Bool:=iter (rV (sZ g) g.rules.length 0) (g.rules.length+1) (List.replicate g.rules.length false)
def Ai(g:Gr):Option Nat:=(ja [] (om g)).or (ja [] (Fq g))
def uT(g:Gr):Option Nat:=Fe (bA g) (lM g) g.rules
def qF(n:Nat)(o:Option Nat)(r:Nat×Nat):Nat×Nat :=
 match o with
 |some p=>(n,p)
 |none=>r
def kV(g:Gr):Nat×Nat:=qF 4 (Ai g) (qF 5 (uT g) (qF 6 (qU g.rules (F4 g)) (qF 7 (qU g.rules (D9 g)) (0,0))))
theorem MW{g:Gr}:∀{rs:List Rl},Fe (bA g) (lM g) rs=none->∀r∈rs,unk g (eZ 9 r.alts)=none
 | [],_,_,h=>by cases h
 |r::rs,h,x,a=>by
  rw[Fe]at h;cases h1:mI (bA g) (lM g) (eZ 9 r.alts) with
  |some p=>rw[h1]at h;cases h
  |none=>
   rw[h1]at h;rcases eC.1 a with rfl|a
   ·exact h1
   ·exact MW h x a
theorem Ry{g:Gr}{i:Nat}(a:i<g.rules.length):lN g i=g.rules[i].alts:=by simp[lN,a]
def dm:Nat->List Alt->List It
 |0,_=>[]
 |d+1,l=>l.flatMap fun a=>a.1.flatMap fun x=>x::dm d x.alts
def iN:Nat->List Alt->Nat
 |0,_=>0
 |d+1,l=>(l.map fun a=>1+(a.1.map fun x=>1+iN d x.alts).sum).sum
def xC(d:Nat)(x:It):List It:=x::dm d x.alts
def DV(d:Nat)(x:It):Nat:=1+iN d x.alts
def qY(d:Nat)(l:List It):List It:=l.flatMap (xC d)
def tF(d:Nat)(l:List It):Nat:=(l.map (DV d)).sum
theorem wM(d:Nat)(l:List Alt):dm (d+1) l=l.flatMap fun a=>qY d a.1:=rfl
theorem Du(d:Nat)(l:List Alt):iN (d+1) l=(l.map fun a=>1+tF d a.1).sum:=rfl
theorem MX:∀d,dm d []=[]
 |0=>rfl
 |_+1=>rfl
theorem aah:∀d,iN d []=0
 |0=>rfl
 |_+1=>rfl
def bO(ts ts':List Tk)(l:List It)(n k:Nat):Prop:=∃pre,ts=pre++ts'/\(l.map It.place).Sublist (pre.map Prod.snd)/\n<=pre.length+k
theorem bO.refl(ts:List Tk):bO ts ts [] 0 0:=⟨[],rfl,List.Sublist.refl _,dy _⟩
theorem bO.trans{a b c:List Tk}{l m:List It}{n f k d:Nat}(h:bO a b l n k)(g:bO b c m f d):bO a c (l++m) (n+f) (k+d):=by
 obtain⟨p,rfl,h2,h3⟩:=h;obtain⟨q,rfl,i,j⟩:=g;refine⟨p++q,by simp,?_,by simp;omega⟩;rw[eJ,eJ];exact h2.append i
theorem bO.less{a b:List Tk}{l:List It}{n c k d:Nat}(h:bO a b l n k)(f:c+k<=n+d):bO a b l c d:=by
 obtain⟨p,e,h2,h3⟩:=h;exact⟨p,e,h2,by omega⟩
theorem Nt{ts:List Tk}(h:hd ts≠aW):ts=(hd ts,pl ts)::ts.tail:=by
 cases ts with
 |nil=>exact absurd rfl h
 |cons t ts=>rfl
theorem bO.pass{ts:List Tk}(h:hd ts≠aW):bO ts ts.tail [] 1 0:=⟨[(hd ts,pl ts)],Nt h,List.nil_sublist _,dy _⟩
theorem bO.item{ts:List Tk}(h:hd ts≠aW){x:It}(a:x.place=pl ts):bO ts ts.tail [x] 1 0:=⟨[(hd ts,pl ts)],Nt h,by rw[<-a];exact List.Sublist.refl _,dy _⟩
theorem FM{b:ByteArray}(p:Int->Bool)(h:isWord p b=true):b≠aW:=by
 rintro rfl;simp[isWord,aW,ByteArray.size]at h
theorem Rf(ts:List Tk):bO ts (dJ ts).2 [] 0 0:=by
 unfold dJ
 split
 ·rename_i h;exact(bO.pass (by rw[h];decide)).less (by omega)
 ·split
  ·rename_i h;exact(bO.pass (by rw[h];decide)).less (by omega)
  ·split
   ·rename_i h;exact(bO.pass (by rw[h];decide)).less (by omega)
   ·exact bO.refl _
def FN(d:Nat)(aF:List Tk->aV (List Alt)):Prop:=∀ts l ts',aF ts=.ok (l,ts')->bO ts.tail ts' (dm d l) (iN d l) 0
theorem ahu{d:Nat}{aF:List Tk->aV (List Alt)}(c:FN d aF){ts ts':List Tk}{x:It}(h:iq aF ts=.ok (x,ts')):bO ts ts' (xC d x) (DV d x) 0:=by
 unfold iq at h
 split at h
 ·rename_i g
  split at h
  ·cases h
  ·rename_i alts b f
   cases h;have h1:=(bO.item (ts:=ts) (by rw[g];decide) (x:=⟨2,aW,(dJ b).1,alts,pl ts⟩) rfl).trans ((c _ _ _ f).trans (Rf b));rw[eV]at h1;exact h1
 ·split at h
  ·rename_i a
   cases h;have h1:=(bO.item (ts:=ts) (FM _ a) (x:=⟨0,hd ts,(dJ ts.tail).1,[],pl ts⟩) rfl).trans (Rf ts.tail);rw[eV]at h1;simpa [xC,DV,MX,aah]using h1
  ·split at h
   ·rename_i a
    cases h;have h1:=(bO.item (ts:=ts) (FM _ a) (x:=⟨1,hd ts,(dJ ts.tail).1,[],pl ts⟩) rfl).trans (Rf ts.tail);rw[eV]at h1;simpa [xC,DV,MX,aah]using h1
   ·cases h
theorem YC{d:Nat}{aF:List Tk->aV (List Alt)}(b:FN d aF):∀(f:Nat)(ts:List Tk)(a x:List It)(ts':List Tk),jr aF f ts a=.ok (x,ts')->∃y,x=a++y/\bO ts ts' (qY d y) (tF d y) 0
 |0,ts,a,x,ts',h=>by
  cases h;exact⟨[],by simp,bO.refl _⟩
 |f+1,ts,a,x,ts',h=>by
  unfold jr at h
  split at h
  ·split at h
   ·cases h
   ·rename_i z c g
    obtain⟨y,e,h2⟩:=YC b f c _ x ts' h;refine⟨z::y,by rw[e];simp,?_⟩;exact(ahu b g).trans h2
  ·cases h
   exact⟨[],by simp,bO.refl _⟩
theorem aai{d:Nat}{aF:List Tk->aV (List Alt)}(j:FN d aF){a:Bool}{ts ts':List Tk}{x:Alt}(h:iG aF a ts=.ok (x,ts')):bO ts ts' (qY d x.1) (1+tF d x.1) 1:=by
 unfold iG at h
 split at h
 ·cases h
 ·rename_i its k f
  obtain⟨y,e,h2⟩:=YC j _ _ _ _ _ f;rw[g8]at e;subst e;unfold qB at h
  split at h
  ·rename_i g
   split at h
   ·cases h
   ·rename_i b l c
    cases h;obtain⟨rfl,rfl,i⟩:=oO c;have h3:=h2.trans ((bO.pass (ts:=k) (by rw[g.2];decide)).trans (bO.pass (FM _ i)));simp only[List.append_nil]at h3;refine bO.less h3 ?_;show 1+tF d its+_<=_;omega
  ·cases h
   refine bO.less h2 ?_;show 1+tF d its+_<=_;omega
theorem Zk{d:Nat}{aF:List Tk->aV (List Alt)}(c:FN d aF){b:Bool}:∀(f:Nat)(ts:List Tk)(a x:List Alt)(ts':List Tk),l9 aF b f ts a=.ok (x,ts')->∃y,x=a++y/\bO ts ts' (dm (d+1) y) (iN (d+1) y) 0
 |0,ts,a,x,ts',h=>by
  cases h;exact⟨[],by simp,bO.refl _⟩
 |f+1,ts,a,x,ts',h=>by
  unfold l9 at h
  split at h
  ·rename_i g
   split at h
   ·cases h
   ·rename_i z j i
    obtain⟨y,e,h2⟩:=Zk c f j _ x ts' h;refine⟨z::y,by rw[e];simp,?_⟩;have h3:=(bO.pass (ts:=ts) (by rw[g];decide)).trans ((aai c i).trans h2);rw[g8]at h3;rw[wM,Du,eh,j7,m7,<-wM,<-Du];exact h3.less (by omega)
  ·cases h
   exact⟨[],by simp,bO.refl _⟩
theorem Yb{d:Nat}{aF:List Tk->aV (List Alt)}(b:FN d aF){a:Bool}{ts ts':List Tk}{x:List Alt}(h:qx aF a ts=.ok (x,ts')):bO ts ts' (dm (d+1) x) (iN (d+1) x) 1:=by
 unfold qx at h
 split at h
 ·cases h
 ·rename_i z f c
  obtain⟨y,e,h2⟩:=Zk b _ _ _ _ _ h;subst e;have h3:=(aai b c).trans h2;rw[gx,g8,wM,Du,eh,j7,m7,<-wM,<-Du];exact h3.less (by omega)
theorem agB{d:Nat}{r:List Tk->aV (List Alt)}(a:∀ts l ts',r ts=.ok (l,ts')->bO ts ts' (dm d l) (iN d l) 1):FN d (qz r):=by
 intro ts l ts' h;unfold qz at h
 split at h
 ·cases h
 ·rename_i g c h1
  split at h
  ·cases h
  ·rename_i u f h2
   cases h;obtain⟨rfl,b⟩:=yK h2;have h3:=(a _ _ _ h1).trans (bO.pass (ts:=c) (by rw[b];decide));rw[eV]at h3;exact h3.less (by omega)
theorem Zl:∀(d:Nat)(ts:List Tk)(l:List Alt)(ts':List Tk),nJ d ts=.ok (l,ts')->bO ts ts' (dm (d+1) l) (iN (d+1) l) 1
 |0,ts,l,ts',h=>Yb (d:=0) (fun _ _ _ h=>by cases h) h
 |d+1,ts,l,ts',h=>Yb (agB (Zl d)) h
theorem Zm{ts ts':List Tk}{x:Rl}(h:iw ts=.ok (x,ts')):bO ts ts' (dm 9 x.alts) (1+iN 9 x.alts) 0:=by
 unfold iw at h
 split at h
 ·cases h
 ·rename_i n g h1
  obtain⟨rfl,rfl,c⟩:=oO h1
  split at h
  ·cases h
  ·rename_i u j h2
   obtain⟨rfl,d⟩:=yK h2
   split at h
   ·cases h
   ·rename_i l b h3
    split at h
    ·cases h
    ·rename_i k i h4
     obtain⟨rfl,f⟩:=yK h4;cases h;have a:=(bO.pass (ts:=ts) (FM _ c)).trans ((bO.pass (ts:=ts.tail) (by rw[d];decide)).trans ((Zl 8 _ _ _ h3).trans (bO.pass (ts:=b) (by rw[f];decide))));rw[eV,g8,g8]at a;refine bO.less a ?_;show 1+iN 9 l+_<=1+(1+(iN 9 l+1))+_;omega
def JQ(rs:List Rl):List It:=rs.flatMap fun r=>dm 9 r.alts
def xg(rs:List Rl):Nat:=(rs.map fun r=>1+iN 9 r.alts).sum
theorem QO:∀(f:Nat)(ts:List Tk)(a x:List Rl)(ts':List Tk),jv f ts a=.ok (x,ts')->∃y,x=a++y/\bO ts ts' (JQ y) (xg y) 0
 |0,ts,a,x,ts',h=>by
  cases h;exact⟨[],by simp,bO.refl _⟩
 |f+1,ts,a,x,ts',h=>by
  unfold jv at h
  split at h
  ·cases h
   exact⟨[],by simp,bO.refl _⟩
  ·split at h
   ·cases h
   ·rename_i z b c
    obtain⟨y,e,h2⟩:=QO f b _ x ts' h;exact⟨z::y,by rw[e];simp,(Zm c).trans h2⟩
theorem Yc:∀(f:Nat)(ts a x:List Tk)(ts':List Tk),jG f ts a=.ok (x,ts')->∃pre,ts=pre++ts'/\x.length<=a.length+pre.length
 |0,ts,a,x,ts',h=>by cases h;exact⟨[],rfl,dy _⟩
 |f+1,ts,a,x,ts',h=>by
  unfold jG at h
  split at h
  ·rename_i d
   cases h;exact⟨[(hd ts,pl ts)],Nt (by rw[d];decide),by simp⟩
  ·split at h
   ·cases h
   ·rename_i b g h1
    obtain⟨rfl,rfl,c⟩:=oO h1;obtain⟨pre,e,h2⟩:=Yc f _ _ _ _ h;refine⟨(hd ts,pl ts)::pre,?_,by simp at h2|-;omega⟩;rw[gx,<-e];exact Nt (FM _ c)
def BQ(ls:List Lv):Nat:=(ls.map fun l=>1+l.tokens.length).sum
theorem QK{b:ByteArray}(h:0<=iL b):b≠aW:=by
 rintro rfl;exact absurd h (by decide)
theorem Yd:∀(f:Nat)(ts:List Tk)(a x:List Lv)(ts':List Tk),jO f ts a=.ok (x,ts')->∃y,x=a++y/\bO ts ts' [] (BQ y) 0
 |0,ts,a,x,ts',h=>by
  cases h;exact⟨[],by simp,bO.refl _⟩
 |f+1,ts,a,x,ts',h=>by
  unfold jO at h
  split at h
  ·rename_i i
   split at h
   ·cases h
   ·rename_i z g c
    obtain⟨y,e,h2⟩:=Yd f g _ x ts' h;refine⟨z::y,by rw[e];simp,?_⟩;unfold jY at c
    split at c
    ·cases c
    ·rename_i b q k
     obtain⟨rfl,rfl,n⟩:=oO k
     split at c
     ·cases c
     ·rename_i l p h3
      cases c;obtain⟨d,j,h4⟩:=Yc _ _ _ _ _ h3;have m:bO ts.tail.tail g [] d.length 0:=⟨d,j,List.nil_sublist _,dy _⟩;have o:=(bO.pass (ts:=ts) (QK i)).trans ((bO.pass (ts:=ts.tail) (FM _ n)).trans (m.trans h2));refine bO.less o ?_;simp only[BQ,List.map_cons,List.sum_cons,List.length_cons,List.length_nil]at h4|-;omega
  ·cases h
   exact⟨[],by simp,bO.refl _⟩
theorem afz{ts ts':List Tk}{g:Gr}(h:iZ ts=.ok (g,ts')):bO ts ts' (JQ g.rules) (BQ g.levels+xg g.rules) 0:=by
 unfold iZ at h
 split at h
 ·cases h
 ·rename_i f j h1
  split at h
  ·cases h
  ·rename_i x i h2
   split at h
   ·cases h
   ·rename_i l d h3
    cases h;obtain⟨y,e,c⟩:=Yd _ _ _ _ _ h1;obtain⟨z,b,a⟩:=QO _ _ _ _ _ h3;rw[g8]at e;subst e b;exact c.trans ((Zm h2).trans a)
theorem Zn(s:ByteArray):∀(f i:Nat),i<=s.size->(∀t∈mK s f i,i<=t.2)/\(mK s f i).Pairwise fun a b=>a.2<b.2
 |0,i,hi=>by
  unfold mK;exact⟨fun t c=>by simp at c;subst c;exact dy _,mC _ _⟩
 |f+1,i,hi=>by
  unfold mK
  split
  ·rename_i d
   have g:=MC d;obtain⟨h1,h2⟩:=Zn s f (tq s i) g.2;refine⟨fun t c=>?_,mr.2 ⟨fun t c=>?_,h2⟩⟩
   ·rcases eC.1 c with rfl | c
    ·exact dy _
    ·have:=h1 t c;omega
   ·have:=h1 t c
    show i<t.2;omega
  ·exact⟨fun t c=>by simp at c;subst c;exact dy _,mC _ _⟩
theorem ajX(s:ByteArray):(lex s).Pairwise fun a b=>a.2<b.2:=(Zn s _ _ (MB false (ff _)).2).2
theorem Rh{s:ByteArray}{g:Gr}(h:parse s=.ok g):BQ g.levels+xg g.rules<=2001/\((JQ g.rules).map It.place).Pairwise (·< ·):=by
 unfold parse at h
 split at h
 ·cases h
 ·rename_i j
  split at h
  ·cases h
  ·rename_i k b d
   cases h;obtain⟨a,e,h1,h2⟩:=afz d;have f:=ME s (iT s 0 false);have c:=ajX s;have i:yV s (iT s 0 false)=a++b:=e;rw[i,cH]at f;rw[e]at c;refine⟨by omega,?_⟩;have h3:(a.map Prod.snd).Pairwise (·< ·):=pC.2 (pj.1 c).1;exact h3.sublist h1
def hlp(x:It):Bool:=decide (x.kind=2) || decide (x.mark≠0)
def bC(d:Nat)(l:List Alt):List It:=(dm d l).filter hlp
theorem Iz{α β:Type}(p:β->Bool)(f:α->List β):∀l:List α,(l.flatMap f).filter p=l.flatMap fun a=>(f a).filter p
 | []=>rfl
 |a::l=>by rw[eh,ki,Iz p f l,eh]
theorem Sc:∀(d:Nat)(l:List Alt),(dm d l).length<=iN d l
 |0,_=>dy _
 |d+1,l=>by
  rw[wM,Du,qk];have h1:∀its:List It,(qY d its).length<=tF d its:=by
   intro its;unfold qY tF;rw[qk]
   induction its with
   |nil=>exact dy _
   |cons x its ih=>
    rw[j7,j7,m7,m7];have:=Sc d x.alts;simp only[xC,DV,List.length_cons]at *;omega
  induction l with
  |nil=>exact dy _
  |cons a l ih=>
   rw[j7,j7,m7,m7];have:=h1 a.1;omega
theorem abe(d:Nat)(l:List Alt):(bC d l).length<=iN d l:=de (rI _ _) (Sc d l)
def tH(d:Nat)(l:List Alt):List ByteArray:=((dm d l).filter fun x=>decide (x.kind=1)).map It.name
def TW(d:Nat)(x:It):List ByteArray:=(if x.kind=1 then [x.name] else [])++tH d x.alts
theorem ahv(d:Nat)(l:List Alt):tH (d+1) l=l.flatMap fun a=>a.1.flatMap (TW d):=by
 unfold tH;rw[wM,Iz,tD];congr 1;funext a;unfold qY;rw[Iz,tD];congr 1;funext x;unfold xC TW tH;rw[mL]
 by_cases h:x.kind=1
 ·simp[h]
 ·simp[h]
theorem aiH(d:Nat)(l:List Alt):(tH d l).length<=iN d l:=by
 unfold tH;rw[dk];exact de (rI _ _) (Sc d l)
def jX:ByteArray:=⟨#[36]⟩
def NT:ByteArray:=⟨#[36,115,116,97,114,116]⟩
def TY:ByteArray:=⟨#[39]⟩
def jJ(l:List ByteArray)(b:ByteArray):List ByteArray:=if 0<=bZ l b then l else l++[b]
theorem ahw(l:List ByteArray)(b:ByteArray):(jJ l b).length<=l.length+1:=by
 unfold jJ;split
 ·omega
 ·simp
def fZ(l bs:List ByteArray):List ByteArray:=bs.foldl jJ l
theorem YD:∀(bs l:List ByteArray),(fZ l bs).length<=l.length+bs.length
 | [],l=>dy _
 |b::bs,l=>by
  have h1:=YD bs (jJ l b);have h2:=ahw l b;rw[ev];have:fZ l (b::bs)=fZ (jJ l b) bs:=rfl;rw[this];omega
theorem YE(l a b:List ByteArray):fZ l (a++b)=fZ (fZ l a) b:=rj
def Gf(n:Nat):ByteArray:=⟨(Lib.decDigits n).toArray⟩
def hName(b:ByteArray)(k:Nat):ByteArray:=b++TY++Gf k
def jQ(r:Rl):List ByteArray:=r.name::(List.range (bC 9 r.alts).length).map fun k=>hName r.name (k+1)
def ay(g:Gr):List ByteArray:=fZ [jX] (lM g++g.rules.flatMap fun r=>tH 9 r.alts)
def aS(g:Gr):List ByteArray:=NT::g.rules.flatMap jQ
structure Pd where
 left:Nat
 right:List Nat
 prec:Int
def o9(n:Nat)(r:List Nat):Int:=r.foldl (fun p s=>if s<n then (s:Int) else p) (-1)
def bS(n s:Nat)(r:List Nat):Pd:=⟨s,r,o9 n r⟩
def xD(T N:List ByteArray)(x:It):Nat:=if x.kind=1 then fix T x.name else T.length+fix N x.name
def Aj(H:List It)(p:Nat):Nat:=H.findIdx fun x=>decide (x.place=p)
def yY(T N:List ByteArray)(b:Nat)(H:List It)(x:It):Nat:=if hlp x=true then b+1+Aj H x.place else xD T N x
def nD(T N:List ByteArray)(b:Nat)(H:List It)(its:List It):List Nat:=its.map (yY T N b H)
def rY(T N:List ByteArray)(b:Nat)(H:List It)(a:Alt):Pd:=⟨b,nD T N b H a.1,if a.2.1=aW then o9 T.length (nD T N b H a.1) else (fix T a.2.1:Int)⟩
def partsOf(T N:List ByteArray)(b:Nat)(H:List It)(x:It):List (List Nat):=if x.kind=2 then x.alts.map fun a=>nD T N b H a.1 else [[xD T N x]]
def ou(n s m:Nat)(ps:List (List Nat)):List Pd:=(if m=42\/m=63 then [bS n s []] else [])++((if m=42 then [] else ps.map (bS n s))++(if m=42\/m=43 then ps.map fun r=>bS n s (s::r) else []))
def oV(T N:List ByteArray)(b:Nat)(H:List It):Nat->List It->List Pd
 |_,[]=>[]
 |k,x::l=>ou T.length (b+1+k) x.mark (partsOf T N b H x)++oV T N b H (k+1) l
def tu(T N:List ByteArray)(b:Nat)(r:Rl):List Pd:=r.alts.map (rY T N b (bC 9 r.alts))++oV T N b (bC 9 r.alts) 0 (bC 9 r.alts)
def jP(T N:List ByteArray):Nat->List Rl->List Pd
 |_,[]=>[]
 |b,r::rs=>tu T N b r++jP T N (b+1+(bC 9 r.alts).length) rs
def aJ(g:Gr):List Pd:=⟨(ay g).length,[(ay g).length+1],-1⟩::jP (ay g) (aS g) ((ay g).length+1) g.rules
def bk(t:ByteArray):Nat->List Lv->Nat×Nat->Nat×Nat
 |_,[],r=>r
 |i,l::ls,r=>bk t (i+1) ls (if 0<=bZ (l.tokens.map Prod.fst) t then (i+1,l.kind) else r)
def qZ(g:Gr)(t:ByteArray):Nat×Nat:=bk t 0 g.levels (0,0)
end Lx
structure uU(P:Program)(kt:TypeId){κ:Type}(K:κ->Value)(G:World->κ->Prop):Prop where
 inj:∀a b,K a=K b->a=b
 check:∀em w a,(Instr.checkKey em 10000 kt (K a)).run P w=.ok () w
 find:∀w a l,G w a->(∀x∈l,∃c,x.key=K c/\G w c)->((Instr.findKey kt (K a) l).run P w=.ok none w/\∀(x:MapEntry),x∈l->x.key≠K a)\/∃(j:Nat)(e:MapEntry),(Instr.findKey kt (K a) l).run P w=.ok (some (j,e.val)) w/\l[j]?=some e/\e.key=K a
 stays:∀w a,(Instr.keyThatStays (K a) (K a)).run P w=.ok (K a) w
def dF{κ:Type}(K:κ->Value)(G:κ->Prop)(w:World)(B:Nat)(f:κ->Int):Prop :=
 ∃es clock,w.heap[B]?=some (.map es clock)/\(∀(i:Nat)(e:MapEntry),es[i]?=some e->∃a,e.key=K a/\G a/\e.val=.int .i64 (f a))/\(∀(i j:Nat)(e e':MapEntry),es[i]?=some e->es[j]?=some e'->e.key=e'.key->i=j)/\(∀a,f a≠0->∃(i:Nat)(e:MapEntry),es[i]?=some e/\e.key=K a)
section
variable{P:Program}{kt:TypeId}{κ:Type}{K:κ -> Value}{Gw:World -> κ -> Prop}{w:World}{B:Nat}{f:κ -> Int}
theorem dF.lt{G:κ->Prop}(h:dF K G w B f):B<w.heap.size:=by
 obtain⟨b,a,h1,-⟩:=h;exact(ek.1 h1).1
theorem dF.move{G:κ->Prop}{w':World}(h:dF K G w B f)(b:w'.heap[B]?=w.heap[B]?):dF K G w' B f:=by
 obtain⟨c,a,h1,h2⟩:=h;exact⟨c,a,b.trans h1,h2⟩
theorem dF.made(G:κ->Prop)(w:World):dF K G (w.alloc (.map #[] 0)) w.heap.size (fun _=>0) :=
 ⟨#[],0,ot w _,fun i e h=>by simp at h,fun i j e b h=>by simp at h,fun a h=>absurd rfl h⟩
theorem dF.look(d:uU P kt K Gw){T E:TypeId}(r:P.underlying T=some (.map kt E))(v:∀w,(zeroValue E).run P w=.ok (.int .i64 0) w){G:κ->Prop}(p:∀a,G a->Gw w a)(h:dF K G w B f){a:κ}(u:G a):(Instr.lookup T (.map (some B)) (K a) false).run P w=.ok (.int .i64 (f a)) w:=by
 obtain⟨q,n,h1,h2,h3,h4⟩:=h;have z:∀x∈q.toList,∃c,x.key=K c/\Gw w c:=by
  intro x D;obtain⟨i,g⟩:=eS.1 D;obtain⟨c,k,y,-⟩:=h2 i x (by rw[<-gh];exact g);exact⟨c,k,p _ y⟩
 rcases d.find w a q.toList (p a u) z with ⟨b,F⟩|⟨j,e,b,t,s⟩
 ·have m:f a=0:=by
   apply kj;intro o;obtain⟨i,e,g,A⟩:=h4 a o;exact F e (eS.2 ⟨i,by rw[gh];exact g⟩) A
  rw[m];simp[Instr.lookup,run_underlying r,MapKept.run_getObj_map h1,d.check,b,v,Result.andThen]
 ·obtain⟨c,k,-,C⟩:=h2 j e (by rw[<-gh];exact t)
  have l:c=a:=d.inj _ _ (k.symm.trans s);subst l;rw[C]at b;simp[Instr.lookup,run_underlying r,MapKept.run_getObj_map h1,d.check,b,Result.andThen]
theorem dF.put[DecidableEq κ](hK:uU P kt K Gw){T E:TypeId}(hT:P.underlying T=some (.map kt E)){G:κ->Prop}(hG:∀a,G a->Gw w a)(h:dF K G w B f){a:κ}(ha:G a)(v:Int):∃w',(Instr.mapUpdate T (.map (some B)) (K a) (.int .i64 v)).run P w=.ok () w'/\dF K G w' B (fun c=>if c=a then v else f c)/\w.grownBy w' (some B)/\w'.heap.size=w.heap.size:=by
 obtain⟨q,d,h1,h2,h3,h4⟩:=h;have Q:∀x∈q.toList,∃c,x.key=K c/\Gw w c:=by
  intro x U;obtain⟨i,b⟩:=eS.1 U;obtain⟨c,n,A,-⟩:=h2 i x (by rw[<-gh];exact b);exact⟨c,n,hG _ A⟩
 have s:∀o:Obj,w.grownBy { w with heap:=w.heap.setIfInBounds B o } (some B):=fun o=>⟨rfl,rfl,rfl,by simp,fun k _ z=>(po h1).2 k (fun e=>z (by rw[e]))⟩
 rcases hK.find w a q.toList (hG a ha) Q with ⟨I,F⟩|⟨j,e,I,N,z⟩
 ·refine⟨{ w with heap:=w.heap.setIfInBounds B (.map (q.push { key:=K a,val:=.int .i64 v,born:=d }) (d+1)) },?_,⟨q.push { key:=K a,val:=.int .i64 v,born:=d },d+1,(po h1).1,?_,?_,?_⟩,s _,by simp⟩
  ·simp[Instr.mapUpdate,run_underlying hT,MapKept.run_getObj_map h1,hK.check,I,MapKept.run_setObj_map _ h1,Result.andThen]
  ·intro i e b
   rw[pk]at b
   split at b
   ·cases b;exact⟨a,rfl,ha,by simp⟩
   ·obtain⟨c,n,A,D⟩:=h2 i e b
    have u:c≠a:=fun t=>F e (eS.2 ⟨i,by rw[gh];exact b⟩) (by rw[n,t])
    exact⟨c,n,A,by simp only[if_neg u];exact D⟩
  ·intro i C e t b m p
   rw[pk]at b m
   split at b <;> split at m
   ·omega
   ·cases b
    exact absurd p.symm (F t (eS.2 ⟨C,by rw[gh];exact m⟩))
   ·cases m
    exact absurd p (F e (eS.2 ⟨i,by rw[gh];exact b⟩))
   ·exact h3 i C e t b m p
  ·intro c n
   by_cases hca:c=a
   ·subst hca
    exact⟨q.size,_,by rw[pk,dj rfl],rfl⟩
   ·simp only[if_neg hca]at n
    obtain⟨i,e,b,p⟩:=h4 c n;refine⟨i,e,?_,p⟩;have S:=(ek.1 b).1;rw[pk,dt (by omega)];exact b
 ·have g:q[j]?=some e:=by rw[<-gh];exact N
  refine⟨{ w with heap:=w.heap.setIfInBounds B (.map (q.modify j fun e=>{ e with key:=K a,val:=.int .i64 v }) d) },?_,⟨q.modify j fun e=>{ e with key:=K a,val:=.int .i64 v },d,(po h1).1,?_,?_,?_⟩,s _,by simp⟩
  ·simp[Instr.mapUpdate,run_underlying hT,MapKept.run_getObj_map h1,hK.check,I,g,z,hK.stays,MapKept.run_setObj_map _ h1,Result.andThen]
  ·intro i x b
   rw[n8]at b
   split at b
   ·rename_i l
    subst l;rw[g]at b;cases b;exact⟨a,rfl,ha,by simp⟩
   ·rename_i l
    obtain⟨c,n,A,D⟩:=h2 i x b;have u:c≠a:=fun t=>l (h3 j i e x g b (by rw[z,n,t]))
    exact⟨c,n,A,by simp only[if_neg u];exact D⟩
  ·intro i C x O b m p
   have r:∀(i:Nat)(x:MapEntry),(q.modify j fun e=>{ e with key:=K a,val:=.int .i64 v })[i]?=some x->∃y,q[i]?=some y/\y.key=x.key:=by
    intro i x b;rw[n8]at b
    split at b
    ·rename_i l
     subst l;rw[g]at b;cases b;exact⟨e,g,z⟩
    ·exact⟨x,b,rfl⟩
   obtain⟨y,M,L⟩:=r i x b;obtain⟨R,J,H⟩:=r C O m;exact h3 i C y R M J (by rw[L,H,p])
  ·intro c n
   by_cases hca:c=a
   ·subst hca
    exact⟨j,_,by rw[n8,dj rfl,g];rfl,rfl⟩
   ·simp only[if_neg hca]at n
    obtain⟨i,x,b,p⟩:=h4 c n;refine⟨i,x,?_,p⟩;have l:j≠i:=fun t=>hca (hK.inj _ _ (by rw[<-p,<-z];subst t;rw[g]at b;cases b;rfl))
    rw[n8,dt l];exact b
end
theorem alA{P:Program}{i:TypeId}(g:P.underlying i=some .string):uU P i Value.string (fun _ _=>True) where
 inj a b h:=by cases h;rfl
 check em w a:=MapKept.run_checkKey (d:=.string) (k:=.string a) g trivial em 9999
 find w a l _ hl:=by
  have f:∀x∈l,MapKept.IsKey .string x.key:=fun x n=>by obtain⟨c,m,-⟩:=hl x n;rw[m];trivial
  rcases MapKept.findNow_spec (d:=.string) (k:=.string a) trivial l 0 f with ⟨h1,h2⟩|⟨j,e,h1,h2,h3⟩
  ·exact .inl ⟨MapKept.run_findKey g h1,h2⟩
  ·rw[fk]at h1
   exact .inr ⟨j,e,MapKept.run_findKey g h1,h2,h3⟩
 stays w a:=MapKept.run_keyThatStays (d:=.string) (k:=.string a) trivial
def SMap(w:World)(B:Nat)(f:ByteArray->Int):Prop:=dF Value.string (fun _=>True) w B f
theorem Tryz.Ce:uU prog 9 Value.string (fun _ _=>True):=alA (by kernel_rfl)
theorem Tryz.Jr:prog.underlying 155=some (.map 9 3):=by kernel_rfl
theorem Tryz.F5(w:World):(zeroValue 3).run prog w=.ok (.int .i64 0) w:=by kernel_rfl
theorem SMap.look{w:World}{B:Nat}{f:ByteArray->Int}(h:SMap w B f)(b:ByteArray):(Instr.lookup 155 (.map (some B)) (.string b) false).run prog w=.ok (.int .i64 (f b)) w:=dF.look Tryz.Ce Tryz.Jr Tryz.F5 (fun _ _=>trivial) h trivial
theorem SMap.put{w:World}{B:Nat}{f:ByteArray->Int}(h:SMap w B f)(b:ByteArray)(v:Int):∃w',(Instr.mapUpdate 155 (.map (some B)) (.string b) (.int .i64 v)).run prog w=.ok () w'/\SMap w' B (fun c=>if c=b then v else f c)/\w.grownBy w' (some B)/\w'.heap.size=w.heap.size:=dF.put Tryz.Ce Tryz.Jr (fun _ _=>trivial) h trivial v
def ug(x:Lx.Wd):List Value:=[.int .i64 (x.1:Int),.string x.2.1,.int .i64 (x.2.2:Int)]
def WR(w:World)(v:Value)(ws:List Lx.Wd):Prop:=w.ownsRow 0 190 3 v ws.length (ws.flatMap ug)
theorem WR.len{w:World}{v:Value}{ws:List Lx.Wd}(h:WR w v ws):∃a c,v=.slice a ws.length c/\ws.length<=maxLen:=aC h
theorem ac8:∀(ws:List Lx.Wd)(j i:Nat)(x:Lx.Wd),ws[j]?=some x->i<3->(ws.flatMap ug)[j*3+i]?=(ug x)[i]?
 | [],_,_,_,h,_=>by simp at h
 |p::ps,0,i,x,h,hi=>by
  simp at h;subst h;rw[eh,pZ,fk,eL (by simp[ug];exact hi)]
 |p::ps,j+1,i,x,h,hi=>by
  have a:ps[j]?=some x:=by simpa using h
  rw[eh,eN (by simp[ug,Nat.succ_mul];omega),show (ug p).length=3 from rfl,show (j+1)*3+i-3=j*3+i by omega];exact ac8 ps j i x a hi
theorem WR.at{w:World}{v:Value}{ws:List Lx.Wd}(h:WR w v ws){j:Nat}(c:j<ws.length):∃g cap,v=.slice (some ⟨g,0,none⟩) ws.length cap/\g<w.heap.size/\w.cell? ⟨g,j*3,none⟩=some (.int .i64 (ws[j].1:Int))/\w.cell? ⟨g,j*3+1,none⟩=some (.string ws[j].2.1)/\w.cell? ⟨g,j*3+2,none⟩=some (.int .i64 (ws[j].2.2:Int)):=by
 unfold WR at h;obtain⟨g,cap,rfl,-,-⟩:=h.form (by omega);have d:ws[j]?=some ws[j]:=cF c;have a:∀i,i<3->w.cell? ⟨g,j*3+i,none⟩=(ug ws[j])[i]?:=fun i b=>by
  rw[h.cellAt (j*3+i) (by omega),ac8 ws j i _ d b]
 exact⟨g,cap,rfl,(h.lt g rfl).2,a 0 (by decide),a 1 (by decide),a 2 (by decide)⟩
theorem WR.move{w w':World}{v:Value}{ws:List Lx.Wd}(h:WR w v ws)(a:∀g,v.ownBlock=some g->w'.heap[g]?=w.heap[g]?):WR w' v ws:=aD h a
theorem WR.below{w w':World}{v:Value}{ws:List Lx.Wd}(h:WR w v ws)(a:Below w.heap.size w w'):WR w' v ws:=aD h fun g b=>a.block g (h.lt g b).2
def xU:Option Nat->Int
 |none=>-1
 |some p=>p
namespace Lx
def BS(s:List ByteArray)(b:ByteArray):Int:=if iH b s=true then 1 else 0
theorem Ye{x:Wd}{ws:List Wd}(h:¬(x.1=0\/x.1=1)):told (x::ws)=told ws:=by unfold told;rw[mL,dt (by simpa using h)]
theorem aaj{x:Wd}{ws:List Wd}(h:x.1=0\/x.1=1):told (x::ws)=x::told ws:=by unfold told;rw[mL,dj (by simpa using h)]
theorem aiI(s:List ByteArray)(b:ByteArray):(fun c=>if c=b then (1:Int) else BS s c)=BS (b::s):=by
 funext c;unfold BS iH
 by_cases h:c=b
 ·subst h;simp
 ·rw[dt h]
  have:decide (b=c)=false:=by simpa using fun e=>h e.symm
  rw[List.any_cons,this,ye]
end Lx
theorem ahx{w:World}{v:Value}{ws:List Lx.Wd}(h:WR w v ws):
  Calls prog 76 #[v] w fun e w'=>e=.returned (.int .i64 (xU (ja [] (Lx.told ws))))/\Below w.heap.size w w':=by
 obtain⟨a,c,rfl,Y⟩:=h.len;unfold maxLen at Y;have P:=@sr prog;go_enter func76,ntmps76;go_wp2_with fail;clear P;obtain⟨W,H⟩:∃W,W=w.alloc (.map #[] 0):=⟨_,rfl⟩;rw[<-H];have X:W.heap.size=w.heap.size+1:=by rw[H];simp
 have hB:Below w.heap.size w W:=by rw[H];exact(cV _ _).alloc (dy _) _
 have D:SMap W w.heap.size (BS []):=by rw[H];exact dF.made _ w
 clear H;have R:Hid (ja [] (Lx.told ws)=ja [] (Lx.told (ws.drop 0))):=rfl
 go_loopg [9] ws.length (fun k i wr=>∃(j:Nat)(s:List ByteArray),j+k=ws.length/\i=.int .i64 j/\Below w.heap.size w wr/\SMap wr w.heap.size (BS s)/\Hid (ja [] (Lx.told ws)=ja s (Lx.told (ws.drop j))))
 case atStart=>exact⟨0,[],by omega,rfl,hB,D,R⟩
 case round=>
  clear R D;obtain⟨j,s,I,rfl,A,D,E⟩:=hrel;have L:=D.lt
  by_cases hlt:j<ws.length
  ·have N:WR wr _ ws:=h.below A
   obtain⟨g,ac,V,lg,S,c1,c2⟩:=N.at hlt;cases V;have hd:=E.out;rw[eR hlt]at hd;have U:g<w.heap.size:=(h.lt g rfl).2;generalize ws[j]=x at S c1 c2 hd;obtain⟨l,n,q⟩:=x;obtain⟨z,d⟩:∃z,z=wr.alloc (.cells #[.int .i64 (l:Int),.string n,.int .i64 (q:Int)] 190):=⟨_,rfl⟩;have r:Below wr.heap.size wr z:=by rw[d];exact(cV _ _).alloc (dy _) _
   have F:z.heap.size=wr.heap.size+1:=by rw[d];simp
   have Q:aj z wr.heap.size #[.int .i64 (l:Int),.string n,.int .i64 (q:Int)] 190:=by rw[d];exact aj.new wr _ 190
   have p:SMap z w.heap.size (BS s):=D.move (r.block _ L);have K:Below w.heap.size w z:=A.trans (r.mono (by omega))
   by_cases b:l=0\/l=1
   ·rw[aaj b,ja]at hd
    have u:=p.look n;have y:∀{w2:World},z.grownBy w2 (some w.heap.size)->aj w2 wr.heap.size #[.int .i64 (l:Int),.string n,.int .i64 (q:Int)] 190:=fun T=>Q.grown T (fun e=>by have:=ie e;omega)
    cases hmb:iH n s with
    |true=>
     rw[dj hmb]at hd;have f:Hid (ja [] (Lx.told ws)=some q):=hd;rw[show BS s n=1 from dj hmb]at u;obtain⟨w2,M,o,m,O⟩:=p.put n 2;have B:=o.look n;rw[dj rfl]at B;have J:=y m;have Z:w2.cell? ⟨wr.heap.size,1,none⟩=some (.string n):=J.cell 1;have x2:w2.cell? ⟨wr.heap.size,2,none⟩=some (.int .i64 (q:Int)):=J.cell 2;have C:Below w.heap.size w w2:=K.grown m (by omega) (fun k I=>by cases I;exact dy _);rw[d]at u M;clear hd E hmb p o D y Q r F d m;rcases b with b|b
     have t:((l:Int) != 0)=false:=by simp[b]
     clear b
     rotate_left
     have t:((l:Int) != 0)=true:=lh.2 (by omega);have G:((l:Int) != 1)=false:=by simp[b]
     clear b
     all_goals
      go_wp2_with fail;go_ret;exact⟨by rw[f.out];rfl,C⟩
    |false=>
     rw[dt (by rw[hmb];decide)]at hd;have f:Hid (ja [] (Lx.told ws)=ja (n::s) (Lx.told (ws.drop (j+1)))):=hd;rw[show BS s n=0 from dt (by rw[hmb];decide)]at u;obtain⟨w2,M,o,m,O⟩:=p.put n 1;have B:=o.look n;rw[dj rfl]at B;rw[aiI]at o;have J:=y m;have Z:w2.cell? ⟨wr.heap.size,1,none⟩=some (.string n):=J.cell 1;have C:Below w.heap.size w w2:=K.grown m (by omega) (fun k I=>by cases I;exact dy _);rw[d]at u M;clear hd E hmb p D y Q r F d m;rcases b with b|b
     have t:((l:Int) != 0)=false:=by simp[b]
     clear b
     rotate_left
     have t:((l:Int) != 0)=true:=lh.2 (by omega);have G:((l:Int) != 1)=false:=by simp[b]
     clear b
     all_goals
      go_wp2_with fail;go_roundg (ws.length - (j+1))
      case measure=>omega
      case rel=>exact⟨j+1,n::s,by omega,by go_num,C,o,f⟩
   ·rw[Ye b]at hd
    have f:Hid _:=hd;have t:((l:Int) != 0)=true:=lh.2 (by omega);have G:((l:Int) != 1)=true:=lh.2 (by omega);have ab:¬(l:Int)=0:=by omega
    have aa:¬(l:Int)=1:=by omega
    clear hd E b;go_wp2_with fail;rw[<-d];go_roundg (ws.length - (j+1))
    case measure=>omega
    case rel=>exact⟨j+1,s,by omega,by go_num,K,p,f⟩
  ·have:j=ws.length:=by omega
   subst this;have hd:=E.out;rw[io]at hd;have f:Hid (ja [] (Lx.told ws)=none):=hd;clear hd E;go_wp2_with fail;go_ret;exact⟨by rw[f.out];rfl,A⟩
namespace Lx
def Ot(l:List ByteArray)(b:ByteArray):Nat:=l.countP fun x=>decide (x=b)
def cntF(l:List ByteArray)(b:ByteArray):Int:=(Ot l b:Int)
theorem alB(l:List ByteArray)(b:ByteArray):Ot l b<=l.length:=ud
theorem ajY(l:List ByteArray)(b:ByteArray):(fun c=>if c=b then cntF l b+1 else cntF l c)=cntF (l++[b]):=by
 funext c;unfold cntF Ot;rw[uv]
 by_cases h:c=b
 ·subst h;simp
 ·have:(fun x=>decide (x=c)) b=false:=by simpa using fun e=>h e.symm
  rw[dt h];simp[this]
theorem aak{l:List ByteArray}{b:ByteArray}:cntF l b=0↔iH b l=false:=by
 unfold cntF Ot iH;rw[List.any_eq_false];constructor
 ·intro h x a
  have c:List.countP (fun x=>decide (x=b)) l=0:=by omega
  intro e;have d:0<List.countP (fun x=>decide (x=b)) l:=List.countP_pos_iff.2 ⟨x,a,e⟩;omega
 ·intro h
  have:List.countP (fun x=>decide (x=b)) l=0:=qr.2 fun x a=>h x a
  omega
theorem Yf(w:Wd)(ws:List Wd):fD (w::ws)=w.2.1::fD ws:=rfl
end Lx
theorem afZ{w:World}{v:Value}{ws:List Lx.Wd}(h:WR w v ws):
  Calls prog 77 #[v] w fun e w'=>e=.returned (.int .i64 (xU (oP (fD (Lx.told ws)) ws)))/\Below w.heap.size w w':=by
 obtain⟨a,c,rfl,hm⟩:=h.len;unfold maxLen at hm;have Q:=@sr prog;go_enter func77,ntmps77;go_wp2_with fail;clear Q;obtain⟨W,L⟩:∃W,W=w.alloc (.map #[] 0):=⟨_,rfl⟩;rw[<-L];have ad:W.heap.size=w.heap.size+1:=by rw[L];simp
 have hB:Below w.heap.size w W:=by rw[L];exact(cV _ _).alloc (dy _) _
 have z:SMap W w.heap.size (Lx.cntF []):=by rw[L];exact dF.made _ w
 clear L;have H0:Hid (fD (Lx.told ws)=[]++fD (Lx.told (ws.drop 0))):=rfl
 go_loopg [11] ws.length (fun k i wr=>∃(j:Nat)(s:List ByteArray),j+k=ws.length/\i=.int .i64 j/\Below w.heap.size w wr/\SMap wr w.heap.size (Lx.cntF s)/\s.length<=j/\Hid (fD (Lx.told ws)=s++fD (Lx.told (ws.drop j))))
 case atStart=>exact⟨0,[],by omega,rfl,hB,z,dy _,H0⟩
 case round=>
  clear H0 z;obtain⟨j,s,M,rfl,l,z,R,y⟩:=hrel;have D:=z.lt
  by_cases hlt:j<ws.length
  ·have G:WR wr _ ws:=h.below l
   obtain⟨g,U,O,lg,X,T,c2⟩:=G.at hlt;cases O;have hd:=y.out;rw[eR hlt]at hd;have N:g<w.heap.size:=(h.lt g rfl).2;generalize ws[j]=x at X T c2 hd;obtain⟨d,m,B⟩:=x;obtain⟨u,f⟩:∃u,u=wr.alloc (.cells #[.int .i64 (d:Int),.string m,.int .i64 (B:Int)] 190):=⟨_,rfl⟩;have t:Below wr.heap.size wr u:=by rw[f];exact(cV _ _).alloc (dy _) _
   have V:u.heap.size=wr.heap.size+1:=by rw[f];simp
   have o:SMap u w.heap.size (Lx.cntF s):=z.move (t.block _ D);have H:Below w.heap.size w u:=l.trans (t.mono (by omega))
   by_cases b:d=0\/d=1
   ·rw[aaj b,Yf]at hd
    have r:=o.look m;have S:=alB s m;obtain⟨w2,hu,I,K,ae⟩:=o.put m (Lx.cntF s m+1);rw[ajY]at I;have P:Below w.heap.size w w2:=H.grown K (by omega) (fun k M=>by cases M;exact dy _);have q:Hid (fD (Lx.told ws)=(s++[m])++fD (Lx.told (ws.drop (j+1)))):=by
     show _=_;rw[hd];simp
    have J:(s++[m]).length<=j+1:=by simp;omega
    rw[f]at r hu;have Y:0<=Lx.cntF s m:=by unfold Lx.cntF;omega
    have ac:Lx.cntF s m+1<=9223372036854775807:=by unfold Lx.cntF;omega
    generalize Lx.cntF s m=cn at r hu Y ac;clear hd y o z t V f K S;rcases b with b|b
    have p:((d:Int) == 0)=true:=by simp[b]
    clear b
    rotate_left
    have p:((d:Int) == 0)=false:=fY.2 (by omega);have C:((d:Int) == 1)=true:=by simp[b]
    clear b
    all_goals
     go_wp2_with fail;go_roundg (ws.length - (j+1))
     case measure=>omega
     case rel=>exact⟨j+1,s++[m],by omega,by go_num,P,I,J,q⟩
   ·rw[Ye b]at hd
    have q:Hid _:=hd;have p:((d:Int) == 0)=false:=fY.2 (by omega);have C:((d:Int) == 1)=false:=fY.2 (by omega);have ab:¬(d:Int)=0:=by omega
    have aa:¬(d:Int)=1:=by omega
    clear hd y b;go_wp2_with fail;rw[<-f];go_roundg (ws.length - (j+1))
    case measure=>omega
    case rel=>exact⟨j+1,s,by omega,by go_num,H,o,by omega,q⟩
  ·have:j=ws.length:=by omega
   subst this;have hd:=y.out;rw[io]at hd;have q:Hid (fD (Lx.told ws)=s):=by rw[show fD (Lx.told [])=[] from rfl,eV]at hd;exact hd
   clear hd y M R;go_wp2_with fail;obtain⟨wz,E⟩:∃wz,wz=wr:=⟨_,rfl⟩;rw[<-E]at l z D;rw[<-E];clear E;have H1:Hid (oP s ws=oP s (ws.drop 0)):=rfl
   go_loopg [31] ws.length (fun k i wr=>∃(j:Nat),j+k=ws.length/\i=.int .i64 j/\Below w.heap.size w wr/\SMap wr w.heap.size (Lx.cntF s)/\Hid (oP s ws=oP s (ws.drop j)))
   case atStart=>exact⟨0,by omega,rfl,l,z,H1⟩
   case round=>
    clear H1 z l;obtain⟨j,M,rfl,l,z,y⟩:=hrel;have D:=z.lt
    by_cases hlt:j<ws.length
    ·have G:WR wr _ ws:=h.below l
     obtain⟨g,U,O,lg,X,T,c2⟩:=G.at hlt;cases O;have hd:=y.out;rw[eR hlt]at hd;have N:g<w.heap.size:=(h.lt g rfl).2;generalize ws[j]=x at X T c2 hd;obtain⟨d,m,B⟩:=x;obtain⟨u,f⟩:∃u,u=wr.alloc (.cells #[.int .i64 (d:Int),.string m,.int .i64 (B:Int)] 190):=⟨_,rfl⟩;have t:Below wr.heap.size wr u:=by rw[f];exact(cV _ _).alloc (dy _) _
     have o:SMap u w.heap.size (Lx.cntF s):=z.move (t.block _ D);have H:Below w.heap.size w u:=l.trans (t.mono (by omega));have r:=o.look m;rw[f]at r;rw[oP]at hd
     by_cases b:d=2\/d=4
     ·have A:(Lx.cntF s m=0)\/(Lx.cntF s m≠0):=Decidable.em _
      rcases A with A|A
      ·have n:=aak.1 A
       rw[dj ⟨b,n⟩]at hd;have F:Hid (oP s ws=some B):=hd;rw[A]at r;clear hd y A n;rcases b with b|b
       have p:((d:Int) == 2)=true:=by simp[b]
       clear b
       rotate_left
       have p:((d:Int) == 2)=false:=fY.2 (by omega);have C:((d:Int) == 4)=true:=by simp[b]
       clear b
       all_goals
        go_wp2_with fail;go_ret;exact⟨by rw[q.out,F.out];rfl,by rw[<-f];exact H⟩
      ·have n:¬iH m s=false:=fun e=>A (aak.2 e)
       rw[dt (fun e=>n e.2)]at hd;have F:Hid (oP s ws=oP s (ws.drop (j+1))):=hd;have Z:(Lx.cntF s m == 0)=false:=fY.2 A;clear hd y n;generalize Lx.cntF s m=cn at r A Z;rcases b with b|b
       have p:((d:Int) == 2)=true:=by simp[b]
       clear b
       rotate_left
       have p:((d:Int) == 2)=false:=fY.2 (by omega);have C:((d:Int) == 4)=true:=by simp[b]
       clear b
       all_goals
        go_wp2_with fail;rw[<-f];go_roundg (ws.length - (j+1))
        case measure=>omega
        case rel=>exact⟨j+1,by omega,by go_num,H,o,F⟩
     ·rw[dt (fun e=>b e.1)]at hd
      have F:Hid (oP s ws=oP s (ws.drop (j+1))):=hd;have p:((d:Int) == 2)=false:=fY.2 (by omega);have C:((d:Int) == 4)=false:=fY.2 (by omega);have ab:¬(d:Int)=2:=by omega
      have aa:¬(d:Int)=4:=by omega
      clear hd y b;go_wp2_with fail;rw[<-f];go_roundg (ws.length - (j+1))
      case measure=>omega
      case rel=>exact⟨j+1,by omega,by go_num,H,o,F⟩
    ·have:j=ws.length:=by omega
     subst this;have hd:=y.out;rw[io]at hd;have F:Hid (oP s ws=none):=hd;clear hd y;go_wp2_with fail;go_ret;exact⟨by rw[q.out,F.out];rfl,l⟩
namespace Lx
def fl:List Bool->List Wd->Option Nat
 |_,[]=>none
 | [],w::ws=>if w.1=1 then none else fl [] ws
 |b::bs,w::ws=>if w.1=1 then (if b=true then fl bs ws else some w.2.2) else fl (b::bs) ws
def cnt1(ws:List Wd):Nat:=ws.countP fun w=>decide (w.1=1)
theorem ab1{bs:List Bool}{w:Wd}{ws:List Wd}(h:w.1≠1):fl bs (w::ws)=fl bs ws:=by
 cases bs with
 |nil=>rw[fl,dt h]
 |cons b bs=>rw[fl,dt h]
theorem ab2{b:Bool}{bs:List Bool}{w:Wd}{ws:List Wd}(h:w.1=1):fl (b::bs) (w::ws)=if b=true then fl bs ws else some w.2.2:=by rw[fl,dj h]
theorem SC:∀(ws:List Wd)(bs:List Bool),(∀w∈ws,w.1≠1)->∀us,fl bs (ws++us)=fl bs us
 | [],_,_,_=>rfl
 |w::ws,bs,h,us=>by
  rw[gx,ab1 (h w ed)];exact SC ws bs (fun x a=>h x (ei _ a)) us
theorem abf:∀(rs:List Rl)(bs:List Bool),rs.length<=bs.length->fl bs (rs.flatMap fun r=>(1,r.name,r.place)::eZ 9 r.alts)=qU rs bs
 | [],bs,_=>by cases bs <;> rfl
 |r::rs,[],h=>by simp at h
 |r::rs,b::bs,h=>by
  rw[eh,gx,ab2 rfl,qU]
  split
  ·rw[SC _ _ (fun w a=>by rcases Mr 9 _ w a with h | h | h <;> omega)]
   exact abf rs bs (by simpa using h)
  ·rfl
theorem ab3(g:Gr)(bs:List Bool)(h:g.rules.length<=bs.length):fl bs (iF g)=qU g.rules bs:=by
 unfold iF;rw[SC _ _ (fun w a=>?_),abf _ _ h];obtain⟨b,-,a⟩:=fW.1 a;obtain⟨t,-,rfl⟩:=ee.1 a;show (0:Nat)≠1;decide
theorem Zo:∀(rs:List Rl),cnt1 (rs.flatMap fun r=>(1,r.name,r.place)::eZ 9 r.alts)=rs.length
 | []=>rfl
 |r::rs=>by
  have a:cnt1 (eZ 9 r.alts)=0:=qr.2 fun w b=>by
   rcases Mr 9 _ w b with h|h|h <;> simp[h]
  have ih:=Zo rs;unfold cnt1 at a ih|-;rw[eh,uv,ih,mv,a,ev];simp;omega
theorem aal(g:Gr):cnt1 (iF g)=g.rules.length:=by
 have b:cnt1 (g.levels.flatMap fun c=>c.tokens.map fun t=>(0,t.1,t.2))=0:=qr.2 fun w a=>by
  obtain⟨c,-,a⟩:=fW.1 a;obtain⟨t,-,rfl⟩:=ee.1 a;simp
 have h1:=Zo g.rules;unfold iF;unfold cnt1 at b h1|-;rw[uv,b,h1,fk]
end Lx
theorem XH{w:World}{v:Value}{ws:List Lx.Wd}(h:WR w v ws){o:Nat}{bs:List Bool}{n:Nat}(B:aj w o (bG bs) 4)(F:bs.length=n)(I:Lx.cnt1 ws<=n):
  Calls prog 79 #[.slice (some ⟨o,0,none⟩) n n,v] w fun e w'=>e=.returned (.int .i64 (xU (Lx.fl bs ws)))/\Below w.heap.size w w':=by
 obtain⟨a,c,rfl,L⟩:=h.len;unfold maxLen at L;have N:Hid (bs.length=n):=F;clear F;have P:Lx.cnt1 ws<=ws.length:=ud;go_enter func79,ntmps79;go_wp2_with fail;have C:Hid (Lx.fl bs ws=Lx.fl (bs.drop 0) (ws.drop 0)):=rfl;have q:0+Lx.cnt1 (ws.drop 0)<=n:=by rw[uk,fk];exact I
 go_loopg [5,10] ws.length (fun k S i wr=>∃(j r:Nat),j+k=ws.length/\i=.int .i64 j/\S=.int .i64 r/\Below w.heap.size w wr/\r+Lx.cnt1 (ws.drop j)<=n/\r<=j/\Hid (Lx.fl bs ws=Lx.fl (bs.drop r) (ws.drop j)))
 case atStart=>exact⟨0,0,by omega,rfl,rfl,cV _ _,q,dy _,C⟩
 case round=>
  clear C q;obtain⟨j,r,V,rfl,rfl,f,b,W,p⟩:=hrel;have z:=f.size
  by_cases hlt:j<ws.length
  ·have A:WR wr _ ws:=h.below f
   obtain⟨g,T,K,X,H,R,U⟩:=A.at hlt;cases K;have hd:=p.out;rw[eR hlt]at hd b;generalize ws[j]=x at H R U hd b;obtain⟨s,Q,m⟩:=x;have y:Below wr.heap.size wr (wr.alloc (.cells #[.int .i64 (s:Int),.string Q,.int .i64 (m:Int)] 190)):=(cV _ _).alloc (dy _) _;have u:=f.trans (y.mono z)
   by_cases hro:s=1
   ·have t:r+(Lx.cnt1 (ws.drop (j+1))+1)<=n:=by unfold Lx.cnt1 at b|-;rw[mv]at b;simpa [hro]using b
    have l:r<bs.length:=by have:=N.out;omega
    have E:wr.cell? ⟨o,r,none⟩=some (.bool (aK bs r)):=(cM (w:=w) (f.block o B.lt)).trans ((B.cell r).trans (qR bs l));have D:aK bs r=bs[r]:=by simp[aK,l]
    rw[eR l,ab2 hro,<-D]at hd;have G:((s:Int) != 1)=false:=by simp[hro]
    have Y:=B.lt;have J:o<wr.heap.size:=by omega
    have M:r<n:=by omega
    clear hro b l D p;cases hb:aK bs r with
    |true=>
     rw[hb,dj rfl]at hd;rw[hb]at E;have d:Hid _:=hd;clear hd hb;go_wp2_with fail;go_roundg (ws.length - (j+1))
     case measure=>omega
     case rel=>exact⟨j+1,r+1,by omega,by go_num,by go_num,u,by omega,by omega,d⟩
    |false=>
     rw[hb,dt (by decide)]at hd;rw[hb]at E;have d:Hid (Lx.fl bs ws=some m):=hd;clear hd hb;go_wp2_with fail;go_ret;exact⟨by rw[d.out];rfl,u⟩
   ·rw[ab1 hro]at hd
    have t:r+Lx.cnt1 (ws.drop (j+1))<=n:=by unfold Lx.cnt1 at b|-;rw[mv]at b;simpa [hro]using b
    have G:((s:Int) != 1)=true:=lh.2 (by omega);have O:¬(s:Int)=1:=by omega
    have d:Hid _:=hd;clear hd p hro b;go_wp2_with fail;go_roundg (ws.length - (j+1))
    case measure=>omega
    case rel=>exact⟨j+1,r,by omega,by go_num,rfl,u,t,by omega,d⟩
  ·have:j=ws.length:=by omega
   subst this;have hd:=p.out;rw[io]at hd;have d:Hid (Lx.fl bs ws=none):=by rw[hd];cases bs.drop r <;> rfl
   clear hd p;go_wp2_with fail;go_ret;exact⟨by rw[d.out];rfl,f⟩
