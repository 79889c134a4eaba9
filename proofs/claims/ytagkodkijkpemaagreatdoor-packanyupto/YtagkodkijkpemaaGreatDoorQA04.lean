import Derived.Test.YtagkodkijkpemaaGreatDoorQA03
import Derived.Laws.AppendOwnNone
set_option maxHeartbeats 8000000
set_option maxRecDepth 1000000
namespace Go.Proofs.YtagkodkijkpemaaGreatDoor
open Lx Go.Proofs.Tryz
open Go.RowKit Tr
theorem zL0{n:Nat}:n<=n:=dy _
theorem zB0{a b:Int}(h:a≠b):(a==b)=false:=fY.2 h
theorem zS0{w:World}{p:Addr}{v:Value}{g:Nat}(h:g≠p.block):(w.setCell p v).heap[g]?=w.heap[g]?:=fX _ _ _ _ h
structure lY(F:Nat->Prop)(w:World)(vR:Value)(rs:List Lx.Rl):Prop where
 lt:∀b,F b->b<w.heap.size
 rl:Tr.Seq F w 254 2 cR (fun va r=>aO YP 9 F w va r.alts) vR rs
theorem lY.move{F:Nat->Prop}{w w':World}{a:Value}{rs:List Lx.Rl}(h:lY F w a rs)(c:∀b,F b->w'.heap[b]?=w.heap[b]?)(g:w.heap.size<=w'.heap.size):lY F w' a rs :=
 ⟨fun b d=>dd (h.lt b d) g,Seq.move h.rl c (fun _ h=>h) fun _ _ f=>aO.move c (fun _ h=>h) f⟩
theorem lY.below{F:Nat->Prop}{w w':World}{c:Value}{rs:List Lx.Rl}(h:lY F w c rs)(a:Below w.heap.size w w'):lY F w' c rs:=h.move (fun b d=>a.block b (h.lt b d)) a.size
theorem lY.len{F:Nat->Prop}{w:World}{b:Value}{rs:List Lx.Rl}(h:lY F w b rs):∃a c,b=.slice a rs.length c/\rs.length<=maxLen:=Seq.len h.rl
theorem lY.at{F:Nat->Prop}{w:World}{a:Value}{rs:List Lx.Rl}(h:lY F w a rs){j:Nat}(c:j<rs.length):∃b cap va,a=.slice (some ⟨b,0,none⟩) rs.length cap/\F b/\aO YP 9 F w va rs[j].alts/\w.cell? ⟨b,j*2,none⟩=some (.string rs[j].name)/\w.cell? ⟨b,j*2+1,none⟩=some va:=by
 obtain⟨b,cap,va,h1,h2,h3,h4⟩:=Seq.at h.rl (fun _=>rfl) c;exact⟨b,cap,va,h1,h2,h3,h4 0 (by decide),h4 1 (by decide)⟩
theorem af0{F:Nat->Prop}{w:World}{E:Value}{rs:List Lx.Rl}(h:lY F w E rs):
  Calls prog 78 #[E] w fun e w'=>∃B f,e=.returned (.map (some B))/\w.heap.size<=B/\SMap w' B f/\(∀i(hi:i<rs.length),(∀k(hk:k<rs.length),i<k->rs[k].name≠rs[i].name)->f rs[i].name=(i:Int))/\Below w.heap.size w w':=by
 obtain⟨a,c,rfl,M⟩:=h.len;unfold maxLen at M;have A:=@sr prog;go_enter func78,ntmps78;go_wp2_with fail;clear A;obtain⟨W,r⟩:∃W,W=w.alloc (.map #[] 0):=⟨_,rfl⟩;rw[<-r];have L:W.heap.size=w.heap.size+1:=by rw[r];simp
 have Q:Below w.heap.size w W:=by rw[r];exact(cV _ _).alloc (zL0) _
 have l:SMap W w.heap.size (fun _=>0):=by rw[r];exact dF.made _ w
 clear r
 go_loopg [9] rs.length (fun k i wr=>∃(j:Nat)(f:ByteArray->Int),j+k=rs.length/\i=.int .i64 j/\Below w.heap.size w wr/\SMap wr w.heap.size f/\Hid (∀i(hi:i<rs.length),i<j->(∀k(hk:k<rs.length),i<k->k<j->rs[k].name≠rs[i].name)->f rs[i].name=(i:Int)))
 case atStart=>exact⟨0,_,by omega,rfl,Q,l,fun i hi h=>by omega⟩
 case round=>
  clear l;obtain⟨j,f,hk,rfl,b,l,z⟩:=hrel;have x:=l.lt
  by_cases hlt:j<rs.length
  ·obtain⟨V,S,G,K,H,-,J,R⟩:=(h.below b).at hlt
   cases K;obtain⟨nm,d⟩:∃nm,nm=rs[j].name:=⟨_,rfl⟩;rw[<-d]at J;obtain⟨q,g⟩:∃q,q=wr.alloc (.cells #[.string nm,G] 254):=⟨_,rfl⟩;have o:Below wr.heap.size wr q:=by rw[g];exact(cV _ _).alloc (zL0) _
   have p:SMap q w.heap.size f:=l.move (o.block _ x);have I:q.heap.size=wr.heap.size+1:=by rw[g];simp
   obtain⟨w2,m,s,C,N⟩:=p.put nm (j:Int);have v:Below w.heap.size w w2:=(b.trans (o.mono (by omega))).grown C (by omega) (fun k hk=>by cases hk;exact zL0);have O:Hid (∀i(hi:i<rs.length),i<j+1->(∀k(hk:k<rs.length),i<k->k<j+1->rs[k].name≠rs[i].name)->(fun c=>if c=nm then (j:Int) else f c) rs[i].name=(i:Int)):=by
    intro i hi P m
    by_cases he:i=j
    ·subst he;simp[d]
    ·have D:rs[i].name≠nm:=fun e=>m j hlt (by omega) (by omega) (by rw[<-d,e])
     simp only[if_neg D];exact z.out i hi (by omega) fun k hk h1 h2=>m k hk h1 (by omega)
   rw[g]at m;obtain⟨Y,X,T,u⟩:∃a k c,G=.slice a k c:=by
    obtain⟨_,_,U,y,_,t,_,n⟩:=(h.below b).at hlt;cases y;rw[R]at n;cases n;exact aO.form t
   subst u;clear d z p l;go_wp2_with fail;go_roundg (rs.length - (j+1))
   case measure=>omega
   case rel=>exact⟨j+1,_,by omega,by go_num,v,s,O⟩
  ·have:j=rs.length:=by omega
   subst this;go_wp2_with fail;go_ret;exact⟨_,f,rfl,zL0,l,fun i hi m=>z.out i hi hi fun k hk h1 _=>m k hk h1,b⟩
namespace Lx
def tL(x:It):Prop:=(x.kind=0/\isName x.name=true/\x.alts=[])\/(x.kind=1/\isToken x.name=true/\x.alts=[])\/x.kind=2
def Eb(a:Alt):Prop:=a.2.1=aW\/isToken a.2.1=true
def F6(d:Nat)(aF:List Tk->aV (List Alt)):Prop:=∀ts l ts',aF ts=.ok (l,ts')->(∀x∈dm d l,tL x)
theorem ajZ{d:Nat}{aF:List Tk->aV (List Alt)}(c:F6 d aF){ts ts':List Tk}{x:It}(h:iq aF ts=.ok (x,ts')):∀y∈xC d x,tL y:=by
 unfold iq at h
 split at h
 ·split at h
  ·cases h
  ·rename_i alts g f
   cases h;intro y a;rcases eC.1 a with rfl|a
   ·exact .inr (.inr rfl)
   ·exact c _ _ _ f y a
 ·split at h
  ·rename_i b
   cases h;intro y a;rcases eC.1 a with rfl|a
   ·exact .inl ⟨rfl,b,rfl⟩
   ·rw[MX]at a;cases a
  ·split at h
   ·rename_i b
    cases h;intro y a;rcases eC.1 a with rfl|a
    ·exact .inr (.inl ⟨rfl,b,rfl⟩)
    ·rw[MX]at a;cases a
   ·cases h
theorem aam{d:Nat}{aF:List Tk->aV (List Alt)}(c:F6 d aF):∀(f:Nat)(ts:List Tk)(a x:List It)(ts':List Tk),jr aF f ts a=.ok (x,ts')->(∀y∈qY d a,tL y)->∀y∈qY d x,tL y
 |0,ts,a,x,ts',h,ha=>by cases h;exact ha
 |f+1,ts,a,x,ts',h,ha=>by
  unfold jr at h
  split at h
  ·split at h
   ·cases h
   ·rename_i z g i
    refine aam c f g _ x ts' h fun y b=>?_
    unfold qY at b;rw[gw]at b;rcases cY.1 b with b|b
    ·exact ha y b
    ·rw[eh,p6,eV]at b
     exact ajZ c i y b
  ·cases h;exact ha
theorem ab4{d:Nat}{aF:List Tk->aV (List Alt)}(i:F6 d aF){a:Bool}{ts ts':List Tk}{x:Alt}(h:iG aF a ts=.ok (x,ts')):(∀y∈qY d x.1,tL y)/\Eb x:=by
 unfold iG at h
 split at h
 ·cases h
 ·rename_i its l g
  have h1:=aam i _ _ _ _ _ g (fun y j=>by cases j);unfold qB at h
  split at h
  ·split at h
   ·cases h
   ·rename_i b k c
    cases h;obtain⟨rfl,rfl,f⟩:=oO c;exact⟨h1,.inr f⟩
  ·cases h
   exact⟨h1,.inl rfl⟩
theorem abg{d:Nat}{aF:List Tk->aV (List Alt)}(i:F6 d aF){g:Bool}:∀(f:Nat)(ts:List Tk)(a x:List Alt)(ts':List Tk),l9 aF g f ts a=.ok (x,ts')->((∀y∈dm (d+1) a,tL y)/\∀y∈a,Eb y)->(∀y∈dm (d+1) x,tL y)/\∀y∈x,Eb y
 |0,ts,a,x,ts',h,ha=>by cases h;exact ha
 |f+1,ts,a,x,ts',h,ha=>by
  unfold l9 at h
  split at h
  ·split at h
   ·cases h
   ·rename_i z j k
    have c:=ab4 i k;refine abg i f j _ x ts' h ⟨fun y b=>?_,fun y b=>?_⟩
    ·rw[wM,gw]at b
     rcases cY.1 b with b|b
     ·exact ha.1 y b
     ·rw[eh,p6,eV]at b
      exact c.1 y b
    ·rcases cY.1 b with b | b
     ·exact ha.2 y b
     ·rw[cN.1 b];exact c.2
  ·cases h;exact ha
theorem Zp{d:Nat}{aF:List Tk->aV (List Alt)}(f:F6 d aF){c:Bool}{ts ts':List Tk}{x:List Alt}(h:qx aF c ts=.ok (x,ts')):(∀y∈dm (d+1) x,tL y)/\∀y∈x,Eb y:=by
 unfold qx at h
 split at h
 ·cases h
 ·rename_i z i g
  have a:=ab4 f g;refine abg f _ _ _ _ _ h ⟨fun y b=>?_,fun y b=>?_⟩
  ·rw[wM,eh,p6,eV]at b
   exact a.1 y b
  ·rw[cN.1 b];exact a.2
theorem aiJ{d:Nat}{r:List Tk->aV (List Alt)}(a:∀ts l ts',r ts=.ok (l,ts')->(∀y∈dm d l,tL y)/\∀y∈l,Eb y):F6 d (qz r):=by
 intro ts l ts' h;unfold qz at h
 split at h
 ·cases h
 ·rename_i c b h1
  split at h
  ·cases h
  ·cases h
   exact(a _ _ _ h1).1
theorem abh:∀(d:Nat)(ts:List Tk)(l:List Alt)(ts':List Tk),nJ d ts=.ok (l,ts')->(∀y∈dm (d+1) l,tL y)/\∀y∈l,Eb y
 |0,ts,l,ts',h=>Zp (d:=0) (fun _ _ _ h=>by cases h) h
 |d+1,ts,l,ts',h=>Zp (aiJ (abh d)) h
def JR(r:Rl):Prop:=isName r.name=true/\(∀y∈dm 9 r.alts,tL y)/\∀y∈r.alts,Eb y
theorem abj{ts ts':List Tk}{x:Rl}(h:iw ts=.ok (x,ts')):JR x:=by
 unfold iw at h
 split at h
 ·cases h
 ·rename_i n c h1
  obtain⟨rfl,rfl,a⟩:=oO h1
  split at h
  ·cases h
  ·split at h
   ·cases h
   ·rename_i l b h3
    split at h
    ·cases h
    ·cases h
     exact⟨a,abh 8 _ _ _ h3⟩
theorem aan:∀(f:Nat)(ts:List Tk)(a x:List Rl)(ts':List Tk),jv f ts a=.ok (x,ts')->(∀r∈a,JR r)->∀r∈x,JR r
 |0,ts,a,x,ts',h,ha=>by cases h;exact ha
 |f+1,ts,a,x,ts',h,ha=>by
  unfold jv at h
  split at h
  ·cases h;exact ha
  ·split at h
   ·cases h
   ·rename_i z c d
    refine aan f c _ x ts' h fun r b=>?_
    rcases cY.1 b with b|b
    ·exact ha r b
    ·rw[cN.1 b];exact abj d
theorem Zq:∀(f:Nat)(ts a x:List Tk)(ts':List Tk),jG f ts a=.ok (x,ts')->(∀t∈a,isToken t.1=true)->∀t∈x,isToken t.1=true
 |0,ts,a,x,ts',h,ha=>by cases h;exact ha
 |f+1,ts,a,x,ts',h,ha=>by
  unfold jG at h
  split at h
  ·cases h;exact ha
  ·split at h
   ·cases h
   ·rename_i b g h1
    obtain⟨rfl,rfl,d⟩:=oO h1;refine Zq f _ _ _ _ h fun t c=>?_
    rcases cY.1 c with c|c
    ·exact ha t c
    ·rw[cN.1 c];exact d
def Ou(l:Lv):Prop:=∀t∈l.tokens,isToken t.1=true
theorem Zr:∀(f:Nat)(ts:List Tk)(a x:List Lv)(ts':List Tk),jO f ts a=.ok (x,ts')->(∀l∈a,Ou l)->∀l∈x,Ou l
 |0,ts,a,x,ts',h,ha=>by cases h;exact ha
 |f+1,ts,a,x,ts',h,ha=>by
  unfold jO at h
  split at h
  ·split at h
   ·cases h
   ·rename_i z k c
    refine Zr f k _ x ts' h fun l d=>?_
    rcases cY.1 d with d|d
    ·exact ha l d
    ·rw[cN.1 d]
     unfold jY at c
     split at c
     ·cases c
     ·rename_i b n g
      obtain⟨rfl,rfl,j⟩:=oO g
      split at c
      ·cases c
      ·rename_i l m h3
       cases c;exact Zq _ _ _ _ _ h3 fun t i=>by rw[cN.1 i];exact j
  ·cases h;exact ha
theorem FC{s:ByteArray}{g:Gr}(h:parse s=.ok g):(∀l∈g.levels,Ou l)/\(∀r∈g.rules,JR r)/\0<g.rules.length:=by
 unfold parse at h
 split at h
 ·cases h
 ·split at h
  ·cases h
  ·rename_i k c a
   cases h;unfold iZ at a
   split at a
   ·cases a
   ·rename_i f i h1
    split at a
    ·cases a
    ·rename_i x j h2
     split at a
     ·cases a
     ·rename_i l d h3
      cases a;refine⟨Zr _ _ _ _ _ h1 (fun _ h=>by cases h),aan _ _ _ _ _ h3 (fun r b=>by rw[cN.1 b];exact abj h2),?_⟩;obtain⟨y,e,-⟩:=QO _ _ _ _ _ h3;show 0<l.length;rw[e];simp
def Dp:Nat->List Alt->Prop
 |0,l=>l=[]
 |d+1,l=>∀a∈l,∀x∈a.1,Dp d x.alts
theorem FD{d:Nat}{l:List Alt}{y:It}:y∈dm (d+1) l↔∃a∈l,∃x∈a.1,y=x\/y∈dm d x.alts:=by
 rw[wM,fW];constructor
 ·rintro⟨a,f,b⟩
  obtain⟨x,c,b⟩:=fW.1 b;exact⟨a,f,x,c,eC.1 b⟩
 ·rintro⟨a,f,x,c,b⟩
  exact⟨a,f,fW.2 ⟨x,c,eC.2 b⟩⟩
theorem SE:∀{d:Nat}{l:List Alt},Dp d l->∀{x:It},x∈dm d l->∀{a:Alt},a∈x.alts->∀{y:It},y∈a.1->y∈dm d l
 |0,l,h,x,c,a,ha,y,hy=>by cases c
 |d+1,l,h,x,c,a,ha,y,hy=>by
  obtain⟨b,f,z,i,c⟩:=FD.1 c;refine FD.2 ⟨b,f,z,i,.inr ?_⟩;have g:=h b f z i;rcases c with rfl|c
  ·cases d with
   |zero=>rw[show x.alts=[] from g]at ha;cases ha
   |succ d=>exact FD.2 ⟨a,ha,y,hy,.inl rfl⟩
  ·exact SE g c ha hy
theorem Jc{α:Type}(f:α->Nat):∀{l:List α}{a:α},a∈l->f a<=(l.map f).sum
 |b::l,a,h=>by
  rw[j7,m7];rcases eC.1 h with rfl|h
  ·omega
  ·have:=Jc f h;omega
theorem FP{α:Type}(f:α->Nat):∀{l:List α},(∀a∈l,1<=f a)->l.length<=(l.map f).sum
 | [],_=>zL0
 |b::l,h=>by
  rw[j7,m7,ev];have:=h b ed;have:=FP f (l:=l) fun a c=>h a (ei _ c)
  omega
theorem aao:∀{d:Nat}{l:List Alt},Dp d l->l.length<=iN d l/\∀a∈l,a.1.length<=iN d l
 |0,l,h=>by rw[show l=[] from h];exact⟨zL0,fun _ h=>by cases h⟩
 |d+1,l,h=>by
  rw[Du];refine⟨FP _ fun a _=>by omega,fun a b=>?_⟩;have h1:1+tF d a.1<=_:=Jc (fun a:Alt=>1+tF d a.1) b;have h2:a.1.length<=tF d a.1:=FP _ fun x _=>by unfold DV;omega
  omega
theorem abk:∀{d:Nat}{l:List Alt},Dp d l->∀{x:It},x∈dm d l->x.alts.length<=iN d l/\∀a∈x.alts,a.1.length<=iN d l
 |0,l,h,x,c=>by cases c
 |d+1,l,h,x,c=>by
  obtain⟨b,f,z,g,c⟩:=FD.1 c;have i:=h b f z g;have k:iN d z.alts<=iN (d+1) l:=by
   rw[Du];have h1:1+tF d b.1<=_:=Jc (fun a:Alt=>1+tF d a.1) f;have h2:1+iN d z.alts<=tF d b.1:=Jc (DV d) g;omega
  have h4:x.alts.length<=iN d z.alts/\∀a∈x.alts,a.1.length<=iN d z.alts:=by
   rcases c with rfl|c
   ·exact aao i
   ·exact abk i c
  exact⟨by omega,fun a j=>by have:=h4.2 a j;omega⟩
end Lx
theorem Rz{Y:Tr.Lay}{F:Nat->Prop}{w:World}:∀{d:Nat}{v:Value}{l:List Lx.Alt},Tr.aO Y d F w v l->Lx.Dp d l
 |0,_,_,h=>h.2
 |d+1,v,l,h=>by
  obtain⟨m,h1,-,-,h4⟩:=h;intro a b x c;rw[<-h1]at b;obtain⟨q,g,rfl⟩:=ee.1 b;obtain⟨k,j,-,-,i⟩:=h4 q g;rw[<-j]at c;obtain⟨p,f,rfl⟩:=ee.1 c;exact Rz (i p f)
def aU:Value->Nat
 | .slice (some a) _ _=>a.block
 |_=>0
def cv(w:World)(a:Addr):Value:=(w.cell? a).getD (.slice none 0 0)
abbrev AI:=Addr×Lx.It
def eP(sub:Value->List Lx.Alt->List AI)(w:World)(g:Nat):Nat->List Lx.It->List AI
 |_,[]=>[]
 |i,x::xs=>((⟨g,i*4,none⟩:Addr),x)::(sub (cv w ⟨g,i*4+3,none⟩) x.alts++eP sub w g (i+1) xs)
def dU(sub:Value->List Lx.Alt->List AI)(w:World)(g:Nat):Nat->List Lx.Alt->List AI
 |_,[]=>[]
 |j,a::l=>eP sub w (aU (cv w ⟨g,j*2,none⟩)) 0 a.1++dU sub w g (j+1) l
def aL:Nat->World->Value->List Lx.Alt->List AI
 |0,_,_,_=>[]
 |d+1,w,v,l=>dU (aL d w) w (aU v) 0 l
theorem YF{sub:Value->List Lx.Alt->List AI}{w:World}{g d:Nat}:∀(its:List Lx.It)(i:Nat),(∀k x,its[k]?=some x->(sub (cv w ⟨g,(i+k)*4+3,none⟩) x.alts).map Prod.snd=dm d x.alts)->(eP sub w g i its).map Prod.snd=qY d its
 | [],_,_=>rfl
 |x::xs,i,h=>by
  have a:=h 0 x rfl;have h1:=YF (sub:=sub) (w:=w) (g:=g) (d:=d) xs (i+1) fun k y b=>by
   have:=h (k+1) y (by simpa using b);rw[show i+(k+1)=i+1+k by omega]at this;exact this
  rw[eP,j7,eJ,h1];simp only[Nat.add_zero]at a;rw[a];rfl
theorem Zt{sub:Value->List Lx.Alt->List AI}{w:World}{g d:Nat}:∀(l:List Lx.Alt)(j:Nat),(∀k a,l[k]?=some a->(eP sub w (aU (cv w ⟨g,(j+k)*2,none⟩)) 0 a.1).map Prod.snd=qY d a.1)->(dU sub w g j l).map Prod.snd=dm (d+1) l
 | [],_,_=>rfl
 |a::l,j,h=>by
  have b:=h 0 a rfl;have h1:=Zt (sub:=sub) (w:=w) (g:=g) (d:=d) l (j+1) fun k y c=>by
   have:=h (k+1) y (by simpa using c);rw[show j+(k+1)=j+1+k by omega]at this;exact this
  rw[dU,eJ,h1];simp only[Nat.add_zero]at b;rw[b];rfl
theorem Fu{d:Nat}{F:Nat->Prop}{w:World}{v:Value}{l:List Lx.Alt}(h:aO YP (d+1) F w v l){j:Nat}(a:j<l.length):F (aU v)/\∃vi,w.cell? ⟨aU v,j*2,none⟩=some vi/\jH YP d F w vi l[j].1:=by
 obtain⟨b,c,vi,h1,h2,h3,h4⟩:=Seq.at h (fun _=>rfl) a;subst h1;exact⟨h2,vi,h4 0 (by decide),h3⟩
theorem Zu{d:Nat}{F:Nat->Prop}{w:World}{v:Value}{l:List Lx.It}(h:jH YP d F w v l){j:Nat}(c:j<l.length):F (aU v)/\∃va,w.cell? ⟨aU v,j*4+3,none⟩=some va/\aO YP d F w va l[j].alts:=by
 unfold jH wV at h;obtain⟨b,f,a,h1,h2,h3,h4⟩:=Seq.at h (fun _=>rfl) c;subst h1;exact⟨h2,a,h4 3 (by decide),h3⟩
theorem FQ:∀{d:Nat}{F:Nat->Prop}{w:World}{v:Value}{l:List Lx.Alt},aO YP d F w v l->(aL d w v l).map Prod.snd=dm d l
 |0,_,_,_,_,_=>rfl
 |d+1,F,w,v,l,h=>by
  refine Zt l 0 fun k a j=>?_
  obtain⟨f,rfl⟩:=cG.1 j;obtain⟨-,c,n,g⟩:=Fu h f;have i:cv w ⟨aU v,(0+k)*2,none⟩=c:=by unfold cv;rw[fk,n];rfl
  rw[i];refine YF _ 0 fun m x q=>?_
  obtain⟨p,rfl⟩:=cG.1 q;obtain⟨-,s,b,r⟩:=Zu g p;have o:cv w ⟨aU c,(0+m)*4+3,none⟩=s:=by unfold cv;rw[fk,b];rfl
  rw[o];exact FQ r
theorem Yg{sub sub':Value->List Lx.Alt->List AI}{w w':World}{g:Nat}:∀(its:List Lx.It)(i:Nat),(∀k x,its[k]?=some x->sub' (cv w' ⟨g,(i+k)*4+3,none⟩) x.alts=sub (cv w ⟨g,(i+k)*4+3,none⟩) x.alts)->eP sub' w' g i its=eP sub w g i its
 | [],_,_=>rfl
 |x::xs,i,h=>by
  have a:=h 0 x rfl;have h1:=Yg (sub:=sub) (sub':=sub') (w:=w) (w':=w') (g:=g) xs (i+1) fun k y b=>by
   have:=h (k+1) y (by simpa using b);rw[show i+(k+1)=i+1+k by omega]at this;exact this
  simp only[Nat.add_zero]at a;rw[eP,eP,a,h1]
theorem YG{sub sub':Value->List Lx.Alt->List AI}{w w':World}{g:Nat}:∀(l:List Lx.Alt)(j:Nat),(∀k a,l[k]?=some a->eP sub' w' (aU (cv w' ⟨g,(j+k)*2,none⟩)) 0 a.1=eP sub w (aU (cv w ⟨g,(j+k)*2,none⟩)) 0 a.1)->dU sub' w' g j l=dU sub w g j l
 | [],_,_=>rfl
 |a::l,j,h=>by
  have b:=h 0 a rfl;have h1:=YG (sub:=sub) (sub':=sub') (w:=w) (w':=w') (g:=g) l (j+1) fun k y c=>by
   have:=h (k+1) y (by simpa using c);rw[show j+(k+1)=j+1+k by omega]at this;exact this
  simp only[Nat.add_zero]at b;rw[dU,dU,b,h1]
theorem SF{w w':World}{a:Addr}(h:w'.heap[a.block]?=w.heap[a.block]?):cv w' a=cv w a:=by unfold cv;rw[cM h]
theorem IY:∀{d:Nat}{F:Nat->Prop}{w w':World}{v:Value}{l:List Lx.Alt},aO YP d F w v l->(∀b,F b->w'.heap[b]?=w.heap[b]?)->aL d w' v l=aL d w v l
 |0,_,_,_,_,_,_,_=>rfl
 |d+1,F,w,w',v,l,h,hs=>by
  refine YG l 0 fun k a o=>?_
  obtain⟨i,rfl⟩:=cG.1 o;obtain⟨r,g,p,j⟩:=Fu h i;have n:cv w ⟨aU v,(0+k)*2,none⟩=g:=by unfold cv;rw[fk,p];rfl
  rw[SF (hs _ r),n];refine Yg _ 0 fun m x t=>?_
  obtain⟨s,rfl⟩:=cG.1 t;obtain⟨c,y,f,u⟩:=Zu j s;have q:cv w ⟨aU g,(0+m)*4+3,none⟩=y:=by unfold cv;rw[fk,f];rfl
  rw[SF (hs _ c),q];exact IY u hs
theorem Yh{sub:Value->List Lx.Alt->List AI}{w:World}{g:Nat}{its:List Lx.It}{m:Nat}(a:m<its.length):eP sub w g m (its.drop m)=((⟨g,m*4,none⟩:Addr),its[m])::(sub (cv w ⟨g,m*4+3,none⟩) its[m].alts++eP sub w g (m+1) (its.drop (m+1))):=by
 rw[eR a,eP]
theorem YH{sub:Value->List Lx.Alt->List AI}{w:World}{g:Nat}{l:List Lx.Alt}{j:Nat}(a:j<l.length):dU sub w g j (l.drop j)=eP sub w (aU (cv w ⟨g,j*2,none⟩)) 0 l[j].1++dU sub w g (j+1) (l.drop (j+1)):=by
 rw[eR a,dU]
def iU(w:World)(b:Nat):Prop:=∃(ca:Array Value)(ta:TypeId),w.heap[b]?=some (.cells ca ta (0,0))
theorem iU.move{w w':World}{b:Nat}(h:iU w b)(d:w'.heap[b]?=w.heap[b]?):iU w' b:=by
 obtain⟨a,c,h⟩:=h;exact⟨a,c,d.trans h⟩
def Apart(F:Nat->Prop)(w:World)(l:List AI):Prop:=(∀p∈l,F p.1.block/\iU w p.1.block)/\(l.map Prod.fst).Nodup
def Um(Fs:Nat->Nat->Prop):Prop:=∀k k',k<k'->∀b,Fs k b->Fs k' b->False
theorem Tr.dV.at{α:Type}{F:Nat->Prop}{w:World}{e s:Nat}{c:Value×α->List Value}{K:(Nat->Prop)->World->Value->α->Prop}{v:Value}{l:List α}(h:dV F w e s c K v l)(B:∀q,(c q).length=s):
  ∃Fs:Nat->Nat->Prop,Um Fs/\(∀k b,Fs k b->F b)/\(∀g,v.ownBlock=some g->F g/\iU w g/\∀k,¬Fs k g) /\
   ∀j(hj:j<l.length),∃g cap vk,v=.slice (some ⟨g,0,none⟩) l.length cap/\K (Fs j) w vk l[j]/\∀i,i<s->w.cell? ⟨g,j*s+i,none⟩=(c (vk,l[j]))[i]?:=by
 obtain⟨f,Fs,h1,h2,h3,h4,D,L,A⟩:=h;have M:f.length=l.length:=by rw[<-h1];simp
 have o:∀k b,((Fs[k]?).getD fun _=>False) b->∃d:k<Fs.length,Fs[k] b:=by
  intro k b a
  by_cases d:k<Fs.length
  ·rw[cF d]at a;exact⟨d,a⟩
  ·rw[ju (by omega)]at a;exact a.elim
 refine⟨fun k=>(Fs[k]?).getD fun _=>False,?_,?_,?_,?_⟩
 ·intro k z t b a m
  obtain⟨d,a⟩:=o k b a;obtain⟨p,m⟩:=o z b m;exact me.1 D k z d p t b a m
 ·intro k b a
  obtain⟨d,a⟩:=o k b a;exact h4 _ (du d) b a
 ·intro g n
  refine⟨(h3 g n).1,?_,fun k a=>?_⟩
  ·rcases h2.2 with C | ⟨G,cap,J,E,-,H,-⟩
   ·rw[C.1]at n;simp[Value.ownBlock]at n
   ·have:G=g:=by rw[E]at n;simpa [Value.ownBlock]using n
    subst this;exact⟨_,_,H⟩
  ·obtain⟨d,a⟩:=o k g a
   exact(h3 g n).2 _ (du d) a
 ·intro j hj
  obtain⟨g,cap,rfl,-,-⟩:=h2.form (by omega);have r:f[j]?=some f[j]:=cF (by omega);have x:Fs[j]?=some Fs[j]:=cF (by omega);have y:(f[j]).2=l[j]:=by
   have:(f.map Prod.snd)[j]?=l[j]?:=by rw[h1]
   rw[di,r,cF hj]at this;simpa using this
  refine⟨g,cap,(f[j]).1,rfl,?_,?_⟩
  ·have:=A j _ _ r x
   rw[y]at this;show K ((Fs[j]?).getD fun _=>False) w _ _;rw[x];exact this
  ·intro i I
   have u:j*s+i<l.length*s:=by
    have:(j+1)*s<=l.length*s:=jj s hj;rw[mf]at this;omega
   rw[h2.cellAt (j*s+i) u,flat_get c s B f j i _ r I,<-y]
theorem XL{sub:Value->List Lx.Alt->List AI}{w:World}{g:Nat}{o:Nat->Nat->Prop}(z:Um o)(n:∀k,¬o k g)(u:iU w g):∀(its:List Lx.It)(i:Nat),(∀k x,its[k]?=some x->Apart (o (i+k)) w (sub (cv w ⟨g,(i+k)*4+3,none⟩) x.alts)) ->
  (∀p∈eP sub w g i its,iU w p.1.block/\((p.1.block=g/\∃m,i<=m/\p.1.off=m*4)\/∃k,i<=k/\o k p.1.block))/\((eP sub w g i its).map Prod.fst).Nodup
 | [],i,_=>⟨fun p h=>(by cases h),mj⟩
 |x::xs,i,h=>by
  have j:=h 0 x rfl;simp only[Nat.add_zero]at j;have h1:=XL z n u xs (i+1) fun k y F=>by
   have:=h (k+1) y (by simpa using F);rw[show i+(k+1)=i+1+k by omega]at this;exact this
  rw[eP];refine⟨fun p c=>?_,?_⟩
  ·rcases eC.1 c with rfl | c
   ·exact⟨u,.inl ⟨rfl,i,zL0,rfl⟩⟩
   ·rcases cY.1 c with c | c
    ·exact⟨(j.1 p c).2,.inr ⟨i,zL0,(j.1 p c).1⟩⟩
    ·obtain⟨a,b⟩:=h1.1 p c
     refine⟨a,?_⟩;rcases b with ⟨e,m,f,r⟩|⟨k,t,d⟩
     ·exact .inl ⟨e,m,by omega,r⟩
     ·exact .inr ⟨k,by omega,d⟩
  ·rw[j7,eJ,ph,ip]
   refine⟨fun f=>?_,j.2,h1.2,fun a B b E e=>?_⟩
   ·rcases cY.1 f with f | f
    ·obtain⟨p,c,e⟩:=ee.1 f
     have:=(j.1 p c).1;rw[e]at this;exact n _ this
    ·obtain⟨p,c,e⟩:=ee.1 f
     rcases (h1.1 p c).2 with ⟨-,m,f,r⟩|⟨k,t,d⟩
     ·rw[e]at r
      have D:i*4=m*4:=r;omega
     ·rw[e]at d;exact n _ d
   ·subst e
    obtain⟨p,c,A⟩:=ee.1 B;obtain⟨q,C,v⟩:=ee.1 E;have s:=(j.1 p c).1;rw[A]at s;rcases (h1.1 q C).2 with ⟨l,-⟩|⟨k,t,d⟩
    ·rw[v]at l;rw[l]at s;exact n _ s
    ·rw[v]at d;exact z i k (by omega) _ s d
def qA{α:Type}(f:Nat->α->List AI):Nat->List α->List AI
 |_,[]=>[]
 |j,a::l=>f j a++qA f (j+1) l
theorem QM{α:Type}{f:Nat->α->List AI}{w:World}{i:Nat->Nat->Prop}(n:Um i):∀(l:List α)(j:Nat),(∀k a,l[k]?=some a->Apart (i (j+k)) w (f (j+k) a)) ->
  (∀p∈qA f j l,iU w p.1.block/\∃k,j<=k/\i k p.1.block)/\((qA f j l).map Prod.fst).Nodup
 | [],j,_=>⟨fun p h=>(by cases h),mj⟩
 |x::xs,j,h=>by
  have d:=h 0 x rfl;simp only[Nat.add_zero]at d;have h1:=QM (f:=f) (w:=w) n xs (j+1) fun k y z=>by
   have:=h (k+1) y (by simpa using z);rw[show j+(k+1)=j+1+k by omega]at this;exact this
  rw[qA];refine⟨fun p c=>?_,?_⟩
  ·rcases cY.1 c with c | c
   ·exact⟨(d.1 p c).2,j,zL0,(d.1 p c).1⟩
   ·obtain⟨a,k,o,g⟩:=h1.1 p c
    exact⟨a,k,by omega,g⟩
  ·rw[eJ,ip]
   refine⟨d.2,h1.2,fun a s b v e=>?_⟩;subst e;obtain⟨p,c,r⟩:=ee.1 s;obtain⟨q,t,u⟩:=ee.1 v;have m:=(d.1 p c).1;rw[r]at m;obtain⟨-,k,o,g⟩:=h1.1 q t;rw[u]at g;exact n j k (by omega) _ m g
theorem aap{sub:Value->List Lx.Alt->List AI}{w:World}{g:Nat}:∀(l:List Lx.Alt)(j:Nat),dU sub w g j l=qA (fun j a=>eP sub w (aU (cv w ⟨g,j*2,none⟩)) 0 a.1) j l
 | [],_=>rfl
 |a::l,j=>by rw[dU,qA,aap l (j+1)]
theorem aaq:∀{d:Nat}{F:Nat->Prop}{w:World}{v:Value}{l:List Lx.Alt},eG YP d F w v l->Apart F w (aL d w v l)
 |0,_,_,_,_,_=>⟨fun p h=>(by cases h),mj⟩
 |d+1,F,w,v,l,h=>by
  obtain⟨X,h1,h2,h3,h4⟩:=dV.at h (fun _=>rfl);have O:aL (d+1) w v l=qA (fun j a=>eP (aL d w) w (aU (cv w ⟨aU v,j*2,none⟩)) 0 a.1) 0 l:=aap l 0;have r:=QM (f:=fun j(a:Lx.Alt)=>eP (aL d w) w (aU (cv w ⟨aU v,j*2,none⟩)) 0 a.1) (w:=w) h1 l 0 fun k a I=>by
   obtain⟨G,rfl⟩:=cG.1 I;obtain⟨g,A,E,M,S,o⟩:=h4 k G;subst M;have t:w.cell? ⟨g,k*2,none⟩=some E:=o 0 (by decide);have H:cv w ⟨g,(0+k)*2,none⟩=E:=by unfold cv;rw[fk,t];rfl
   rw[show aU (.slice (some ⟨g,0,none⟩) l.length A)=g from rfl,H,fk];obtain⟨Z,U,N,V,B⟩:=dV.at S (fun _=>rfl)
   by_cases hlen:0<l[k].1.length
   ·obtain⟨n,J,Y,i,-,-⟩:=B 0 hlen
    obtain⟨W,Q,T⟩:=V n (by rw[i];rfl);have D:=XL (sub:=aL d w) (w:=w) (g:=n) U T Q l[k].1 0 fun m x r=>by
     obtain⟨P,rfl⟩:=cG.1 r;obtain⟨s,K,C,q,R,c⟩:=B m P;have:s=n:=by rw[i]at q;cases q;rfl
     subst this;have z:w.cell? ⟨s,m*4+3,none⟩=some C:=c 3 (by decide);have L:cv w ⟨s,(0+m)*4+3,none⟩=C:=by unfold cv;rw[fk,z];rfl
     rw[L,fk];exact aaq R
    rw[i,show aU (.slice (some ⟨n,0,none⟩) l[k].1.length J)=n from rfl];refine⟨fun p y=>?_,D.2⟩;obtain⟨a,b⟩:=D.1 p y;refine⟨?_,a⟩;rcases b with ⟨e,-⟩|⟨m,-,u⟩
    ·rw[e];exact W
    ·exact N m _ u
   ·have:l[k].1=[]:=gz (by omega)
    rw[this];exact⟨fun p h=>(by cases h),mj⟩
  rw[O];exact⟨fun p y=>by obtain⟨a,k,-,u⟩:=r.1 p y;exact⟨h2 k _ u,a⟩,r.2⟩
def SG(w:World)(g:Nat):Nat->List Lx.Rl->List AI:=qA fun j r=>aL 9 w (cv w ⟨g,j*2+1,none⟩) r.alts
theorem XM{F:Nat->Prop}{w:World}{v:Value}{rs:List Lx.Rl}(h:Tr.dV F w 254 2 cR KR v rs):Apart F w (SG w (aU v) 0 rs):=by
 obtain⟨x,h1,h2,h3,h4⟩:=dV.at h (fun _=>rfl);have i:=QM (f:=fun j(r:Lx.Rl)=>aL 9 w (cv w ⟨aU v,j*2+1,none⟩) r.alts) (w:=w) h1 rs 0 fun k a o=>by
  obtain⟨m,rfl⟩:=cG.1 o;obtain⟨g,d,l,s,u,b⟩:=h4 k m;subst s;have c:w.cell? ⟨g,k*2+1,none⟩=some l:=b 1 (by decide);have n:cv w ⟨g,(0+k)*2+1,none⟩=l:=by unfold cv;rw[fk,c];rfl
  rw[show aU (.slice (some ⟨g,0,none⟩) rs.length d)=g from rfl,n,fk];exact aaq u
 exact⟨fun p q=>by obtain⟨a,k,-,t⟩:=i.1 p q;exact⟨h2 k _ t,a⟩,i.2⟩
theorem afA{P:Program}{w:World}{f l:TypeId}{j:TypeInfo}{a b:Addr}(k:P.underlying f=some (.pointer l))(c:P.info? l=some j)(hsz:j.size≠0)(i:iU w a.block)(g:iU w b.block):
  (Op.equal f (.pointer (some a)) (.pointer (some b))).run P w=.ok (decide (a=b)) w:=by
 obtain⟨o,m,i⟩:=i;obtain⟨n,p,g⟩:=g
 by_cases hab:a=b
 ·subst hab
  have h:∀d:Nat,(Op.equalIn (d+1) f (.pointer (some a)) (.pointer (some a))).run P w=.ok true w:=fun d=>by
   simp[Op.equalIn,run_underlying k,sizeOf,typeInfo,c,run_sameAddr_same]
  simp[Op.equal,Op.maxDepth,h 9999]
 ·have h:∀d:Nat,(Op.equalIn (d+1) f (.pointer (some a)) (.pointer (some b))).run P w=.ok false w:=fun d=>by
   simp[Op.equalIn,run_underlying k,sizeOf,typeInfo,c,hsz,run_sameAddr_other w hab i g]
  simp[Op.equal,Op.maxDepth,h 9999,hab]
def mR(a:Addr):Value:=.pointer (some a)
theorem abl{P:Program}{w:World}{f p:TypeId}{j:TypeInfo}{a:Addr}(r:P.underlying f=some (.pointer p))(d:P.info? p=some j)(hsz:j.size≠0)(o:iU w a.block):∀(l:List MapEntry)(i:Nat),(∀x∈l,∃c,x.key=mR c/\iU w c.block) ->
  ((Instr.findAsking f (mR a) l i).run P w=.ok none w/\∀(x:MapEntry),x∈l->x.key≠mR a)\/∃(k:Nat)(e:MapEntry),(Instr.findAsking f (mR a) l i).run P w=.ok (some (i+k,e.val)) w/\l[k]?=some e/\e.key=mR a
 | [],i,_=>.inl ⟨by simp[Instr.findAsking],fun x h=>(by cases h)⟩
 |x::l,i,h=>by
  obtain⟨c,m,n⟩:=h x ed;have q:=afA (w:=w) r d hsz o n
  by_cases hac:a=c
  ·subst hac
   refine .inr ⟨0,x,?_,rfl,m⟩;have b:(Op.equal f (mR a) x.key).run P w=.ok true w:=by rw[m];simpa [mR]using q
   simp[Instr.findAsking,b,Result.andThen]
  ·have b:(Op.equal f (mR a) x.key).run P w=.ok false w:=by rw[m];simpa [mR,hac]using q
   rcases abl r d hsz o l (i+1) (fun y g=>h y (ei _ g)) with ⟨h1,h2⟩|⟨k,e,h1,h2,h3⟩
   ·refine .inl ⟨?_,fun y g=>?_⟩
    ·simp[Instr.findAsking,b,h1,Result.andThen]
    ·rcases eC.1 g with rfl | g
     ·rw[m];intro e;unfold mR at e;cases e;exact hac rfl
     ·exact h2 y g
   ·refine .inr ⟨k+1,e,?_,by simpa using h2,h3⟩
    rw[show i+(k+1)=i+1+k by omega];simp[Instr.findAsking,b,h1,Result.andThen]
theorem alC{P:Program}{c g:TypeId}{j:TypeInfo}(d:P.underlying c=some (.pointer g))(f:P.info? g=some j)(hsz:j.size≠0):uU P c mR (fun w a=>iU w a.block) where
 inj a b h:=by unfold mR at h;cases h;rfl
 check em w a:=by
  have h:∀n:Nat,(Instr.checkKey em (n+1) c (mR a)).run P w=.ok () w:=fun n=>by
   simp[Instr.checkKey,run_underlying d,mR]
  exact h 9999
 find w a l ha hl:=by
  cases l with
  |nil=>exact .inl ⟨by simp[Instr.findKey,Instr.findNow,run_underlying d],fun x h=>(by cases h)⟩
  |cons x l=>
   have m:Instr.findNow (.pointer g) (mR a) (x::l) 0=none:=by
    unfold Instr.findNow mR Instr.sameNow;rfl
   have h1:=abl d f hsz ha (x::l) 0 hl;have i:(Instr.findKey c (mR a) (x::l)).run P w=(Instr.findAsking c (mR a) (x::l) 0).run P w:=by
    simp[Instr.findKey,run_underlying d,m]
   rw[i];rcases h1 with h1|⟨k,e,h1,h2,h3⟩
   ·exact .inl h1
   ·rw[fk]at h1
    exact .inr ⟨k,e,h1,h2,h3⟩
 stays w a:=by simp[Instr.keyThatStays,Instr.sameBits,mR]
theorem Tryz.aj0:prog.underlying 260=some (.pointer 262):=by kernel_rfl
theorem Tryz.ac9:prog.underlying 196=some (.map 260 3):=by kernel_rfl
theorem Tryz.aj1:(prog.info? 262).map (fun i=>i.size)=some 4:=by kernel_rfl
theorem Tryz.aem:uU prog 260 mR (fun w a=>iU w a.block):=by
 have h:=Tryz.aj1;cases hi:prog.info? 262 with
 |none=>rw[hi]at h;cases h
 |some j=>
  rw[hi]at h;have b:j.size=4:=by simpa using h
  exact alC Tryz.aj0 hi (by omega)
def tQ(G:Nat->Prop)(w:World)(B:Nat)(f:Addr->Int):Prop:=dF mR (fun a=>G a.block) w B f
theorem tQ.look{G:Nat->Prop}{w:World}{B:Nat}{f:Addr->Int}(h:tQ G w B f)(d:∀b,G b->iU w b){a:Addr}(c:G a.block):(Instr.lookup 196 (.map (some B)) (.pointer (some a)) false).run prog w=.ok (.int .i64 (f a)) w:=dF.look Tryz.aem Tryz.ac9 Tryz.F5 (fun _ c=>d _ c) h c
theorem tQ.put{G:Nat->Prop}{w:World}{B:Nat}{f:Addr->Int}(h:tQ G w B f)(g:∀b,G b->iU w b){a:Addr}(d:G a.block)(v:Int):∃w',(Instr.mapUpdate 196 (.map (some B)) (.pointer (some a)) (.int .i64 v)).run prog w=.ok () w'/\tQ G w' B (fun c=>if c=a then v else f c)/\w.grownBy w' (some B)/\w'.heap.size=w.heap.size:=dF.put Tryz.aem Tryz.ac9 (fun _ d=>g _ d) h d v
structure pU(w:World)(n m:Nat)(it:Lx.It):Prop where
 kind:w.cell? ⟨n,m*4,none⟩=some (.int .i64 (it.kind:Int))
 name:w.cell? ⟨n,m*4+1,none⟩=some (.string it.name)
 mark:w.cell? ⟨n,m*4+2,none⟩=some (.int .u8 (it.mark:Int))
def MZ(d:Nat):Prop:=∀(nw nv:Nat)(caps:Array Value)(wd:Lx.It->Bool)(F:Nat->Prop)(w0:World)(I:List AI->World->Prop)(Q:AI->Prop),
 (∀(ar:Array Value)(w:World),(callFunc nw ar).run prog w=.ok (.enter nw ar) w)->(∀(ar:Array Value)(w:World),(callFunc nv ar).run prog w=.ok (.enter nv ar) w) ->
 (∀(w':World)(n m:Nat)(it:Lx.It),F n->pU w' n m it->Calls prog nw #[.pointer (some ⟨n,m*4,none⟩)] w' fun e w''=>e=.returned (.bool (wd it))/\w''=w') ->
 (∀(w':World)(L:List AI)(n m:Nat)(it:Lx.It),I L w'->F n->pU w' n m it->wd it=true->Q (⟨n,m*4,none⟩,it)->Calls prog nv (#[.pointer (some ⟨n,m*4,none⟩)]++caps) w' fun e w''=>e=.returned (.tuple #[])/\I (L++[(⟨n,m*4,none⟩,it)]) w'') ->
 (∀(L:List AI)(w':World),I L w'->∀b,F b->w'.heap[b]?=w0.heap[b]?) ->
 ∀(v:Value)(l:List Lx.Alt),aO YP d F w0 v l->(∀p∈aL d w0 v l,Q p)->∀(w:World)(L:List AI),I L w ->
 Calls prog 118 #[v,.func (.func nw) #[] #[],.func (.func nv) #[] caps] w fun e w'=>e=.returned (.tuple #[])/\I (L++(aL d w0 v l).filter fun p=>wd p.2) w'
theorem aiK:MZ 0:=by
 intro nw p a wd F g I Q b c n m o v l d j w L f;obtain⟨rfl,rfl⟩:=d;go_enter func118,ntmps118;go_wp2_with fail
 go_loopg [11] 0 (fun k i wr=>k=0/\i=.int .i64 0/\wr=w)
 case atStart=>exact⟨rfl,rfl,rfl⟩
 case round=>
  obtain⟨rfl,rfl,rfl⟩:=hrel;go_wp2_with fail
  go_end0
  refine⟨rfl,?_⟩;rw[show aL 0 g (.slice none 0 0) []=[] from rfl,t8,eV];exact f
theorem aiL{d:Nat}(IH:MZ d):MZ (d+1):=by
 intro nw nv z wd F a I Q J H hw hv R v l hl hq w L hI;obtain⟨u,A,r,hm⟩:=aO.len hl;subst r;unfold maxLen at hm;obtain⟨T,hT⟩:∃T,T=L++(aL (d+1) a (.slice u l.length A) l).filter (fun p=>wd p.2):=⟨_,rfl⟩;rw[<-hT];go_enter func118,ntmps118;go_wp2_with fail;have e0:aL (d+1) a (.slice u l.length A) l=dU (aL d a) a (aU (.slice u l.length A)) 0 (l.drop 0):=rfl;have H0:Hid (T=L++(dU (aL d a) a (aU (.slice u l.length A)) 0 (l.drop 0)).filter (fun p=>wd p.2)):=by show _=_;rw[hT,e0]
 rw[e0]at hq;clear e0;clear hT
 go_loopg [11] l.length (fun k i wr=>∃(j:Nat)(L':List AI),j+k=l.length/\i=.int .i64 j/\I L' wr/\(∀p∈dU (aL d a) a (aU (.slice u l.length A)) j (l.drop j),Q p)/\Hid (T=L'++(dU (aL d a) a (aU (.slice u l.length A)) j (l.drop j)).filter (fun p=>wd p.2)))
 case atStart=>exact⟨0,L,by omega,rfl,hI,hq,H0⟩
 case round=>
  clear H0 hq hI;revert wr;intro wz hrel;obtain⟨j,L1,hk,rfl,U,y,W⟩:=hrel
  by_cases hlt:j<l.length
  ·obtain⟨o,ag,vi,r,hg,hi,V⟩:=Seq.at hl (fun _=>rfl) hlt
   cases r;have c:=W.out;have M:cv a ⟨o,j*2,none⟩=vi:=by unfold cv;rw[show a.cell? ⟨o,j*2,none⟩=some vi from V 0 (by decide)];rfl
   rw[YH hlt,show aU (.slice (some ⟨o,0,none⟩) l.length A)=o from rfl,M]at c y;generalize l[j]=x at hi V c y;obtain⟨its,prec,pa⟩:=x;have ae:jH YP d F a vi its:=hi;obtain⟨G,E,rz,ad⟩:=Seq.len hi;subst rz;unfold maxLen at ad;have c0:wz.cell? ⟨o,j*2,none⟩=some (.slice G its.length E):=(cM (w:=a) (R _ _ U o hg)).trans (V 0 (by decide));have t:Hid (T=L1++(eP (aL d a) a (aU (.slice G its.length E)) 0 (its.drop 0)++dU (aL d a) a o (j+1) (l.drop (j+1))).filter (fun p=>wd p.2)):=c;have JS:∀p∈eP (aL d a) a (aU (.slice G its.length E)) 0 (its.drop 0)++dU (aL d a) a o (j+1) (l.drop (j+1)),Q p:=y;clear V c W y M hi;go_wp2_with fail
   go_loopg [21] its.length (fun k i wr=>∃(m:Nat)(L':List AI),m+k=its.length/\i=.int .i64 m/\I L' wr/\(∀p∈eP (aL d a) a (aU (.slice G its.length E)) m (its.drop m)++dU (aL d a) a o (j+1) (l.drop (j+1)),Q p)/\Hid (T=L'++(eP (aL d a) a (aU (.slice G its.length E)) m (its.drop m)++dU (aL d a) a o (j+1) (l.drop (j+1))).filter (fun p=>wd p.2)))
   case atStart=>exact⟨0,L1,by omega,rfl,U,JS,t⟩
   case round=>
    clear t JS U c0;obtain⟨m,X,af,rfl,S,f,HR⟩:=hrel
    by_cases Ak:m<its.length
    ·have B:=ae
     unfold jH wV at B;obtain⟨n,Ec,u,r,Z,Y,g⟩:=Seq.at B (fun _=>rfl) Ak;cases r;have b:=HR.out;have M:cv a ⟨n,m*4+3,none⟩=u:=by unfold cv;rw[show a.cell? ⟨n,m*4+3,none⟩=some u from g 3 (by decide)];rfl
     rw[Yh Ak,show aU (.slice (some ⟨n,0,none⟩) its.length E)=n from rfl,M]at b f;generalize its[m]=it at Y g b f;obtain⟨P,K,aa,-⟩:=aO.len Y;subst aa;have en:wr.heap[n]?=a.heap[n]?:=R _ _ S n Z;have N:pU wr n m it:=⟨(cM (w:=a) en).trans (g 0 (by decide)),(cM (w:=a) en).trans (g 1 (by decide)),(cM (w:=a) en).trans (g 2 (by decide))⟩;have Vp:Q (⟨n,m*4,none⟩,it):=f _ (by simp);have Kq:∀p∈aL d a (.slice P it.alts.length K) it.alts,Q p:=fun p D=>f p (by simp[D])
     have Kr:∀p∈eP (aL d a) a n (m+1) (its.drop (m+1))++dU (aL d a) a o (j+1) (l.drop (j+1)),Q p:=fun p D=>f p (by
      rcases cY.1 D with D|D
      ·simp[D]
      ·simp[D])
     clear f B HR M;go_wp2_with fail;refine(hw wr n m it Z N).mono ?_;rintro e w1⟨rfl,ac⟩;obtain rfl:=ac.symm;cases hwd:wd it with
     |true=>
      have ah:Hid (wd it=true):=hwd;have q:T=(X++[(⟨n,m*4,none⟩,it)])++((aL d a (.slice P it.alts.length K) it.alts).filter (fun p=>wd p.2)++(eP (aL d a) a n (m+1) (its.drop (m+1))++dU (aL d a) a o (j+1) (l.drop (j+1))).filter (fun p=>wd p.2)):=by
       rw[b];simp[hwd,List.append_assoc]
      have C:Hid _:=q;have q1:=hv wr X n m it S Z N hwd Vp;clear b q hwd;go_wp2_with fail;refine q1.mono ?_;rintro e w2⟨rfl,O⟩;have Vq:w2.heap[n]?=a.heap[n]?:=R _ _ O n Z;have y3:w2.cell? ⟨n,m*4+3,none⟩=some (.slice P it.alts.length K):=(cM (w:=a) Vq).trans (g 3 (by decide));go_wp2_with fail;refine(IH nw nv z wd F a I Q J H hw hv R _ _ Y Kq w2 _ O).mono ?_;rintro e w3⟨rfl,Ep⟩;have s:Hid _:=C.out;rw[<-dq]at s;go_wp2_with fail;go_roundg (its.length - (m+1))
      case measure=>omega
      case rel=>exact⟨m+1,_,by omega,by go_num,Ep,Kr,s⟩
     |false=>
      have q:T=X++((aL d a (.slice P it.alts.length K) it.alts).filter (fun p=>wd p.2)++(eP (aL d a) a n (m+1) (its.drop (m+1))++dU (aL d a) a o (j+1) (l.drop (j+1))).filter (fun p=>wd p.2)):=by
       rw[b];simp[hwd,List.append_assoc]
      have C:Hid _:=q;clear b q hwd;have y3:wr.cell? ⟨n,m*4+3,none⟩=some (.slice P it.alts.length K):=(cM (w:=a) en).trans (g 3 (by decide));go_wp2_with fail;refine(IH nw nv z wd F a I Q J H hw hv R _ _ Y Kq wr _ S).mono ?_;rintro e w3⟨rfl,Ep⟩;have s:Hid _:=C.out;rw[<-dq]at s;go_wp2_with fail;go_roundg (its.length - (m+1))
      case measure=>omega
      case rel=>exact⟨m+1,_,by omega,by go_num,Ep,Kr,s⟩
    ·have:m=its.length:=by omega
     subst this;have b:=HR.out;rw[io,eP,g8]at b f;have ab:Hid _:=b;clear b HR;go_wp2_with fail;go_roundg (l.length - (j+1))
     case measure=>omega
     case rel=>exact⟨j+1,X,by omega,by go_num,S,f,ab⟩
  ·have:j=l.length:=by omega
   subst this;have c:=W.out;rw[io,dU,t8,eV]at c;have t:Hid _:=c;clear c W;go_wp2_with fail
   go_end0
   refine⟨rfl,?_⟩;rw[t.out];exact U
theorem ab5:∀d,MZ d
 |0=>aiK
 |d+1=>aiL (ab5 d)
def Nu(d:Nat):Prop:=∀(nw nv:Nat)(fst caps:Array Value)(wd:Lx.It->Bool)(F:Nat->Prop)(w0:World)(I:List AI->World->Prop)(Q:AI->Prop)(Er:List AI),
 (∀(ar:Array Value)(w:World),(callFunc nw ar).run prog w=.ok (.enter nw ar) w)->(∀(ar:Array Value)(w:World),(callFunc nv ar).run prog w=.ok (.enter nv ar) w) ->
 (∀(w':World)(n m:Nat)(it:Lx.It),F n->pU w' n m it->Calls prog nw #[.pointer (some ⟨n,m*4,none⟩)] w' fun e w''=>e=.returned (.bool (wd it))/\w''=w') ->
 (∀(w':World)(L:List AI)(n m:Nat)(it:Lx.It),I L w'->F n->pU w' n m it->wd it=true->Q (⟨n,m*4,none⟩,it)->(∃R,Er=L++((⟨n,m*4,none⟩,it)::R))->Calls prog nv (fst++#[.pointer (some ⟨n,m*4,none⟩)]++caps) w' fun e w''=>e=.returned (.tuple #[])/\I (L++[(⟨n,m*4,none⟩,it)]) w'') ->
 (∀(L:List AI)(w':World),I L w'->∀b,F b->w'.heap[b]?=w0.heap[b]?) ->
 ∀(v:Value)(l:List Lx.Alt),aO YP d F w0 v l->(∀p∈aL d w0 v l,Q p)->∀(w:World)(L:List AI),I L w->(∃R,Er=(L++(aL d w0 v l).filter fun p=>wd p.2)++R) ->
 Calls prog 118 #[v,.func (.func nw) #[] #[],.func (.func nv) fst caps] w fun e w'=>e=.returned (.tuple #[])/\I (L++(aL d w0 v l).filter fun p=>wd p.2) w'
theorem ahy:Nu 0:=by
 intro nw s g a wd F j I Q n b c q p r v l d o w L f m;obtain⟨rfl,rfl⟩:=d;go_enter func118,ntmps118;go_wp2_with fail
 go_loopg [11] 0 (fun k i wr=>k=0/\i=.int .i64 0/\wr=w)
 case atStart=>exact⟨rfl,rfl,rfl⟩
 case round=>
  obtain⟨rfl,rfl,rfl⟩:=hrel;go_wp2_with fail
  go_end0
  refine⟨rfl,?_⟩;rw[show aL 0 j (.slice none 0 0) []=[] from rfl,t8,eV];exact f
theorem ahz{d:Nat}(IH:Nu d):Nu (d+1):=by
 intro nw nv K A wd F a I Q Er N J hw hv V v l hl hq w L hI M;obtain⟨y,B,s,hm⟩:=aO.len hl;subst s;unfold maxLen at hm;obtain⟨T,hT⟩:∃T,T=L++(aL (d+1) a (.slice y l.length B) l).filter (fun p=>wd p.2):=⟨_,rfl⟩;rw[<-hT]at M|-;obtain⟨R0,M⟩:=M;have Un:Hid (Er=T++R0):=M;clear M;go_enter func118,ntmps118;go_wp2_with fail;have e0:aL (d+1) a (.slice y l.length B) l=dU (aL d a) a (aU (.slice y l.length B)) 0 (l.drop 0):=rfl;have H0:Hid (T=L++(dU (aL d a) a (aU (.slice y l.length B)) 0 (l.drop 0)).filter (fun p=>wd p.2)):=by show _=_;rw[hT,e0]
 rw[e0]at hq;clear e0;clear hT
 go_loopg [11] l.length (fun k i wr=>∃(j:Nat)(L':List AI),j+k=l.length/\i=.int .i64 j/\I L' wr/\(∀p∈dU (aL d a) a (aU (.slice y l.length B)) j (l.drop j),Q p)/\Hid (T=L'++(dU (aL d a) a (aU (.slice y l.length B)) j (l.drop j)).filter (fun p=>wd p.2)))
 case atStart=>exact⟨0,L,by omega,rfl,hI,hq,H0⟩
 case round=>
  clear H0 hq hI;revert wr;intro wz hrel;obtain⟨j,L1,hk,rfl,X,z,Z⟩:=hrel
  by_cases hlt:j<l.length
  ·obtain⟨o,ag,vi,s,hg,hi,Y⟩:=Seq.at hl (fun _=>rfl) hlt
   cases s;have c:=Z.out;have P:cv a ⟨o,j*2,none⟩=vi:=by unfold cv;rw[show a.cell? ⟨o,j*2,none⟩=some vi from Y 0 (by decide)];rfl
   rw[YH hlt,show aU (.slice (some ⟨o,0,none⟩) l.length B)=o from rfl,P]at c z;generalize l[j]=x at hi Y c z;obtain⟨its,prec,pa⟩:=x;have ae:jH YP d F a vi its:=hi;obtain⟨H,G,rz,ad⟩:=Seq.len hi;subst rz;unfold maxLen at ad;have c0:wz.cell? ⟨o,j*2,none⟩=some (.slice H its.length G):=(cM (w:=a) (V _ _ X o hg)).trans (Y 0 (by decide));have u:Hid (T=L1++(eP (aL d a) a (aU (.slice H its.length G)) 0 (its.drop 0)++dU (aL d a) a o (j+1) (l.drop (j+1))).filter (fun p=>wd p.2)):=c;have JS:∀p∈eP (aL d a) a (aU (.slice H its.length G)) 0 (its.drop 0)++dU (aL d a) a o (j+1) (l.drop (j+1)),Q p:=z;clear Y c Z z P hi;go_wp2_with fail
   go_loopg [21] its.length (fun k i wr=>∃(m:Nat)(L':List AI),m+k=its.length/\i=.int .i64 m/\I L' wr/\(∀p∈eP (aL d a) a (aU (.slice H its.length G)) m (its.drop m)++dU (aL d a) a o (j+1) (l.drop (j+1)),Q p)/\Hid (T=L'++(eP (aL d a) a (aU (.slice H its.length G)) m (its.drop m)++dU (aL d a) a o (j+1) (l.drop (j+1))).filter (fun p=>wd p.2)))
   case atStart=>exact⟨0,L1,by omega,rfl,X,JS,u⟩
   case round=>
    clear u JS X c0;obtain⟨m,E,af,rfl,W,f,HR⟩:=hrel
    by_cases Ak:m<its.length
    ·have C:=ae
     unfold jH wV at C;obtain⟨n,Ec,y,s,hn,ha,g⟩:=Seq.at C (fun _=>rfl) Ak;cases s;have b:=HR.out;have P:cv a ⟨n,m*4+3,none⟩=y:=by unfold cv;rw[show a.cell? ⟨n,m*4+3,none⟩=some y from g 3 (by decide)];rfl
     rw[Yh Ak,show aU (.slice (some ⟨n,0,none⟩) its.length G)=n from rfl,P]at b f;generalize its[m]=it at ha g b f;obtain⟨U,O,aa,-⟩:=aO.len ha;subst aa;have en:wr.heap[n]?=a.heap[n]?:=V _ _ W n hn;have R:pU wr n m it:=⟨(cM (w:=a) en).trans (g 0 (by decide)),(cM (w:=a) en).trans (g 1 (by decide)),(cM (w:=a) en).trans (g 2 (by decide))⟩;have Vp:Q (⟨n,m*4,none⟩,it):=f _ (by simp);have Kq:∀p∈aL d a (.slice U it.alts.length O) it.alts,Q p:=fun p D=>f p (by simp[D])
     have Kr:∀p∈eP (aL d a) a n (m+1) (its.drop (m+1))++dU (aL d a) a o (j+1) (l.drop (j+1)),Q p:=fun p D=>f p (by
      rcases cY.1 D with D|D
      ·simp[D]
      ·simp[D])
     clear f C HR P;go_wp2_with fail;refine(hw wr n m it hn R).mono ?_;rintro e w1⟨rfl,ac⟩;obtain rfl:=ac.symm;cases hwd:wd it with
     |true=>
      have ah:Hid (wd it=true):=hwd;have q:T=(E++[(⟨n,m*4,none⟩,it)])++((aL d a (.slice U it.alts.length O) it.alts).filter (fun p=>wd p.2)++(eP (aL d a) a n (m+1) (its.drop (m+1))++dU (aL d a) a o (j+1) (l.drop (j+1))).filter (fun p=>wd p.2)):=by
       rw[b];simp[hwd,List.append_assoc]
      have r:Hid _:=q;have q1:=hv wr E n m it W hn R hwd Vp ⟨_,by rw[Un.out,q,dq,dq];rfl⟩;clear b q hwd;go_wp2_with fail;refine q1.mono ?_;rintro e w2⟨rfl,S⟩;have Vq:w2.heap[n]?=a.heap[n]?:=V _ _ S n hn;have y3:w2.cell? ⟨n,m*4+3,none⟩=some (.slice U it.alts.length O):=(cM (w:=a) Vq).trans (g 3 (by decide));go_wp2_with fail;refine(IH nw nv K A wd F a I Q Er N J hw hv V _ _ ha Kq w2 _ S ⟨_,by rw[Un.out,r.out,<-dq (E++_),dq (_++List.filter _ _)]⟩).mono ?_;rintro e w3⟨rfl,Ep⟩;have t:Hid _:=r.out;rw[<-dq]at t;go_wp2_with fail;go_roundg (its.length - (m+1))
      case measure=>omega
      case rel=>exact⟨m+1,_,by omega,by go_num,Ep,Kr,t⟩
     |false=>
      have q:T=E++((aL d a (.slice U it.alts.length O) it.alts).filter (fun p=>wd p.2)++(eP (aL d a) a n (m+1) (its.drop (m+1))++dU (aL d a) a o (j+1) (l.drop (j+1))).filter (fun p=>wd p.2)):=by
       rw[b];simp[hwd,List.append_assoc]
      have r:Hid _:=q;clear b q hwd;have y3:wr.cell? ⟨n,m*4+3,none⟩=some (.slice U it.alts.length O):=(cM (w:=a) en).trans (g 3 (by decide));go_wp2_with fail;refine(IH nw nv K A wd F a I Q Er N J hw hv V _ _ ha Kq wr _ W ⟨_,by rw[Un.out,r.out,<-dq E,dq (_++List.filter _ _)]⟩).mono ?_;rintro e w3⟨rfl,Ep⟩;have t:Hid _:=r.out;rw[<-dq]at t;go_wp2_with fail;go_roundg (its.length - (m+1))
      case measure=>omega
      case rel=>exact⟨m+1,_,by omega,by go_num,Ep,Kr,t⟩
    ·have:m=its.length:=by omega
     subst this;have b:=HR.out;rw[io,eP,g8]at b f;have ab:Hid _:=b;clear b HR;go_wp2_with fail;go_roundg (l.length - (j+1))
     case measure=>omega
     case rel=>exact⟨j+1,E,by omega,by go_num,W,f,ab⟩
  ·have:j=l.length:=by omega
   subst this;have c:=Z.out;rw[io,dU,t8,eV]at c;have u:Hid _:=c;clear c Z;go_wp2_with fail
   go_end0
   refine⟨rfl,?_⟩;rw[u.out];exact X
theorem Sd:∀d,Nu d
 |0=>ahy
 |d+1=>ahz (Sd d)
theorem aO.up{Y:Lay}{F:Nat->Prop}{w:World}:∀{d:Nat}{v:Value}{l:List Lx.Alt},aO Y d F w v l->aO Y (d+1) F w v l
 |0,_,_,h=>by obtain⟨rfl,rfl⟩:=h;exact aO.nil _ _ _ _
 |d+1,_,_,h=>Seq.move (K:=fun b(a:Lx.Alt)=>wV Y (aO Y d F w) F w b a.1) h (fun _ _=>rfl) (fun _ h=>h) fun _ _ c=>Seq.move (K:=fun i(g:Lx.It)=>aO Y d F w i g.alts) c (fun _ _=>rfl) (fun _ h=>h) fun _ _ f=>aO.up f
theorem aar(n:Nat):(Gf n).size<=n+1:=by
 show ((Lib.decDigits n).toArray).size<=n+1;rw[ld]
 induction n using Nat.strongRecOn with
 |_ n IH=>
  rw[Lib.decDigits]
  split
  ·simp
  ·have:=IH (n / 10) (by omega)
   rw[cH,gd];omega
def dK(r:List Nat):List Value:=r.map fun(s:Nat)=>.int .i64 (s:Int)
theorem Dx(r:List Nat):(dK r).length=r.length:=by simp[dK]
theorem Fv(a b:List Nat):dK (a++b)=dK a++dK b:=by simp[dK]
theorem aiM(r:List Nat):∀u∈dK r,u.oneCell'=true:=by
 intro u a;obtain⟨s,-,rfl⟩:=ee.1 a;rfl
theorem aiN{r:List Nat}{j:Nat}(h:j<r.length):(dK r)[j]?=some (.int .i64 (r[j]:Int)):=by simp[dK,h]
def IR(B:Nat)(w:World)(v:Value)(r:List Nat):Prop:=w.ownsRow B 3 1 v r.length (dK r)
def Lx.Af(T N:List ByteArray)(it:Lx.It):Prop:=if it.kind=1 then 0<=bZ T it.name else 0<=bZ N it.name
section
open Go.RowKit
open Lx (Tk)
open Tr
theorem Tryz.info3:(prog.info? 3).map (fun i=>(i.zero,i.size,i.bytes))=some (some (.int .i64 0),1,8):=by kernel_rfl
end
theorem agC{w:World}{n m:Nat}{a:Lx.It}(h:pU w n m a):Calls prog 119 #[.pointer (some ⟨n,m*4,none⟩)] w fun e w'=>e=.returned (.bool (decide (a.kind=0)))/\w'=w:=by
 have c:=h.kind;go_enter func119,ntmps119
 by_cases hk:a.kind=0
 ·have b:((a.kind:Int) == 0)=true:=by simp[hk]
  rw[fi hk];clear hk;go_wp2_with fail;go_ret;exact⟨rfl,rfl⟩
 ·have b:((a.kind:Int) == 0)=false:=zB0 (by omega)
  rw[eE hk];clear hk;go_wp2_with fail;go_ret;exact⟨rfl,rfl⟩
namespace Lx
def vis(names:List ByteArray)(s:List Bool×List Nat)(nm:ByteArray):List Bool×List Nat:=if aK s.1 (fix names nm)=true then s else (s.1.set (fix names nm) true,s.2++[fix names nm])
end Lx
structure RS(lo n B:Nat)(num:ByteArray->Int)(w0 w:World)(s:List Bool×List Nat):Prop where
 nb:aj w lo #[.map (some B)] 155
 mp:SMap w B num
 bl:B<lo
 fo:aj w (lo+1) (bG s.1) 4
 fv:aj w (lo+2) #[.slice (some ⟨lo+1,0,none⟩) n n] 142
 ov:∃vo,aj w (lo+4) #[vo] 22/\w.ownsRow 0 3 1 vo s.2.length (dK s.2)/\∀g,vo.ownBlock=some g->g=lo+3\/lo+5<=g
 len:Hid (s.1.length=n)
 fr:Below lo w0 w
theorem agD{c n B:Nat}{num:ByteArray->Int}{w0 w:World}{s:List Bool×List Nat}(h:RS c n B num w0 w s){a m:Nat}{f:Lx.It}(hi:pU w a m f){b:List ByteArray}(hq:num f.name=(Lx.fix b f.name:Int))(hl:Lx.fix b f.name<n)(ad:s.2.length<=10000):
  Calls prog 120 #[.pointer (some ⟨a,m*4,none⟩),.pointer (some ⟨c,0,none⟩),.pointer (some ⟨c+2,0,none⟩),.pointer (some ⟨c+4,0,none⟩)] w fun e w'=>e=.returned (.tuple #[])/\RS c n B num w0 w' (Lx.vis b s f.name):=by
 obtain⟨i3,R,Ed,Ee,v⟩:=ft Tryz.info3;obtain⟨h1,h2,h3,h4,h5,⟨Y,h6,h7,x⟩,K,F⟩:=h;have E:SMap w.drew B num:=h2.move rfl;have D:=E.look f.name;rw[hq]at D;have x1:=hi.name;have c0:w.cell? ⟨c,0,none⟩=some (.map (some B)):=h1.cell 0;go_enter func120,ntmps120;go_wp2_with fail
 go_region
 all_goals
  have d:Lx.vis b s f.name=if aK s.1 (Lx.fix b f.name)=true then s else (s.1.set (Lx.fix b f.name) true,s.2++[Lx.fix b f.name]):=rfl
  have I:Hid _:=d;have O:Lx.fix b f.name<s.1.length:=by have:=K.out;omega
  clear d;obtain⟨wd,o⟩:∃wd,wd=w.drew:=⟨_,rfl⟩;rw[<-o];have u:wd.heap=w.heap:=by rw[o];rfl
  have G:Below c w0 wd:=by rw[o];exact F.drew
  have A:aj wd c #[.map (some B)] 155:=by unfold aj;rw[u];exact h1
  have C:SMap wd B num:=h2.move (by rw[u]);have z:aj wd (c+1) (bG s.1) 4:=by unfold aj;rw[u];exact h4
  have J:aj wd (c+2) #[.slice (some ⟨c+1,0,none⟩) n n] 142:=by unfold aj;rw[u];exact h5
  have U:aj wd (c+4) #[Y] 22:=by unfold aj;rw[u];exact h6
  have P:wd.ownsRow 0 3 1 Y s.2.length (dK s.2):=aD h7 fun g _=>by rw[u]
  have f0:wd.cell? ⟨c+2,0,none⟩=some (.slice (some ⟨c+1,0,none⟩) n n):=J.cell 0;have o1:wd.cell? ⟨c+1,Lx.fix b f.name,none⟩=some (.bool (aK s.1 (Lx.fix b f.name))):=(z.cell _).trans (qR s.1 O);have of:∀i,wd.frozen? ⟨c+1,i,none⟩=false:=z.frozen;have l1:=z.lt;have l2:=J.lt;have l4:=U.lt;have ae:Hid (Lx.fix b f.name<s.1.length):=O;clear o u h1 h2 E h4 h5 h6 h7 F x1 c0 D hq hi O;generalize Lx.fix b f.name=q at *;cases hb:aK s.1 q with
  |true=>
   have d:=I.out;rw[dj hb]at d;have T:Hid _:=d;rw[hb]at o1;clear d I hb;go_wp2_with fail
   go_end0
   refine⟨rfl,?_⟩;rw[T.out];exact⟨A,C,h3,z,J,⟨Y,U,P,x⟩,K,G⟩
  |false=>
   have d:=I.out;rw[dt (by rw[hb];decide)]at d;have T:Hid _:=d;rw[hb]at o1;clear d I hb;obtain⟨t,r,Es,Ku⟩:=aC P;subst Es;unfold maxLen at Ku;have H:aj (wd.setCell ⟨c+1,q,none⟩ (.bool true)) (c+4) #[.slice t s.2.length r] 22:=U.other (by omega) _;have ac:(wd.setCell ⟨c+1,q,none⟩ (.bool true)).cell? ⟨c+4,0,none⟩=some (.slice t s.2.length r):=H.cell 0;have X:(wd.setCell ⟨c+1,q,none⟩ (.bool true)).ownsRow 0 3 1 (.slice t s.2.length r) s.2.length (dK s.2):=aD P fun g j=>zS0 (fun e=>by have e':g=c+1:=e;rcases x g j with h|h <;> omega)
   have M:aj (wd.setCell ⟨c+1,q,none⟩ (.bool true)) (c+1) (bG (s.1.set q true)) 4:=by rw[<-Dw];exact z.set q _
   have y:(wd.setCell ⟨c+1,q,none⟩ (.bool true)).heap.size=wd.heap.size:=by simp[World.setCell]
   have S:aj ((wd.setCell ⟨c+1,q,none⟩ (.bool true)).alloc (.cells #[.int .i64 (q:Int)] 3)) wd.heap.size #[.int .i64 (q:Int)] 3:=by rw[<-y];exact aj.new _ _ 3
   have Q:(Value.slice t s.2.length r).ownBlock≠some (c+4):=fun e=>by rcases x _ e with h | h <;> omega
   go_wp2_with (at_builtin;go_loud (refine js _ rfl _ _ 22 rfl 0 3 i3 _ 1 8 underlying22 R Ed Ee v rfl (by decide) (.slice t s.2.length r) _ _ rfl (X.alloc _) ⟨_,0,none⟩ 1 1 [.int .i64 (q:Int)] rfl rfl (eO S) (by simp[Value.oneCell']) (by unfold maxLen;omega) (by omega) (by simp) ?_;intro v5 V k p _ jc;obtain⟨mG,mH,aa,-⟩:=aC k;subst aa;have Z:=(H.alloc (.cells #[.int .i64 (q:Int)] 3)).grown p (fun e=>Q e.symm);have af:V.cell? ⟨c+4,0,none⟩=some (.slice t s.2.length r):=Z.cell 0;have ab:∀i,V.frozen? ⟨c+4,i,none⟩=false:=Z.frozen))
   go_end0
   refine⟨rfl,?_⟩;rw[T.out];have bk:∀g,g<wd.heap.size->g≠c+4->g≠c+1->(Value.slice t s.2.length r).ownBlock≠some g->(V.setCell ⟨c+4,0,none⟩ (.slice mG (s.2.length+1) mH)).heap[g]?=wd.heap[g]?:=by
    intro g j W N hn;rw[zS0 W,p.block g (by simp[World.setCell];omega) (fun e=>hn e.symm),dg _ _ _ (by rw[y];exact j),zS0 N]
   have l:∀g,g<c+3->(Value.slice t s.2.length r).ownBlock≠some g:=fun g j e=>by rcases x _ e with h | h <;> omega
   have L:=p.size;simp only[World.size_alloc]at L;have xB:∀g,(Value.slice mG (s.2.length+1) mH).ownBlock=some g->g=c+3\/c+5<=g:=by
    intro g j;rcases jc with h|h
    ·exact x g (h▸j)
    ·rw[h]at j
     have e1:=ie j;have e2:g=wd.heap.size+1:=by rw[<-e1];simp[World.setCell]
     omega
   refine⟨?_,C.move (bk B (by omega) (by omega) (by omega) (l B (by omega))),h3,?_,?_,⟨_,Z.set 0 _,?_,xB⟩,?_,?_⟩
   ·exact(bk c (by omega) (by omega) (by omega) (l c (by omega))).trans A
   ·have k5:=(M.alloc (.cells #[.int .i64 (q:Int)] 3)).grown p (fun e=>l (c+1) (by omega) e.symm)
    exact k5.other (by omega) _
   ·exact(bk (c+2) (by omega) (by omega) (by omega) (l (c+2) (by omega))).trans J
   ·rw[cH,Fv]
    exact aD k fun g j=>zS0 (fun e=>by have e':g=c+4:=e;rcases xB g j with h|h <;> omega)
   ·show (s.1.set q true).length=n
    rw[ii];exact K.out
   ·refine G.trans ⟨?_,?_,?_,?_,fun g j=>bk g (by omega) (by omega) (by omega) (l g (by omega))⟩
    ·exact p.os
    ·exact p.tape
    ·exact p.output
    ·have:=p.size;simp[World.setCell]at this|-;omega
namespace Lx
def DW(T N:List ByteArray)(H:List It)(it:It):Prop:=if hlp it=true then Aj H it.place<H.length else Af T N it
theorem aj2{H:List It}(b:(H.map It.place).Pairwise (·< ·)){p k:Nat}(c:k<H.length)(a:Aj H p<H.length):H[k].place=p↔k=Aj H p:=by
 have h1:H[Aj H p].place=p:=by
  have:=pS (w:=a);exact iS this
 constructor
 ·intro h
  rcases Nat.lt_trichotomy k (Aj H p) with h2|h2|h2
  ·have:=List.not_of_lt_findIdx h2
   simp[h]at this
  ·exact h2
  ·exfalso
   have h3:=me.1 b (Aj H p) k (by simpa using a) (by simpa using c) h2;simp[h1,h]at h3
 ·rintro rfl;exact h1
end Lx
theorem IR.at{B:Nat}{w:World}{v:Value}{r:List Nat}(h:IR B w v r){j:Nat}(a:j<r.length):∃g cap,v=.slice (some ⟨g,0,none⟩) r.length cap/\g<w.heap.size/\w.cell? ⟨g,j,none⟩=some (.int .i64 (r[j]:Int)):=by
 unfold IR at h;obtain⟨g,cap,rfl,-,-⟩:=h.form (by omega);refine⟨g,cap,rfl,(h.lt g rfl).2,?_⟩;rw[h.cellAt j (by omega),aiN a]
namespace Lx
theorem ahA(l:List ByteArray)(b:ByteArray):(∀c∈l,c∈jJ l b)/\b∈jJ l b:=by
 unfold jJ
 split
 ·rename_i h;exact⟨fun _ h=>h,jI.1 h⟩
 ·exact⟨fun c h=>cY.2 (.inl h),cY.2 (.inr ed)⟩
theorem QS:∀(bs l:List ByteArray),(∀c∈l,c∈fZ l bs)/\∀b∈bs,b∈fZ l bs
 | [],l=>⟨fun _ h=>h,fun _ h=>by cases h⟩
 |b::bs,l=>by
  have h1:=ahA l b;have h2:=QS bs (jJ l b);refine⟨fun c a=>h2.1 c (h1.1 c a),fun c a=>?_⟩;rcases eC.1 a with rfl|a
  ·exact h2.1 _ h1.2
  ·exact h2.2 c a
theorem ab6{g:Gr}{b:ByteArray}(h:b∈lM g):0<=bZ (ay g) b:=jI.2 ((QS _ _).2 b (cY.2 (.inl h)))
theorem alD{g:Gr}{r:Rl}(a:r∈g.rules){x:It}(c:x∈dm 9 r.alts)(b:x.kind=1):0<=bZ (ay g) x.name:=by
 refine jI.2 ((QS _ _).2 _ (cY.2 (.inr (fW.2 ⟨r,a,?_⟩))));exact ee.2 ⟨x,hU.2 ⟨c,by simp[b]⟩,rfl⟩
theorem aiO{g:Gr}{b:ByteArray}(h:b∈bA g):0<=bZ (aS g) b:=by
 obtain⟨r,a,rfl⟩:=ee.1 h;exact jI.2 (ei _ (fW.2 ⟨r,a,ed⟩))
theorem Yi{g:Gr}{d:Nat}:∀{its:List It}{r:List Wd},unk g (its.flatMap (mQ d)++r)=none->(∀x∈its,(x.kind=0->0<=bZ (bA g) x.name)/\unk g (eZ d x.alts)=none)/\unk g r=none
 | [],r,h=>⟨fun _ h=>(by cases h),h⟩
 |x::its,r,h=>by
  rw[eh,dq]at h;obtain⟨h1,h2,h3⟩:=agz h;obtain⟨h4,b⟩:=Yi h3;refine⟨fun y a=>?_,b⟩;rcases eC.1 a with rfl|a
  ·exact⟨h1,h2⟩
  ·exact h4 y a
theorem QT{g:Gr}{d:Nat}:∀{l:List Alt},unk g (l.flatMap (DI d))=none->∀a∈l,(∀x∈a.1,(x.kind=0->0<=bZ (bA g) x.name)/\unk g (eZ d x.alts)=none)/\(a.2.1≠aW->lvls g a.2.1=true)
 | [],h,a,c=>by cases c
 |b::l,h,a,c=>by
  rw[eh,Zg,dq]at h;obtain⟨h1,h2⟩:=Yi h;have h3:=agA h2;rcases eC.1 c with rfl|c
  ·refine⟨h1,fun f=>?_⟩
   cases hq:lvls g a.2.1 with
   |true=>rfl
   |false=>rw[agy f hq]at h2;cases h2
  ·exact QT h3 a c
theorem Jd:∀{d:Nat}{g:Gr}{l:List Alt},unk g (eZ d l)=none->∀{x:It},x∈dm d l->x.kind=0->0<=bZ (bA g) x.name
 |0,g,l,h,x,b,hk=>by cases b
 |d+1,g,l,h,x,b,hk=>by
  obtain⟨a,c,z,f,b⟩:=FD.1 b;rw[IE]at h;obtain⟨h1,h2⟩:=(QT h a c).1 z f;rcases b with rfl|b
  ·exact h1 hk
  ·exact Jd h2 b hk
structure Fit(g:Gr):Prop where
 lv:∀l∈g.levels,Ou l
 rl:∀r∈g.rules,JR r
 ne:0<g.rules.length
 dp:∀r∈g.rules,Dp 9 r.alts
 sz:BQ g.levels+xg g.rules<=2001
 ris:((JQ g.rules).map It.place).Pairwise (·< ·)
 unk:uT g=none
 dup:Ai g=none
theorem Fit.Uo{g:Gr}(h:Fit g){r:Rl}(a:r∈g.rules):Lx.unk g (eZ 9 r.alts)=none:=MW h.unk r a
theorem Fit.plain{g:Gr}(h:Fit g){r:Rl}(a:r∈g.rules){x:It}(b:x∈dm 9 r.alts)(c:x.kind≠2):Af (ay g) (aS g) x:=by
 unfold Af
 split
 ·rename_i h1;exact alD a b h1
 ·rename_i h1
  rcases (h.rl r a).2.1 x b with h2|h2|h2
  ·exact aiO (jI.1 (Jd (h.Uo a) b h2.1))
  ·exact absurd h2.1 h1
  ·exact absurd h2 c
theorem ab7{H:List It}{x:It}(h:x∈H):Aj H x.place<H.length:=vp ⟨x,h,by simp⟩
theorem Fit.sym{g:Gr}(h:Fit g){r:Rl}(c:r∈g.rules){x:It}(b:x∈dm 9 r.alts):DW (ay g) (aS g) (bC 9 r.alts) x:=by
 unfold DW
 split
 ·rename_i a;exact ab7 (hU.2 ⟨b,a⟩)
 ·rename_i a
  refine h.plain c b fun d=>a ?_
  simp[hlp,d]
theorem Fit.prec{g:Gr}(h:Fit g){r:Rl}(c:r∈g.rules){a:Alt}(f:a∈r.alts)(b:a.2.1≠aW):0<=bZ (ay g) a.2.1:=by
 have h1:=(QT (d:=8) (h.Uo c) a f).2 b;rw[abb]at h1;exact ab6 (Bz.1 h1)
theorem Fit.size{g:Gr}(h:Fit g){r:Rl}(a:r∈g.rules):1+iN 9 r.alts<=2001:=by
 have h1:1+iN 9 r.alts<=xg g.rules:=Jc (fun r:Rl=>1+iN 9 r.alts) a;have:=h.sz;omega
theorem Fit.rise{g:Gr}(h:Fit g){r:Rl}(a:r∈g.rules):((bC 9 r.alts).map It.place).Pairwise (·< ·):=by
 refine h.ris.sublist (List.Sublist.map _ ?_);refine List.Sublist.trans List.filter_sublist ?_;unfold JQ;obtain⟨s,t,e⟩:=List.append_of_mem a;rw[e,gw,eh];exact List.Sublist.trans (xz _ _) (List.sublist_append_right _ _)
theorem Fit.rules{g:Gr}(h:Fit g):g.rules.length<=2001:=by
 have h1:g.rules.length<=xg g.rules:=FP (fun r:Rl=>1+iN 9 r.alts) fun _ _=>by omega
 have:=h.sz;omega
theorem ahB(g:Gr):(lM g).length<=BQ g.levels:=by
 unfold lM fD om BQ;rw[dk,qk]
 induction g.levels with
 |nil=>exact zL0
 |cons l ls ih=>simp only[List.map_cons,List.sum_cons,List.length_map]at ih|-;omega
theorem M6(rs:List Rl):(rs.flatMap fun r=>tH 9 r.alts).length<=xg rs:=by
 unfold xg;rw[qk]
 induction rs with
 |nil=>exact zL0
 |cons r rs ih=>
  have:=aiH 9 r.alts;simp only[List.map_cons,List.sum_cons]at ih|-;omega
theorem Fj(r:Rl):(jQ r).length=1+(bC 9 r.alts).length:=by simp[jQ];omega
theorem aiP(rs:List Rl):(rs.flatMap jQ).length<=xg rs:=by
 unfold xg;rw[qk]
 induction rs with
 |nil=>exact zL0
 |cons r rs ih=>
  have:=abe 9 r.alts;have:=Fj r;simp only[List.map_cons,List.sum_cons]at ih|-;omega
theorem Fit.xE{g:Gr}(h:Fit g):(ay g).length<=2002:=by
 have h1:=YD (lM g++g.rules.flatMap fun r=>tH 9 r.alts) [jX];have h2:=ahB g;have h3:=M6 g.rules;have:=h.sz;rw[cH]at h1;unfold ay;simp only[List.length_cons,List.length_nil]at h1;omega
theorem Fit.Cg{g:Gr}(h:Fit g):(aS g).length<=2002:=by
 have h3:=aiP g.rules;have:=h.sz;unfold aS;rw[ev];omega
theorem YI{T N:List ByteArray}{b:Nat}{H:List It}{x:It}{n:Nat}(h:x.alts.length<=n)(a:1<=n):(partsOf T N b H x).length<=n:=by
 unfold partsOf;split
 ·rw[dk];exact h
 ·exact a
theorem ahC(n s m:Nat)(a:List (List Nat)):(ou n s m a).length<=1+2*a.length:=by
 unfold ou;rw[cH,cH]
 split <;> split <;> split <;> simp <;> omega
theorem QU{T N:List ByteArray}{b:Nat}{H:List It}{n:Nat}(a:1<=n):∀(l:List It)(k:Nat),(∀x∈l,x.alts.length<=n)->(oV T N b H k l).length<=l.length*(1+2*n)
 | [],_,_=>ff _
 |x::l,k,h=>by
  rw[oV,cH,ev,mf];have h1:=ahC T.length (b+1+k) x.mark (partsOf T N b H x);have h2:=YI (T:=T) (N:=N) (b:=b) (H:=H) (h x ed) a;have h3:=QU (T:=T) (N:=N) (b:=b) (H:=H) a l (k+1) fun y c=>h y (ei _ c)
  omega
theorem Fit.its{g:Gr}(h:Fit g){r:Rl}(b:r∈g.rules){x:It}(c:x∈dm 9 r.alts):x.alts.length<=2001/\∀a∈x.alts,a.1.length<=2001:=by
 have h1:=abk (h.dp r b) c;have h2:=h.size b;exact⟨by omega,fun a d=>by have:=h1.2 a d;omega⟩
theorem Fit.alts{g:Gr}(h:Fit g){r:Rl}(b:r∈g.rules):r.alts.length<=2001/\∀a∈r.alts,a.1.length<=2001:=by
 have h1:=aao (h.dp r b);have h2:=h.size b;exact⟨by omega,fun a c=>by have:=h1.2 a c;omega⟩
theorem Fit.Uq{g:Gr}(h:Fit g){r:Rl}(a:r∈g.rules):(bC 9 r.alts).length<=2001:=by
 have h1:=abe 9 r.alts;have h2:=h.size a;omega
theorem Fit.ano{g:Gr}(h:Fit g){r:Rl}(a:r∈g.rules)(T N:List ByteArray)(b:Nat):(tu T N b r).length<=10000000:=by
 unfold tu;rw[cH,dk];have h1:=QU (T:=T) (N:=N) (b:=b) (H:=bC 9 r.alts) (n:=2001) (by omega) (bC 9 r.alts) 0 fun x c=>(h.its a (hU.1 c).1).1
 have h2:=(h.alts a).1;have h3:=h.Uq a;have h4:(bC 9 r.alts).length*(1+2*2001)<=2001*(1+2*2001):=jj _ h3;omega
end Lx
theorem QF{w:World}{n m:Nat}{a:Lx.It}(h:pU w n m a):Calls prog 124 #[.pointer (some ⟨n,m*4,none⟩)] w fun e w'=>e=.returned (.bool (Lx.hlp a))/\w'=w:=by
 have f:=h.kind;have h2:=h.mark;go_enter func124,ntmps124
 by_cases hk:a.kind=2
 ·have c:((a.kind:Int) == 2)=true:=by simp[hk]
  have b:Lx.hlp a=true:=by simp[Lx.hlp,hk]
  rw[b];clear hk b;go_wp2_with fail;go_ret;exact⟨rfl,rfl⟩
 ·have c:((a.kind:Int) == 2)=false:=zB0 (by omega)
  by_cases hm:a.mark=0
  ·have d:((a.mark:Int) != 0)=false:=by simp[hm]
   have b:Lx.hlp a=false:=by simp[Lx.hlp,hk,hm]
   rw[b];clear hk b hm;go_wp2_with fail;go_ret;exact⟨rfl,rfl⟩
  ·have d:((a.mark:Int) != 0)=true:=lh.2 (by omega)
   have b:Lx.hlp a=true:=by simp[Lx.hlp,hk,hm]
   rw[b];clear hk b hm;go_wp2_with fail;go_ret;exact⟨rfl,rfl⟩
def uj(q:Value×Lx.Pd):List Value:=[.int .i64 (q.2.left:Int),q.1,.int .i64 q.2.prec]
theorem Je:∀ps:List (Value×Lx.Pd),(ps.flatMap uj).length=ps.length*3
 | []=>rfl
 |p::ps=>by rw[eh,cH,Je ps,ev,mf];show 3+_=_;omega
structure Kp(D:Nat->Prop)(w w':World):Prop where
 os:w'.os=w.os
 tape:w'.tape=w.tape
 output:w'.output=w.output
 size:w.heap.size<=w'.heap.size
 block:∀g,D g->w'.heap[g]?=w.heap[g]?
theorem Kp.refl(D:Nat->Prop)(w:World):Kp D w w:=⟨rfl,rfl,rfl,zL0,fun _ _=>rfl⟩
theorem Kp.trans{D D':Nat->Prop}{w w' a:World}(h:Kp D w w')(k:Kp D' w' a)(c:∀g,D g->D' g):Kp D w a:=⟨k.os.trans h.os,k.tape.trans h.tape,k.output.trans h.output,de h.size k.size,fun g b=>(k.block g (c g b)).trans (h.block g b)⟩
theorem Kp.below{D:Nat->Prop}{w w':World}(h:Below w.heap.size w w')(a:∀g,D g->g<w.heap.size):Kp D w w':=⟨h.os,h.tape,h.output,h.size,fun g b=>h.block g (a g b)⟩
def More(D:Nat->Prop)(w w':World):Nat->Prop:=fun g=>D g\/(w.heap.size<=g/\g<w'.heap.size)
namespace Lx
theorem agE(n:Nat)(r:List Nat)(s:Nat):o9 n (r++[s])=if s<n then (s:Int) else o9 n r:=by unfold o9;rw[rj];rfl
theorem agF{n:Nat}{r:List Nat}{m:Nat}(h:m<r.length):o9 n (r.take (m+1))=if r[m]<n then (r[m]:Int) else o9 n (r.take m):=by rw[fh h,agE]
end Lx
theorem Tryz.ada:(prog.info? 22).map (fun i=>(i.zero,i.size,i.bytes))=some (some (.slice none 0 0),1,24):=by kernel_rfl
theorem Tryz.af2:prog.underlying 49=some (.slice 22):=by kernel_rfl
def Ur(B:Nat)(w:World)(v:Value)(ps:List (List Nat))(qs:List (Value×List Nat)):Prop:=qs.map Prod.snd=ps/\w.ownsRow B 22 1 v ps.length (qs.map Prod.fst)/\(∀q,q∈qs->IR B w q.1 q.2)/\∀q,q∈qs->∀g,q.1.ownBlock=some g->v.ownBlock≠some g
def sD(B:Nat)(w:World)(v:Value)(ps:List (List Nat)):Prop:=∃qs,Ur B w v ps qs
theorem sD.move{B:Nat}{w w':World}{v:Value}{d:List (List Nat)}(h:sD B w v d)(c:∀g,B<=g->g<w.heap.size->w'.heap[g]?=w.heap[g]?):sD B w' v d:=by
 obtain⟨f,h1,h2,h3,h4⟩:=h;exact⟨f,h1,aD h2 fun g a=>c g (h2.lt g a).1 (h2.lt g a).2,fun q b=>aD (h3 q b) fun g a=>c g ((h3 q b).lt g a).1 ((h3 q b).lt g a).2,h4⟩
theorem sD.len{B:Nat}{w:World}{v:Value}{b:List (List Nat)}(h:sD B w v b):∃a c,v=.slice a b.length c/\b.length<=maxLen:=by
 obtain⟨d,h1,h2,h3,h4⟩:=h;exact aC h2
theorem sD.at{B:Nat}{w:World}{v:Value}{a:List (List Nat)}(h:sD B w v a){j:Nat}(d:j<a.length):∃g cap u,v=.slice (some ⟨g,0,none⟩) a.length cap/\B<=g/\g<w.heap.size/\w.cell? ⟨g,j,none⟩=some u/\IR B w u a[j]:=by
 obtain⟨b,h1,h2,h3,h4⟩:=h;obtain⟨g,cap,rfl,-,-⟩:=h2.form (by omega);have i:b.length=a.length:=by rw[<-h1,dk]
 have c:b[j]?=some b[j]:=cF (by omega);have f:(b[j]).2=a[j]:=by
  have:(b.map Prod.snd)[j]?=a[j]?:=by rw[h1]
  rw[di,c,cF d]at this;simpa using this
 refine⟨g,cap,(b[j]).1,rfl,(h2.lt g rfl).1,(h2.lt g rfl).2,?_,?_⟩
 ·rw[h2.cellAt j (by omega),di,c];rfl
 ·rw[<-f];exact h3 _ (du _)
structure Puts(bt et sz:Nat)(w:World)(mb i:Nat)(v:Value)(n:Nat)(xs:List Value)(cs:Array Value)(v3:Value)(w4:World):Prop where
 blk:aj w4 mb (cs.setIfInBounds i v3) bt
 row:w4.ownsRow 0 et sz v3 n xs
 keep:∀g,g<w.heap.size->g≠mb->v.ownBlock≠some g->w4.heap[g]?=w.heap[g]?
 ne:v3.ownBlock≠some mb
 at_:∀g,v3.ownBlock=some g->v.ownBlock=some g\/w.heap.size<=g
 os:w4.os=w.os
 tape:w4.tape=w.tape
 output:w4.output=w.output
 size:w.heap.size<=w4.heap.size
theorem puts{m q sz:Nat}{w w1 w3:World}{a i:Nat}{cs:Array Value}{v:Value}{n:Nat}{o:List Value}{v3:Value}(h1:aj w a cs m)(p:v.ownBlock≠some a)(c:Below w.heap.size w w1)(y:w3.ownsRow 0 q sz v3 n o)(b:w1.grownBy w3 v.ownBlock)(f:v3.ownBlock=v.ownBlock\/∃g,v3.ownBlock=some g/\w.heap.size<=g):Puts m q sz w a i v n o cs v3 (w3.setCell ⟨a,i,none⟩ v3):=by
 have r:=h1.lt;have t:=c.size;have s:=b.size;have k:v3.ownBlock≠some a:=by
  rcases f with h|⟨g,h,d⟩
  ·rw[h];exact p
  ·rw[h];intro e;cases e;omega
 have x:aj w3 a cs m:=by
  unfold aj at h1|-;rw[b.block a (by omega) (fun e=>p e.symm),c.block a r];exact h1
 refine⟨x.set i v3,?_,?_,k,?_,b.os.trans c.os,b.tape.trans c.tape,b.output.trans c.output,by simp[World.setCell];omega⟩
 ·exact aD y fun g j=>zS0 (fun e=>k (by have u:g=a:=e;rw[<-u];exact j))
 ·intro g l z A
  rw[zS0 z,b.block g (by omega) (fun e=>A e.symm),c.block g l]
 ·intro g j
  rcases f with h|⟨B,h,d⟩
  ·exact .inl (h▸j)
  ·rw[h]at j;cases j;exact .inr d
theorem Puts.drew{c a sz:Nat}{w f:World}{d i:Nat}{cs:Array Value}{v:Value}{n:Nat}{b:List Value}{v3:Value}(h:Puts c a sz w d i v n b cs v3 f):Puts c a sz w d i v n b cs v3 f.drew:=⟨h.blk.drew,aD h.row fun _ _=>rfl,h.keep,h.ne,h.at_,h.os,h.tape,h.output,h.size⟩
def adR(w:World)(mb nT:Nat)(V:List ByteArray)(nm:ByteArray)(vN:Value)(cs:Array Value)(e:Ending)(w':World):Prop:=e=.returned (.int .i64 ((nT+V.length:Nat):Int))/\∃v3,Puts 198 9 1 w mb 1 vN (V.length+1) ((V++[nm]).map Value.string) cs v3 w'
theorem agG{w:World}{b nT:Nat}{V:List ByteArray}{ta:Option Addr}{tc:Nat}{o vP vB vK H E:Value}(p:aj w b #[.slice ta nT tc,o,vP,vB,vK,H,E] 198)(C:w.ownsRow 0 9 1 o V.length (V.map Value.string))(q:o.ownBlock≠some b)(Q:nT<=100000)(M:V.length<=100000)(nm:ByteArray):
  Calls prog 123 #[.pointer (some ⟨b,0,none⟩),.string nm] w (adR w b nT V nm o #[.slice ta nT tc,o,vP,vB,vK,H,E]):=by
 obtain⟨I,A,j,k,n⟩:=ft Tryz.TU;obtain⟨t,u,rfl,-⟩:=aC C;have lm:=p.lt;have K:w.cell? ⟨b,1,none⟩=some (.slice t V.length u):=p.cell 1;have l:Below w.heap.size w (w.alloc (.cells #[.string nm] 9)):=(cV _ _).alloc (zL0) _;unfold adR;go_enter func123,ntmps123
 go_wp2_with (at_builtin;go_loud (refine js _ rfl _ _ 53 rfl 0 9 I _ 1 16 underlying53 A j k n rfl (by decide) (.slice t V.length u) _ _ rfl (C.alloc _) ⟨_,0,none⟩ 1 1 [.string nm] rfl rfl (eO (aj.new _ _ 9)) (by simp[Value.oneCell']) (by unfold maxLen;omega) (by omega) (by simp) ?_;intro R s a v _ F;obtain⟨f,d,D,-⟩:=aC a;subst D;have B:=(p.alloc (.cells #[.string nm] 9)).grown v (fun e=>q e.symm);have x:s.cell? ⟨b,1,none⟩=some (.slice t V.length u):=B.cell 1;have z:∀i,s.frozen? ⟨b,i,none⟩=false:=B.frozen))
 have G:(Value.slice f (V.length+1) d).ownBlock=(Value.slice t V.length u).ownBlock\/∃g,(Value.slice f (V.length+1) d).ownBlock=some g/\w.heap.size<=g:=by
  rcases F with y|y
  ·exact .inl y
  ·exact .inr ⟨_,y,by simp⟩
 have c:s.ownsRow 0 9 1 (.slice f (V.length+1) d) (V.length+1) ((V++[nm]).map Value.string):=by rw[eJ];exact a
 have r:=puts (i:=1) p q l c v G;clear F G a c v B x z K;generalize s.setCell ⟨b,1,none⟩ (.slice f (V.length+1) d)=w6 at r;have m:=r.blk;have P:w6.drew.cell? ⟨b,0,none⟩=some (.slice ta nT tc):=m.drew.cell 0;have L:w6.drew.cell? ⟨b,1,none⟩=some (.slice f (V.length+1) d):=m.drew.cell 1;have J:=r.drew;have N:w6.cell? ⟨b,0,none⟩=some (.slice ta nT tc):=m.cell 0;have O:w6.cell? ⟨b,1,none⟩=some (.slice f (V.length+1) d):=m.cell 1;clear p C l m r
 go_region
 all_goals
  go_wp2_with fail;go_ret;exact⟨by go_num,_,J⟩
