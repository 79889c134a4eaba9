import Derived.Test.YtagkodkijkpemaaGreatDoorRA15
set_option maxHeartbeats 8000000
set_option maxRecDepth 1000000
namespace Go.Proofs.YtagkodkijkpemaaGreatDoor
open Lx Go.Proofs.Tryz
open Go.RowKit Tr
theorem agY {F:Nat->Prop} {w0:World} {C:World->Prop} (D:OkW F w0 C) {A:Nat} {caps:Array Value} (P:∀(ar:Array Value)(w:World),(callFunc A ar).run prog w=.ok (.enter A ar) w) {d:Nat} {pr:Lx.Alt->Bool} {R:Lx.Alt->Prop}
  (Q:∀(w':World)(va:Value)(it:Lx.Alt),C w'->jG YP d F w0 va it.1->R it->Calls prog A (#[Kw va it]++caps) w' (uW w' (pr it)))
  {B:Value} {its:List Lx.Alt} (J:aM YP (d+1) F w0 B its) (V:∀it∈its,R it) {w:World} (N:C w) :
  Calls prog 177 #[B,.func (.func A) #[] caps] w fun e w'=>∃q:Int,e=.returned (.int .i64 q)/\(0<=q↔its.any pr=true)/\Below w.heap.size w w':=by
 obtain⟨ia,ic,Y,G⟩:∃a c,B=.slice a its.length c/\its.length<=maxLen:=aM.len J;subst Y;unfold maxLen at G;go_enter func177,ntmps177;go_wp2_with fail
 go_loopg [8] its.length (fun k i wr=>∃j:Nat,j+k=its.length/\i=.int .i64 j/\Below w.heap.size w wr/\Hid (∀m(p:m<its.length),m<j->pr its[m]=false))
 case atStart=>exact⟨0,by omega,rfl,cV _ _,fun m _ h=>by omega⟩
 case round=>
  obtain⟨j,hk,rfl,g,z⟩:=hrel;have f:=D.up _ _ N g
  by_cases hlt:j<its.length
  ·have t:=J
   obtain⟨n,DR,va,O,L,K,l⟩:=Seq.at t (fun _=>rfl) hlt;cases O;have E:=V its[j] (dy hlt);have s:=Q wr va its[j] f K E;obtain⟨S,W,H,-⟩:∃a c,va=.slice a its[j].1.length c/\its[j].1.length<=maxLen:=Seq.len (show Tr.Seq F w0 YP.eI YP.sI YP.cI (fun va it=>aM YP d F w0 va it.alts) va its[j].1 from K);subst H;have en:=(D.fr _ f n L).1;have ln:=(D.fr _ f n L).2;have X:wr.cell? ⟨n,j*2,none⟩=some (.slice S its[j].1.length W):=(cJ (w:=w0) en).trans (l 0 (by decide));have Z:wr.cell? ⟨n,j*2+1,none⟩=some (.string its[j].2.1):=(cJ (w:=w0) en).trans (l 1 (by decide));unfold Kw at s;have y:Hid (∀b,pr its[j]=b->(b=true->its.any pr=true)/\(b=false->∀m(p:m<its.length),m<j+1->pr its[m]=false)):=by
    intro b M;refine⟨fun h=>oj.2 ⟨its[j],dy hlt,by rw[M,h]⟩,fun h m p U=>?_⟩
    by_cases TY:m=j
    ·subst TY;rw[M,h]
    ·exact z.out m p (by omega)
   clear l t z;generalize hit:its[j]=it at s X Z y;clear hit;go_wp2_with fail;refine s.mono ?_;rintro e w2⟨rfl,I⟩;have u:=g.trans (I.mono g.size);cases o:pr it with
   |true=>
    have r:=(y.out true o).1 rfl;have v:Hid (its.any pr=true):=r;clear y r o s;go_wp2_with fail;go_ret;exact⟨_,rfl,⟨fun _=>v.out,fun _=>by omega⟩,u⟩
   |false=>
    have v:Hid _:=(y.out false o).2 rfl;clear y o s;go_wp2_with fail;go_roundg (its.length - (j+1))
    case measure=>omega
    case rel=>exact⟨j+1,by omega,by go_num,u,v⟩
  ·have:j=its.length:=by omega
   subst this;have v:Hid (¬its.any pr=true):=by
    intro h;obtain⟨x,T,o⟩:=oj.1 h;obtain⟨m,p,rfl⟩:=pB.1 T;rw[z.out m p p]at o;cases o
   clear z;go_wp2_with fail;go_ret;exact⟨_,rfl,⟨fun h=>by omega,fun h=>absurd h v.out⟩,g⟩
theorem aeM {F:Nat->Prop} {w0:World} {j:World->Prop} (s:OkW F w0 j) {g:Nat} {caps:Array Value} (i:∀(ar:Array Value)(w:World),(callFunc g ar).run prog w=.ok (.enter g ar) w) {d:Nat} {pr:Lx.It->Bool} {R:Lx.It->Prop}
  (o:∀(w':World)(va:Value)(it:Lx.It),j w'->aM YP d F w0 va it.alts->R it->Calls prog g (#[Ei va it]++caps) w' (uW w' (pr it)))
  {f:Value} {its:List Lx.It} (l:jG YP d F w0 f its) (m:∀it∈its,R it) {w:World} (n:j w) :
  Calls prog 159 #[f,.func (.func g) #[] caps] w (uW w (its.any pr)):=by
 have k:=afY s i o l m n;obtain⟨v,u,t,-⟩:∃a c,f=.slice a its.length c/\its.length<=maxLen:=Seq.len (show Tr.Seq F w0 YP.eI YP.sI YP.cI (fun va it=>aM YP d F w0 va it.alts) f its from l);subst t;go_enter func159,ntmps159;go_wp2_with fail;refine k.mono ?_;rintro e w2⟨q,rfl,b,p⟩;have r:Hid (decide (0<=q)=its.any pr):=by
  show _=_;cases ha:its.any pr with
  |true=>exact fh (b.2 ha)
  |false=>exact eV fun h=>by rw[b.1 h]at ha;cases ha
 clear b k;go_wp2_with fail;go_ret;refine⟨?_,p⟩;rw[<-r.out];rfl
theorem Xj {F:Nat->Prop} {w0:World} {j:World->Prop} (s:OkW F w0 j) {f:Nat} {caps:Array Value} (i:∀(ar:Array Value)(w:World),(callFunc f ar).run prog w=.ok (.enter f ar) w) {d:Nat} {pr:Lx.Alt->Bool} {R:Lx.Alt->Prop}
  (o:∀(w':World)(va:Value)(it:Lx.Alt),j w'->jG YP d F w0 va it.1->R it->Calls prog f (#[Kw va it]++caps) w' (uW w' (pr it)))
  {g:Value} {its:List Lx.Alt} (l:aM YP (d+1) F w0 g its) (m:∀it∈its,R it) {w:World} (n:j w) :
  Calls prog 157 #[g,.func (.func f) #[] caps] w (uW w (its.any pr)):=by
 have k:=agY s i o l m n;obtain⟨v,u,t,-⟩:∃a c,g=.slice a its.length c/\its.length<=maxLen:=aM.len l;subst t;go_enter func157,ntmps157;go_wp2_with fail;refine k.mono ?_;rintro e w2⟨q,rfl,b,p⟩;have r:Hid (decide (0<=q)=its.any pr):=by
  show _=_;cases ha:its.any pr with
  |true=>exact fh (b.2 ha)
  |false=>exact eV fun h=>by rw[b.1 h]at ha;cases ha
 clear b k;go_wp2_with fail;go_ret;refine⟨?_,p⟩;rw[<-r.out];rfl
theorem ZP(a:Array Value)(w:World):(callFunc 158 a).run prog w=.ok (.enter 158 a) w:=by kernel_rfl
theorem ah7(a:Array Value)(w:World):(callFunc 160 a).run prog w=.ok (.enter 160 a) w:=by kernel_rfl
def BO(P:ByteArray->Prop)(it:Lx.It):Prop:=it.kind<=2/\(it.kind=0->P it.name)
structure Ju(Ok:World->Prop)(nf:Nat)(caps:Array Value)(on:ByteArray->Bool)(P:ByteArray->Prop):Prop where
 cf:∀(ar:Array Value)(w:World),(callFunc nf ar).run prog w=.ok (.enter nf ar) w
 says:∀(w':World)(b:ByteArray),Ok w'->P b->Calls prog nf (#[.string b]++caps) w' (uW w' (on b))
def Dc(d:Nat):Prop:=∀(F:Nat->Prop)(w0:World)(Ok:World->Prop),OkW F w0 Ok->∀(nf:Nat)(caps:Array Value)(on:ByteArray->Bool)(P:ByteArray->Prop),Ju Ok nf caps on P ->
 ∀(v:Value)(l:List Lx.Alt),aM YP d F w0 v l->(∀it∈dh d l,BO P it)->∀w,Ok w->Calls prog 122 #[v,.func (.func nf) #[] caps] w (uW w (oO on d l))
theorem afq {d:Nat} (I:Dc d) {F:Nat->Prop} {w0:World} {n:World->Prop} (y:OkW F w0 n) {q:Nat} {caps:Array Value} {on:ByteArray->Bool} {P:ByteArray->Prop} (t:Ju n q caps on P)
  {z:Value} {a:Lx.It} (A:aM YP d F w0 z a.alts) (B:∀x∈xg d a,BO P x) {w:World} (D:n w) :
  Calls prog 161 #[Ei z a,.func (.func q) #[] caps] w (uW w (uO on d a)):=by
 obtain⟨H,K,r,-⟩:=aM.len A;subst r;have hit:=B a eh;have m:∀x∈dh d a.alts,BO P x:=fun x J=>B x (ev _ J)
 unfold Ei;obtain⟨W,i⟩:∃W,W=w.alloc (.cells #[.int .i64 (a.kind:Int),.string a.name,.int .u8 (a.mark:Int),.slice H a.alts.length K] 262):=⟨_,rfl⟩;have b:Below w.heap.size w W:=by rw[i];exact(cV _ _).alloc (zL0) _
 have v:=y.up _ _ D b;have E:=t.cf;have l:Hid (uO on d a=(decide (a.kind=1) || decide (a.mark=42) || decide (a.mark=63) || (decide (a.kind=0) && on a.name) || (decide (a.kind=2) && oO on d a.alts))):=rfl;go_enter func161,ntmps161
 by_cases h1:a.mark=42\/a.mark=63\/a.kind=1
 ·have c:Hid (uO on d a=true):=by
   show _=_;rw[l.out];rcases h1 with h|h|h <;> simp[h]
  have f:(a.mark=42)\/(a.mark≠42/\a.mark=63)\/(a.mark≠42/\a.mark≠63/\a.kind=1):=by
   rcases h1 with h|h|h
   ·exact .inl h
   ·exact .inr (.inl ⟨by omega,h⟩)
   ·by_cases h2:a.mark=42
    ·exact .inl h2
    ·by_cases h3:a.mark=63
     ·exact .inr (.inl ⟨h2,h3⟩)
     ·exact .inr (.inr ⟨h2,h3,h⟩)
  clear h1;rcases f with h|⟨h,o⟩|⟨h,o,j⟩
  ·have p:((a.mark:Int) == 42)=true:=by simp[h]
   clear h;go_wp2_with fail;go_ret;exact⟨by rw[c.out];rfl,i▸b⟩
  ·have p:((a.mark:Int) == 42)=false:=zB0 (by omega)
   have u:((a.mark:Int) == 63)=true:=by simp[o]
   clear h o;go_wp2_with fail;go_ret;exact⟨by rw[c.out];rfl,i▸b⟩
  ·have p:((a.mark:Int) == 42)=false:=zB0 (by omega)
   have u:((a.mark:Int) == 63)=false:=zB0 (by omega);have G:((a.kind:Int) == 1)=true:=by simp[j]
   clear h o j;go_wp2_with fail;go_ret;exact⟨by rw[c.out];rfl,i▸b⟩
 ·have h2:a.mark≠42/\a.mark≠63/\a.kind≠1:=⟨fun e=>h1 (.inl e),fun e=>h1 (.inr (.inl e)),fun e=>h1 (.inr (.inr e))⟩
  have p:((a.mark:Int) == 42)=false:=zB0 (by omega);have u:((a.mark:Int) == 63)=false:=zB0 (by omega);have G:((a.kind:Int) == 1)=false:=zB0 (by omega);clear h1
  by_cases h0:a.kind=0
  ·have c:Hid (uO on d a=on a.name):=by
    show _=_;rw[l.out];simp[h0,h2.1,h2.2.1]
   have C:((a.kind:Int) == 0)=true:=by simp[h0]
   have s:=t.says W a.name v (hit.2 h0);clear h0 h2 l hit;go_wp2_with fail;rw[<-i];refine s.mono ?_;rintro e w2⟨rfl,g⟩;go_wp2_with fail;go_ret;exact⟨by rw[c.out];rfl,b.trans (g.mono b.size)⟩
  ·have k:a.kind=2:=by have:=hit.1;omega
   have c:Hid (uO on d a=oO on d a.alts):=by
    show _=_;rw[l.out];simp[k,h2.1,h2.2.1]
   have C:((a.kind:Int) == 0)=false:=zB0 (by omega);have s:=I F w0 n y q caps on P t _ _ A m W v;clear h0 h2 l hit k;go_wp2_with fail;rw[<-i];refine s.mono ?_;rintro e w2⟨rfl,g⟩;go_wp2_with fail;go_ret;exact⟨by rw[c.out];rfl,b.trans (g.mono b.size)⟩
theorem OkW.box{F:Nat->Prop}{w0:World}{f:World->Prop}(h:OkW F w0 f)(d:Nat)(v:Value):OkW F w0 (fun w=>f w/\aj w d #[v] 186) :=
 ⟨fun w a b c=>h.fr w a.1 b c,fun w g a c=>⟨h.up w g a.1 c,(c.block d a.2.lt).trans a.2⟩⟩
theorem ah8 {d:Nat} (u:Dc d) {F:Nat->Prop} {w0:World} {f:World->Prop} (l:OkW F w0 f) {i:Nat} {caps:Array Value} {on:ByteArray->Bool} {P:ByteArray->Prop} (v:Ju f i caps on P) {j:Nat}
  {k:Value} {a:Lx.It} (n:aM YP d F w0 k a.alts) (y:∀x∈xg d a,BO P x) {w:World} (p:f w) (o:aj w j #[.func (.func i) #[] caps] 186) :
  Calls prog 160 #[Ei k a,.pointer (some ⟨j,0,none⟩)] w (uW w (!uO on d a)):=by
 obtain⟨t,s,b,-⟩:=aM.len n;subst b;obtain⟨W,m⟩:∃W,W=w.alloc (.cells #[.int .i64 (a.kind:Int),.string a.name,.int .u8 (a.mark:Int),.slice t a.alts.length s] 262):=⟨_,rfl⟩;have g:Below w.heap.size w W:=by rw[m];exact(cV _ _).alloc (zL0) _
 have r:=l.up _ _ p g;have q:=afq u l v n y r;have z:w.cell? ⟨j,0,none⟩=some (.func (.func i) #[] caps):=o.cell 0;have le:=o.lt;unfold Ei at q|-;go_enter func160,ntmps160;go_wp2_with fail;rw[<-m];refine q.mono ?_;rintro e w2⟨rfl,c⟩;go_wp2_with fail;go_ret;exact⟨rfl,g.trans (c.mono g.size)⟩
theorem ah9 {d:Nat} (C:Dc d) {F:Nat->Prop} {w0:World} {m:World->Prop} (n:OkW F w0 m) {k:Nat} {caps:Array Value} {on:ByteArray->Bool} {P:ByteArray->Prop} (E:Ju m k caps on P) {f:Nat}
  {i:Value} {a:Lx.Alt} (r:jG YP d F w0 i a.1) (B:∀x∈qV d a.1,BO P x) {w:World} (y:m w) (s:aj w f #[.func (.func k) #[] caps] 186) :
  Calls prog 158 #[Kw i a,.pointer (some ⟨f,0,none⟩)] w (uW w (a.1.all (uO on d))):=by
 obtain⟨I,A,H,-⟩:∃x c,i=.slice x a.1.length c/\a.1.length<=maxLen:=Seq.len (show Tr.Seq F w0 YP.eI YP.sI YP.cI (fun t b=>aM YP d F w0 t b.alts) i a.1 from r);subst H;obtain⟨W,u⟩:∃W,W=w.alloc (.cells #[.slice I a.1.length A,.string a.2.1] 269):=⟨_,rfl⟩;have j:Below w.heap.size w W:=by rw[u];exact(cV _ _).alloc (zL0) _
 have z:=n.up _ _ y j;have o:aj W f #[.func (.func k) #[] caps] 186:=(j.block f s.lt).trans s;have q:=aeM (n.box f (.func (.func k) #[] caps)) ah7 (caps:=#[.pointer (some ⟨f,0,none⟩)]) (pr:=fun b=>!uO on d b) (R:=fun b=>∀x∈xg d b,BO P x)
  (fun J t b g p v=>ah8 C n E p v g.1 g.2) r (fun b hit x G=>B x (gd.2 ⟨b,hit,G⟩)) ⟨z,o⟩
 have D:Hid (a.1.all (uO on d)=!(a.1.any fun b=>!uO on d b)):=by
  show _=_;rw[List.not_any_eq_all_not];congr 1;funext x;simp
 unfold Kw;go_enter func158,ntmps158;go_wp2_with fail;rw[<-u];refine q.mono ?_;rintro e w2⟨rfl,l⟩;go_wp2_with fail;go_ret;exact⟨by rw[D.out];rfl,j.trans (l.mono j.size)⟩
theorem afr:Dc 0:=by
 intro F n m d j caps on P hN v l hl hi w hw;have a:=aM.up hl;obtain⟨rfl,rfl⟩:=hl;obtain⟨W,f⟩:∃W,W=w.alloc (.cells #[.func (.func j) #[] caps] 186):=⟨_,rfl⟩;have c:Below w.heap.size w W:=by rw[f];exact(cV _ _).alloc (zL0) _
 have i:=d.up _ _ hw c;have q:=Xj d ZP (caps:=#[.pointer (some ⟨w.heap.size,0,none⟩)]) (pr:=fun _=>false) (R:=fun _=>False) (fun _ _ _ _ _ g=>g.elim) a (fun k hit=>by cases hit) i;go_enter func122,ntmps122;go_wp2_with fail;rw[<-f];refine q.mono ?_;rintro e w2⟨rfl,b⟩;go_wp2_with fail;go_ret;exact⟨rfl,c.trans (b.mono c.size)⟩
theorem afs{d:Nat}(r:Dc d):Dc (d+1):=by
 intro F B A f i caps on P hN v l hl hi w hw;obtain⟨z,y,n,-⟩:=aM.len hl;subst n;obtain⟨W,g⟩:∃W,W=w.alloc (.cells #[.func (.func i) #[] caps] 186):=⟨_,rfl⟩;have j:Below w.heap.size w W:=by rw[g];exact(cV _ _).alloc (zL0) _
 have o:=f.up _ _ hw j;have p:aj W w.heap.size #[.func (.func i) #[] caps] 186:=by rw[g];exact aj.new w _ 186
 have q:=Xj (f.box w.heap.size (.func (.func i) #[] caps)) ZP (caps:=#[.pointer (some ⟨w.heap.size,0,none⟩)]) (pr:=fun a=>a.1.all (uO on d)) (R:=fun a=>∀x∈qV d a.1,BO P x)
  (fun C u a b k m=>ah9 r f hN k m b.1 b.2) hl (fun a t x s=>hi x (by rw[wH];exact gd.2 ⟨a,t,s⟩)) ⟨o,p⟩
 rw[agI];go_enter func122,ntmps122;go_wp2_with fail;rw[<-g];refine q.mono ?_;rintro e w2⟨rfl,c⟩;go_wp2_with fail;go_ret;exact⟨rfl,j.trans (c.mono j.size)⟩
theorem Y0:∀d,Dc d
 |0=>afr
 |d+1=>afs (Y0 d)
namespace Lx
def iV(names:List ByteArray)(s:List Bool×List Nat)(us:List ByteArray):List Bool×List Nat:=us.foldl (vis names) s
theorem IU(a:List ByteArray):∀(us:List ByteArray)(s:List Bool×List Nat),(iV a s us).1=yR a us s.1
 | [],_=>rfl
 |u::us,s=>by
  show (iV a (vis a s u) us).1=yR a us (s.1.set (nC a u) true);rw[IU a us];congr 1;unfold vis
  split
  ·rename_i h;exact(RG fun _=>h).symm
  ·rfl
theorem Ja:∀{bs:List Bool}{i:Nat},i<bs.length->aJ bs i=false->bq (bs.set i true)=bq bs+1
 |b::bs,0,_,h=>by
  have a:b=false:=h;subst a;simp[bq]
 |b::bs,i+1,hl,h=>by
  have ih:=Ja (bs:=bs) (i:=i) (by simpa using hl) (by simpa [aJ]using h);unfold bq at ih|-;rw[mv,mj,mj,ih];omega
theorem Nj(a:List ByteArray):∀(us:List ByteArray)(s:List Bool×List Nat),(∀u∈us,fix a u<s.1.length)->∃new,(iV a s us).2=s.2++new/\(∀i∈new,i<s.1.length/\aJ (iV a s us).1 i=true)/\(∀i,aJ (iV a s us).1 i=true->aJ s.1 i=true\/i∈new)/\new.length+bq s.1=bq (iV a s us).1
 | [],s,_=>⟨[],by simp[iV],fun i h=>(by cases h),fun i h=>.inl h,by simp[iV]⟩
 |u::us,s,h=>by
  have k:=h u eh;cases hb:aJ s.1 (fix a u) with
  |true=>
   have e:vis a s u=s:=de hb;have j:iV a s (u::us)=iV a s us:=by show iV a (vis a s u) us=_;rw[e]
   rw[j];exact Nj a us s fun x g=>h x (ev _ g)
  |false=>
   have e:vis a s u=(s.1.set (fix a u) true,s.2++[fix a u]):=dk (by rw[hb];decide);have j:iV a s (u::us)=iV a (s.1.set (fix a u) true,s.2++[fix a u]) us:=by show iV a (vis a s u) us=_;rw[e]
   obtain⟨new,h1,h2,h3,h4⟩:=Nj a us (s.1.set (fix a u) true,s.2++[fix a u]) fun x g=>by
    rw[ib];exact h x (ev _ g)
   rw[j];refine⟨fix a u::new,by rw[h1];simp,?_,?_,?_⟩
   ·intro i c
    rcases ee.1 c with rfl|c
    ·refine⟨k,?_⟩
     rw[IU];refine(IY a us _).2 _ ?_;rw[at_set,de ⟨rfl,k⟩]
    ·have:=h2 i c
     rw[ib]at this;exact this
   ·intro i c
    rcases h3 i c with d|d
    ·have b:aJ (s.1.set (fix a u) true) i=true:=d
     rw[at_set]at b
     split at b
     ·rename_i l;exact .inr (by rw[l.1];exact eh)
     ·exact .inl b
    ·exact .inr (ev _ d)
   ·have f:new.length+bq (s.1.set (fix a u) true)=_:=h4
    rw[Ja k hb]at f;rw[el];omega
structure RI(g:Gr)(s0:List Bool)(s:List Bool×List Nat):Prop where
 len:s.1.length=g.rules.length
 op:∀i∈s.2,i<g.rules.length/\aJ s.1 i=true
 done:∀i,aJ s.1 i=true->i∈s.2\/Cn g i s.1
 has:bP s0 s.1
 least:∀T,T.length=g.rules.length->bP s0 T->(∀i,i<g.rules.length->Cn g i T)->bP s.1 T
theorem RI.step{g:Gr}{s0 bs:List Bool}{d:List Nat}{r:Nat}(h:RI g s0 (bs,d++[r]))(o:∀u∈oM (lC g r),fix (aZ g) u<bs.length):RI g s0 (iV (aZ g) (bs,d) (oM (lC g r)))/\(iV (aZ g) (bs,d) (oM (lC g r))).2.length+bq bs=d.length+bq (iV (aZ g) (bs,d) (oM (lC g r))).1:=by
 obtain⟨h1,h2,h3,h4,A⟩:=h;obtain⟨new,m,s,y,v⟩:=Nj (aZ g) (oM (lC g r)) (bs,d) o;have p:=h2 r (by simp);have z:(iV (aZ g) (bs,d) (oM (lC g r))).1=yJ g r bs:=by
  rw[IU,yJ,de p.2]
 have c:bP bs (iV (aZ g) (bs,d) (oM (lC g r))).1:=by rw[IU];exact IY _ _ _
 refine⟨⟨c.1.symm.trans h1,?_,?_,h4.trans c,?_⟩,?_⟩
 ·intro i f
  rw[m]at f;rcases cY.1 f with f|f
  ·have:=h2 i (by simp[f])
   exact⟨this.1,c.2 i this.2⟩
  ·have:=s i f
   exact⟨by rw[<-h1];exact this.1,this.2⟩
 ·intro i f
  rw[m];rcases y i f with k|k
  ·rcases h3 i k with a | a
   ·rcases cY.1 a with a | a
    ·exact .inl (cY.2 (.inl a))
    ·right
     rw[cM.1 a];intro _ b l j;rw[IU];exact RH _ _ _ b l (o b l)
   ·right
    intro _ b l j;exact c.2 _ (a k b l (by rw[c.1];exact j))
  ·exact .inl (cY.2 (.inr k))
 ·intro T t q n
  rw[z];exact Zz g T (fun i f=>n i (by omega)) r bs (A T t q n)
 ·rw[m,cH]
  have x:new.length+bq bs=_:=v;show d.length+new.length+bq bs=d.length+_;omega
theorem RI.end{g:Gr}{s0 bs:List Bool}(h:RI g s0 (bs,[])):wU (Cn g) g.rules.length s0 bs:=by
 refine⟨h.len,h.has,fun i c=>?_,h.least⟩;intro b;rcases h.done i b with a|a
 ·cases a
 ·exact a b
theorem RI.start{g:Gr}(b:0<g.rules.length):RI g ((List.replicate g.rules.length false).set 0 true) ((List.replicate g.rules.length false).set 0 true,[0]):=by
 refine⟨by simp,?_,?_,bP.refl _,fun T _ h _=>h⟩
 ·intro i a
  rw[cM.1 a];exact⟨b,by rw[at_set,de ⟨rfl,by simpa using b⟩]⟩
 ·intro i a
  rw[at_set]at a
  split at a
  ·rename_i c;exact .inl (by rw[<-c.1];simp)
  ·unfold aJ at a
   rw[ju]at a
   split at a <;> cases a
theorem RN:∀(d:Nat)(l:List Alt),((dh d l).filter fun x=>decide (x.kind=0)).map It.name=Dv d l
 |0,_=>rfl
 |d+1,l=>by
  rw[YJ,wH,Ir,th];congr 1;funext a;unfold qV;rw[Ir,th];congr 1;funext x;have ih:=RN d x.alts;unfold xg Js;rw[my,<-ih]
  by_cases h:x.kind=0
  ·simp[h]
  ·simp[h]
end Lx
theorem aia(a:Array Value)(w:World):(callFunc 119 a).run prog w=.ok (.enter 119 a) w:=by kernel_rfl
theorem aib(a:Array Value)(w:World):(callFunc 120 a).run prog w=.ok (.enter 120 a) w:=by kernel_rfl
theorem akY{w:World}{B:Nat}{a:Option Addr}{c:Nat}{b:List Nat}{r:Nat}(h:w.ownsRow B 3 1 (.slice a (b++[r]).length c) (b++[r]).length (dK (b++[r]))):∃g,a=some ⟨g,0,none⟩/\b.length+1<=c/\c<=maxLen/\g<w.heap.size/\w.ownsRow B 3 1 (.slice (some ⟨g,0,none⟩) b.length c) b.length (dK b)/\w.cell? ⟨g,b.length,none⟩=some (.int .i64 (r:Int)):=by
 rcases h.2 with ⟨h1,h2⟩|⟨g,n,f,h1,h2,h3,h4,i,l,m⟩
 ·simp at h2
 ·injection h1 with e1 e2 e3
  subst e1 e3;have j:=h.cellAt b.length (by simp);simp at h4;refine⟨g,rfl,h4,i,(dv.1 h3).1,⟨by simp[dK],.inr ⟨g,c,f,rfl,h2,h3,by omega,i,l,?_⟩⟩,?_⟩
  ·have d:=eS (List.take b.length) m
   rw[List.take_take]at d;rw[EU]at d;rw[jt];have o:min b.length ((b++[r]).length*1)=b.length:=by simp
   rw[o]at d;rw[d];have:b.length=(dK b).length:=(Dj b).symm;rw[this,List.take_left]
  ·have k:(dK (b++[r]))[b.length]?=some (.int .i64 (r:Int)):=by rw[EU,eJ (by rw[Dj];exact zL0),Dj,ij];rfl
   rw[k]at j;exact j
def afZ(g:Lx.Gr)(w:World)(e:Ending)(w':World):Prop:=∃o bs,e=.returned (.slice (some ⟨o,0,none⟩) g.rules.length g.rules.length)/\w.heap.size<=o/\aj w' o (bE bs) 4/\wU (Cn g) g.rules.length ((List.replicate g.rules.length false).set 0 true) bs/\Below w.heap.size w w'
theorem aft{F:Nat->Prop}{w:World}{vR:Value}{g:Lx.Gr}(h:lN F w vR g.rules){B:Nat}{num:ByteArray->Int}(hM:SMap w B num)(JK:∀b,b∈aZ g->num b=(Lx.fix (aZ g) b:Int))(hu:uS g=none)(hn:0<g.rules.length)(ad:g.rules.length<=2001):
  Calls prog 80 #[vR,.map (some B)] w (afZ g w):=by
 obtain⟨a,c,rfl,hm⟩:=h.len;have J:=hM.lt;have ab:=fun w=>YK ad w
 have ae:(bE (List.replicate g.rules.length false))[0]?=some (.bool false):=by rw[qM _ (by simpa using hn)];simp[aJ,hn]
 go_enter func80,ntmps80;go_wp2_with fail;have e4:w.heap.size+1+1+1+1=w.heap.size+4:=rfl;have e3:w.heap.size+1+1+1=w.heap.size+3:=rfl;have e2:w.heap.size+1+1=w.heap.size+2:=rfl;rw[e4,e3,e2];clear e4 e3 e2 ab;obtain⟨W,q⟩:∃W,W=((((w.alloc (.cells #[.map (some B)] 155)).alloc (.cells ((bE (List.replicate g.rules.length false)).setIfInBounds 0 (.bool true)) 4)).alloc (.cells #[.slice (some ⟨w.heap.size+1,0,none⟩) g.rules.length g.rules.length] 142)).alloc (.cells #[.int .i64 0] 3)).alloc (.cells #[.slice (some ⟨w.heap.size+3,0,none⟩) 1 1] 22):=⟨_,rfl⟩;rw[<-q];have Ua:RS w.heap.size g.rules.length B num w W ((List.replicate g.rules.length false).set 0 true,[0]):=by
  have E:Below w.heap.size w W:=by rw[q];exact(((((cV _ _).alloc (zL0) _).alloc (by simp) _).alloc (by simp;omega) _).alloc (by simp;omega) _).alloc (by simp;omega) _
  refine⟨?_,hM.move (E.block B J),J,?_,?_,⟨.slice (some ⟨w.heap.size+3,0,none⟩) 1 1,?_,⟨rfl,.inr ⟨w.heap.size+3,1,#[.int .i64 0],rfl,eR _,?_,zL0,by decide,rfl,rfl⟩⟩,fun g N=>.inl (gh N).symm⟩,by show _=_;simp,E⟩
  ·rw[q];exact((((aj.new w _ 155).alloc _).alloc _).alloc _).alloc _
  ·rw[q,<-Di]
   have:=(((aj.new (w.alloc (.cells #[.map (some B)] 155)) ((bE (List.replicate g.rules.length false)).setIfInBounds 0 (.bool true)) 4).alloc (.cells #[.slice (some ⟨w.heap.size+1,0,none⟩) g.rules.length g.rules.length] 142)).alloc (.cells #[.int .i64 0] 3)).alloc (.cells #[.slice (some ⟨w.heap.size+3,0,none⟩) 1 1] 22);simpa using this
  ·rw[q]
   have:=((aj.new ((w.alloc (.cells #[.map (some B)] 155)).alloc (.cells ((bE (List.replicate g.rules.length false)).setIfInBounds 0 (.bool true)) 4)) #[.slice (some ⟨w.heap.size+1,0,none⟩) g.rules.length g.rules.length] 142).alloc (.cells #[.int .i64 0] 3)).alloc (.cells #[.slice (some ⟨w.heap.size+3,0,none⟩) 1 1] 22);simpa using this
  ·rw[q]
   have:=aj.new ((((w.alloc (.cells #[.map (some B)] 155)).alloc (.cells ((bE (List.replicate g.rules.length false)).setIfInBounds 0 (.bool true)) 4)).alloc (.cells #[.slice (some ⟨w.heap.size+1,0,none⟩) g.rules.length g.rules.length] 142)).alloc (.cells #[.int .i64 0] 3)) #[.slice (some ⟨w.heap.size+3,0,none⟩) 1 1] 22;simpa using this
  ·rw[q]
   have k3:aj (((((w.alloc (.cells #[.map (some B)] 155)).alloc (.cells ((bE (List.replicate g.rules.length false)).setIfInBounds 0 (.bool true)) 4)).alloc (.cells #[.slice (some ⟨w.heap.size+1,0,none⟩) g.rules.length g.rules.length] 142)).alloc (.cells #[.int .i64 0] 3)).alloc (.cells #[.slice (some ⟨w.heap.size+3,0,none⟩) 1 1] 22)) (w.heap.size+3) #[.int .i64 0] 3:=by
    have:=(aj.new (((w.alloc (.cells #[.map (some B)] 155)).alloc (.cells ((bE (List.replicate g.rules.length false)).setIfInBounds 0 (.bool true)) 4)).alloc (.cells #[.slice (some ⟨w.heap.size+1,0,none⟩) g.rules.length g.rules.length] 142)) #[.int .i64 0] 3).alloc (.cells #[.slice (some ⟨w.heap.size+3,0,none⟩) 1 1] 22);simpa using this
   exact k3
 have Ub:=Lx.RI.start hn;clear q;obtain⟨s0,v⟩:∃s0,s0=(List.replicate g.rules.length false).set 0 true:=⟨_,rfl⟩;have Gt:Hid (s0=(List.replicate g.rules.length false).set 0 true):=v;rw[<-v]at Ua Ub;clear v
 go_loopg [] (g.rules.length+1) (fun k wr=>∃s:List Bool×List Nat,s.2.length+(g.rules.length-bq s.1)<=k/\s.2.length+(g.rules.length-bq s.1)<=g.rules.length+1/\RS w.heap.size g.rules.length B num w wr s/\Lx.RI g s0 s)
 case atStart=>exact⟨(s0,[0]),by simp;omega,by simp;omega,Ua,Ub⟩
 case round=>
  clear Ua Ub;obtain⟨⟨d,ac⟩,hk,U,K,O5⟩:=hrel;obtain⟨h1,h2,h3,h4,h5,⟨vo,H,h7,h8⟩,h9,x⟩:=id K;have a0:w.heap.size+5<=wr.heap.size:=H.lt;have ar:=Bw d;have C:Hid (d.length=g.rules.length):=h9;rcases List.eq_nil_or_concat ac with Y|⟨op,r,S⟩
  ·subst Y
   obtain⟨oa,Z,Ed,-⟩:=aB h7;subst Ed;have c4:wr.cell? ⟨w.heap.size+4,0,none⟩=some (.slice oa 0 Z):=H.cell 0;have c2:wr.cell? ⟨w.heap.size+2,0,none⟩=some (.slice (some ⟨w.heap.size+1,0,none⟩) g.rules.length g.rules.length):=h5.cell 0;go_wp2_with fail;go_ret;exact⟨w.heap.size+1,d,rfl,oR _,h4,Gt.out▸O5.end,x⟩
  ·rw[List.concat_eq_append]at S
   subst S;obtain⟨oa,Z,Ed,Kk⟩:=aB h7;subst Ed;obtain⟨A,rfl,a1,an,a4,M,av⟩:=akY h7;have am:=O5.op r (by simp);have c4:wr.cell? ⟨w.heap.size+4,0,none⟩=some (.slice (some ⟨A,0,none⟩) (op.length+1) Z):=by have:=H.cell 0;simpa using this
   have f4:∀i,wr.frozen? ⟨w.heap.size+4,i,none⟩=false:=H.frozen;unfold maxLen at an;have aq:op.length+1+(g.rules.length-bq d)<=gk:=by simpa using hk
   have a6:op.length+1+(g.rules.length-bq d)<=g.rules.length+1:=by simpa using U
   have Uc:=am.1;obtain⟨gb,a3,va,hv,aa,R,d0,d1⟩:=h.at Uc;cases hv;obtain⟨sa,sc,af,-⟩:=aM.len R;subst af;have O6:gb<w.heap.size:=h.lt gb aa;have ai:wr.cell? ⟨gb,r*2+1,none⟩=some (.slice sa g.rules[r].alts.length sc):=(cJ (w:=w) (x.block gb O6)).trans d1;have JL:Lx.unk g (eY 9 g.rules[r].alts)=none:=MO hu _ (dy Uc);have o:lC g r=g.rules[r].alts:=Rc Uc;have z:∀f,f∈dh 9 g.rules[r].alts->f.kind=0->f.name∈aZ g:=fun f O hk=>jH.1 (I4 JL O hk)
   have D:∀b,b∈aZ g->Lx.fix (aZ g) b<g.rules.length:=fun b E=>by
    have:=(Nf (jH.2 E)).2;simpa [aZ]using this
   obtain⟨w1,I⟩:∃w1,w1=wr.setCell ⟨w.heap.size+4,0,none⟩ (.slice (some ⟨A,0,none⟩) op.length Z):=⟨_,rfl⟩;have ao:A=w.heap.size+3\/w.heap.size+5<=A:=h8 A rfl;have P:RS w.heap.size g.rules.length B num w w1 (d,op):=by
    rw[I];refine⟨h1.other (by omega) _,h2.move (zS0 (by show B≠w.heap.size+4;omega)),h3,h4.other (by omega) _,h5.other (by omega) _,⟨_,H.set 0 _,aC M fun g N=>zS0 (fun e=>?_),fun g N=>?_⟩,h9,x.setCell (p:=⟨w.heap.size+4,0,none⟩) (by show w.heap.size<=w.heap.size+4;omega) _⟩
    ·have e':g=w.heap.size+4:=e
     have T:A=g:=gh N;omega
    ·have T:A=g:=gh N
     rw[<-T];exact ao
   have X:Hid (Lx.RI g s0 (iV (aZ g) (d,op) (oM (lC g r)))/\(iV (aZ g) (d,op) (oM (lC g r))).2.length+bq d=op.length+bq (iV (aZ g) (d,op) (oM (lC g r))).1):=by
    refine Lx.RI.step O5 fun u l=>?_
    rw[o]at l;have e:oM g.rules[r].alts=Dv 9 g.rules[r].alts:=rfl;rw[e,<-RN]at l;obtain⟨f,hit,rfl⟩:=ej.1 l;obtain⟨ah,ak⟩:=ie.1 hit;have:=D _ (z f ah (js ak));rw[C.out];exact this
   have q1:=abm 9 119 120 #[.pointer (some ⟨w.heap.size,0,none⟩),.pointer (some ⟨w.heap.size+2,0,none⟩),.pointer (some ⟨w.heap.size+4,0,none⟩)] (fun f=>decide (f.kind=0)) F w (fun L w'=>(∀p∈L,Lx.fix (aZ g) p.2.name<d.length)/\RS w.heap.size g.rules.length B num w w' (iV (aZ g) (d,op) (L.map fun p=>p.2.name))) (fun p=>p.2.kind=0->p.2.name∈aZ g) aia aib
    (fun w' n m f _ O=>afQ O)
    (fun w' L n m f G _ O ag hq=>by
     have y:f.kind=0:=js ag;have t:=hq y;have Q:=D _ t;obtain⟨new,n1,-,-,n4⟩:=Nj (aZ g) (L.map fun p=>p.2.name) (d,op) (fun u l=>by
      obtain⟨p,j,rfl⟩:=ej.1 l;exact G.1 p j)
     have a2:=Bw (iV (aZ g) (d,op) (L.map fun p=>p.2.name)).1;have Ud:=G.2.len.out;have a7:(iV (aZ g) (d,op) (L.map fun p=>p.2.name)).2.length=op.length+new.length:=by rw[n1,cH]
     refine(afR G.2 O (JK _ t) Q (by omega)).mono ?_;rintro e ax⟨rfl,hR⟩;refine⟨rfl,fun p j=>?_,?_⟩
     ·rcases cY.1 j with j | j
      ·exact G.1 p j
      ·rw[cM.1 j,C.out];exact Q
     ·have e:iV (aZ g) (d,op) ((L++[((⟨n,m*4,none⟩:Addr),f)]).map fun p=>p.2.name)=Lx.vis (aZ g) (iV (aZ g) (d,op) (L.map fun p=>p.2.name)) f.name:=by
       unfold iV;rw[ei,py];rfl
      rw[e];exact hR)
    (fun L w' G b E=>G.2.fr.block b (h.lt b E))
    _ _ R (fun p j y=>z p.2 (by rw[<-Fy R];exact ej.2 ⟨p,j,rfl⟩) y) w1 [] ⟨fun p j=>(by cases j),P⟩
   have uf:((aK 9 w (.slice sa g.rules[r].alts.length sc) g.rules[r].alts).filter fun p=>decide (p.2.kind=0)).map (fun p=>p.2.name)=oM (lC g r):=by
    rw[o];have e:oM g.rules[r].alts=Dv 9 g.rules[r].alts:=rfl;rw[e,<-RN,<-Fy R,List.filter_map,rh];rfl
   rw[go,uf]at q1;clear hk U Kk h7 uf z D o JL K O5 P M h1 h2 h4 h5 H R d0 ae;generalize g.rules[r].alts=al at ai q1;generalize iV (aZ g) (d,op) (oM (lC g r))=s2 at q1 X;go_wp2_with fail;rw[<-I];refine q1.mono ?_;rintro e w2⟨rfl,-,V⟩;have ap:=X.out;have Ud:=Bw s2.1;have a5:=V.len.out;have az:=C.out;have aw:s2.2.length+(g.rules.length-bq s2.1)<=op.length+(g.rules.length-bq d):=by omega
   go_wp2_with fail;go_roundg (s2.2.length+(g.rules.length-bq s2.1))
   case measure=>omega
   case rel=>exact⟨s2,zL0,by omega,V,ap.1⟩
theorem aic(a:Array Value)(w:World):(callFunc 121 a).run prog w=.ok (.enter 121 a) w:=by kernel_rfl
structure ES(lo n B:Nat)(num:ByteArray->Int)(w0 w:World)(bs:List Bool):Prop where
 nb:aj w lo #[.map (some B)] 155
 mp:SMap w B num
 bl:B<lo
 fo:aj w (lo+1) (bE bs) 4
 fv:aj w (lo+2) #[.slice (some ⟨lo+1,0,none⟩) n n] 142
 len:Hid (bs.length=n)
 fr:Below lo w0 w
theorem ES.below{b n B:Nat}{num:ByteArray->Int}{w0 w w':World}{bs:List Bool}(h:ES b n B num w0 w bs)(a:Below w.heap.size w w'):ES b n B num w0 w' bs:=by
 have c:=h.fv.lt;exact⟨(a.block _ (by omega)).trans h.nb,h.mp.move (a.block _ (by have:=h.bl;omega)),h.bl,(a.block _ (by omega)).trans h.fo,(a.block _ c).trans h.fv,h.len,h.fr.trans (a.mono (by omega))⟩
theorem af0{a n B:Nat}{num:ByteArray->Int}{w0 w:World}{bs:List Bool}(h:ES a n B num w0 w bs){q:Nat}{b:ByteArray}(d:num b=(q:Int))(f:q<n):
  Calls prog 121 #[.string b,.pointer (some ⟨a+2,0,none⟩),.pointer (some ⟨a,0,none⟩)] w (uW w (aJ bs q)):=by
 have c:=h.mp.look b;rw[d]at c;have g:w.cell? ⟨a,0,none⟩=some (.map (some B)):=h.nb.cell 0;have j:w.cell? ⟨a+2,0,none⟩=some (.slice (some ⟨a+1,0,none⟩) n n):=h.fv.cell 0;have i:w.cell? ⟨a+1,q,none⟩=some (.bool (aJ bs q)):=(h.fo.cell q).trans (qM bs (by have:=h.len.out;omega));go_enter func121,ntmps121;go_wp2_with fail;go_ret;exact⟨rfl,cV _ _⟩
namespace Lx
structure EI(g:Gr)(s0 bs:List Bool):Prop where
 len:bs.length=g.rules.length
 has:bP s0 bs
 least:∀T,T.length=g.rules.length->bP s0 T->(∀i,i<g.rules.length->qB g i T)->bP bs T
theorem EI.step{g:Gr}{s0 bs:List Bool}(h:EI g s0 bs)(i:Nat):EI g s0 (sV g i bs):=by
 have a:=(MN g).le i bs;exact⟨a.1.symm.trans h.len,h.has.trans a,fun T b h1 h2=>aat g T (fun i c=>h2 i (by omega)) i bs (h.least T b h1 h2)⟩
theorem agZ{g:Gr}{i:Nat}{bs:List Bool}(a:i<g.rules.length)(b:oO (vC g bs) 9 g.rules[i].alts=true):sV g i bs=bs.set i true:=by
 rw[sV,Rc a,de b]
theorem af2{g:Gr}{i:Nat}{bs:List Bool}(b:i<g.rules.length)(h:aJ bs i=true\/oO (vC g bs) 9 g.rules[i].alts=false):qB g i bs:=by
 intro a c;rw[Rc b]at a;rcases h with h|h
 ·exact h
 ·rw[h]at a;cases a
end Lx
def ag0(g:Lx.Gr)(w:World)(e:Ending)(w':World):Prop:=∃o bs,e=.returned (.slice (some ⟨o,0,none⟩) g.rules.length g.rules.length)/\w.heap.size<=o/\aj w' o (bE bs) 4/\wU (qB g) g.rules.length (List.replicate g.rules.length false) bs/\Below w.heap.size w w'
def Av(b:Bool):Nat:=if b=true then 1 else 0
theorem af3{F:Nat->Prop}{w:World}{vR:Value}{g:Lx.Gr}(h:lN F w vR g.rules){B:Nat}{num:ByteArray->Int}(hM:SMap w B num)(JK:∀b,b∈aZ g->num b=(Lx.fix (aZ g) b:Int))(hu:uS g=none)(ac:∀r∈g.rules,∀it∈dh 9 r.alts,it.kind<=2)(ab:g.rules.length<=2001):
  Calls prog 81 #[vR,.map (some B)] w (ag0 g w):=by
 obtain⟨a,c,rfl,hm⟩:=h.len;unfold maxLen at hm;have G:=hM.lt;have aa:=fun w=>YK ab w
 have ai:∀b,b∈aZ g->Lx.fix (aZ g) b<g.rules.length:=fun b m=>by
  have:=(Nf (jH.2 m)).2;simpa [aZ]using this
 go_enter func81,ntmps81;go_wp2_with fail;rw[show w.heap.size+1+1=w.heap.size+2 from rfl];obtain⟨W,C⟩:∃W,W=((w.alloc (.cells #[.map (some B)] 155)).alloc (.cells (bE (List.replicate g.rules.length false)) 4)).alloc (.cells #[.slice (some ⟨w.heap.size+1,0,none⟩) g.rules.length g.rules.length] 142):=⟨_,rfl⟩;rw[<-C];have Ue:ES w.heap.size g.rules.length B num w W (List.replicate g.rules.length false):=by
  have m:Below w.heap.size w W:=by rw[C];exact(((cV _ _).alloc (zL0) _).alloc (by simp) _).alloc (by simp;omega) _
  refine⟨?_,hM.move (m.block B G),G,?_,?_,by show _=_;simp,m⟩
  ·rw[C];exact((aj.new w _ 155).alloc _).alloc _
  ·rw[C]
   have:=(aj.new (w.alloc (.cells #[.map (some B)] 155)) (bE (List.replicate g.rules.length false)) 4).alloc (.cells #[.slice (some ⟨w.heap.size+1,0,none⟩) g.rules.length g.rules.length] 142);simpa using this
  ·rw[C]
   have:=aj.new ((w.alloc (.cells #[.map (some B)] 155)).alloc (.cells (bE (List.replicate g.rules.length false)) 4)) #[.slice (some ⟨w.heap.size+1,0,none⟩) g.rules.length g.rules.length] 142;simpa using this
 have Uf:Lx.EI g (List.replicate g.rules.length false) (List.replicate g.rules.length false):=⟨by simp,bP.refl _,fun T _ h _=>h⟩;obtain⟨s0,z⟩:∃s0,s0=List.replicate g.rules.length false:=⟨_,rfl⟩;have Gt:Hid (s0=List.replicate g.rules.length false):=z;rw[<-z]at Ue Uf;clear z C aa
 go_loopg [7] (g.rules.length+1) (fun k gv wr=>∃(f:List Bool)(l:Bool),gv=.bool l/\(g.rules.length-bq f)+Av l<=k/\ES w.heap.size g.rules.length B num w wr f/\Lx.EI g s0 f/\Hid (l=false->∀i,i<g.rules.length->qB g i f))
 case atStart=>exact⟨s0,true,rfl,by simp[Av],Ue,Uf,fun h=>by cases h⟩
 case round=>
  clear Ue Uf;revert wr;intro wz hrel;obtain⟨f,l,rfl,U,n,u,HC⟩:=hrel;have al:=Bw f;have S:=u.len;cases l with
  |false=>
   have c2:wz.cell? ⟨w.heap.size+2,0,none⟩=some (.slice (some ⟨w.heap.size+1,0,none⟩) g.rules.length g.rules.length):=n.fv.cell 0;have ak:wU (qB g) g.rules.length (List.replicate g.rules.length false) f:=by rw[<-Gt.out];exact⟨u.len,u.has,HC.out rfl,u.least⟩
   have Ky:Hid _:=S;clear S;go_wp2_with fail;go_ret;exact⟨w.heap.size+1,f,rfl,oR _,n.fo,ak,n.fr⟩
  |true=>
   clear HC;have a0:g.rules.length-bq f+1<=gk:=by simpa [Av]using U
   have Ky:Hid (f.length=g.rules.length):=S;clear U S;go_wp2_with fail;have H1:Hid ((false=false->f=f/\∀i,i<g.rules.length->i<0->qB g i f)/\(false=true->bq f<bq f)/\bP f f):=⟨fun _=>⟨rfl,fun i _ h=>(by omega)⟩,fun h=>(by cases h),bP.refl _⟩
   go_loopg [7,17] g.rules.length (fun k gv i wr=>∃(j:Nat)(d:List Bool)(l:Bool),j+k=g.rules.length/\gv=.bool l/\i=.int .i64 j/\ES w.heap.size g.rules.length B num w wr d/\Lx.EI g s0 d/\Hid ((l=false->d=f/\∀i,i<g.rules.length->i<j->qB g i f)/\(l=true->bq f<bq d)/\bP f d))
   case atStart=>exact⟨0,f,false,by omega,rfl,rfl,n,u,H1⟩
   case round=>
    clear H1 n u;obtain⟨j,d,l,aw,rfl,rfl,n,u,t⟩:=hrel;have ax:=n.fv.lt;have az:=n.fo.lt
    by_cases hlt:j<g.rules.length
    ·obtain⟨D,av,va,hv,Y,hA,d0,d1⟩:=h.at hlt
     cases hv;obtain⟨sa,sc,ad,-⟩:=aM.len hA;subst ad;have O6:D<w.heap.size:=h.lt D Y;have am:wr.cell? ⟨D,j*2,none⟩=some (.string g.rules[j].name):=(cJ (w:=w) (n.fr.block D O6)).trans d0;have aq:wr.cell? ⟨D,j*2+1,none⟩=some (.slice sa g.rules[j].alts.length sc):=(cJ (w:=w) (n.fr.block D O6)).trans d1;have JL:Lx.unk g (eY 9 g.rules[j].alts)=none:=MO hu _ (dy hlt);have H:∀it∈dh 9 g.rules[j].alts,BO (fun b=>b∈aZ g) it:=fun it x=>⟨ac _ (dy hlt) it x,fun U=>jH.1 (I4 JL x U)⟩
     obtain⟨Q,v⟩:∃Q,Q=wr.alloc (.cells #[.string g.rules[j].name,.slice sa g.rules[j].alts.length sc] 254):=⟨_,rfl⟩;have ah:Below wr.heap.size wr Q:=by rw[v];exact(cV _ _).alloc (zL0) _
     have O:=n.below ah;have ae:OkW F w (fun E=>ES w.heap.size g.rules.length B num w E d):=⟨fun E q b m=>⟨q.fr.block b (h.lt b m),by have:=q.fv.lt;have:=h.lt b m;omega⟩,fun E ao q m=>q.below m⟩;have af:Ju (fun E=>ES w.heap.size g.rules.length B num w E d) 121 #[.pointer (some ⟨w.heap.size+2,0,none⟩),.pointer (some ⟨w.heap.size,0,none⟩)] (vC g d) (fun b=>b∈aZ g):=⟨aic,fun E b q m=>af0 q (JK b m) (ai b m)⟩;have K:=Y0 9 F w _ ae 121 _ _ _ af _ _ hA H Q O;have X:j<d.length:=by have:=n.len.out;omega
     have c2:wr.cell? ⟨w.heap.size+2,0,none⟩=some (.slice (some ⟨w.heap.size+1,0,none⟩) g.rules.length g.rules.length):=n.fv.cell 0;have o1:wr.cell? ⟨w.heap.size+1,j,none⟩=some (.bool (aJ d j)):=(n.fo.cell j).trans (qM d X);have N:Hid (j<d.length):=X;have M:oO (vC g d) 9 g.rules[j].alts=true->sV g j d=d.set j true:=agZ hlt;have y:(aJ d j=true\/oO (vC g d) 9 g.rules[j].alts=false)->qB g j d:=af2 hlt;have R:Hid _:=M;have I:Hid _:=y;have L:=u.step j;clear M y JL H hA d0 d1 X;cases m:aJ d j with
     |true=>
      have o:Hid ((l=false->d=f/\∀i,i<g.rules.length->i<j+1->qB g i f)/\(l=true->bq f<bq d)/\bP f d):=by
       refine⟨fun J=>?_,t.out.2⟩;have h1:=t.out.1 J;refine⟨h1.1,fun i x V=>?_⟩
       by_cases hij2:i=j
       ·rw[hij2,<-h1.1];exact I.out (.inl m)
       ·exact h1.2 i x (by omega)
      rw[m]at o1;clear t R I K m;go_wp2_with fail;rw[<-v];go_roundg (g.rules.length - (j+1))
      case measure=>omega
      case rel=>exact⟨j+1,d,l,by omega,rfl,by go_num,O,u,o⟩
     |false=>
      rw[m]at o1;cases he:oO (vC g d) 9 g.rules[j].alts with
      |true=>
       have HS:Hid (sV g j d=d.set j true):=R.out he;have KC:Hid (bq (d.set j true)=bq d+1):=Ja N.out m;have o:Hid ((true=false->d.set j true=f/\∀i,i<g.rules.length->i<j+1->qB g i f)/\(true=true->bq f<bq (d.set j true))/\bP f (d.set j true)):=by
        refine⟨fun h=>(by cases h),fun _=>?_,t.out.2.2.trans (bP.set d j)⟩;have:=Lx.cnt_mono t.out.2.2;rw[KC.out];omega
       rw[he]at K;clear t R I m he;go_wp2_with fail;rw[<-v];refine K.mono ?_;rintro e w2⟨rfl,A⟩;have s:=O.below A;have ap:w2.cell? ⟨w.heap.size+2,0,none⟩=some (.slice (some ⟨w.heap.size+1,0,none⟩) g.rules.length g.rules.length):=s.fv.cell 0;have o2:w2.cell? ⟨w.heap.size+1,j,none⟩=some (.bool (aJ d j)):=(s.fo.cell j).trans (qM d N.out);have ar:∀i,w2.frozen? ⟨w.heap.size+1,i,none⟩=false:=s.fo.frozen;have Z:ES w.heap.size g.rules.length B num w (w2.setCell ⟨w.heap.size+1,j,none⟩ (.bool true)) (d.set j true):=by
        refine⟨s.nb.other (by omega) _,s.mp.move (zS0 (by show B≠w.heap.size+1;omega)),s.bl,?_,s.fv.other (by omega) _,?_,s.fr.setCell (p:=⟨w.heap.size+1,j,none⟩) (by show w.heap.size<=w.heap.size+1;omega) _⟩
        ·rw[<-Di];exact s.fo.set j _
        ·show (d.set j true).length=_
         rw[ib];exact s.len.out
       rw[HS.out]at L;go_wp2_with fail;go_roundg (g.rules.length - (j+1))
       case measure=>omega
       case rel=>exact⟨j+1,d.set j true,true,by omega,rfl,by go_num,Z,L,⟨o.out.1,fun _=>o.out.2.1 trivial,o.out.2.2⟩⟩
      |false=>
       have o:Hid ((l=false->d=f/\∀i,i<g.rules.length->i<j+1->qB g i f)/\(l=true->bq f<bq d)/\bP f d):=by
        refine⟨fun J=>?_,t.out.2⟩;have h1:=t.out.1 J;refine⟨h1.1,fun i x V=>?_⟩
        by_cases hij2:i=j
        ·rw[hij2,<-h1.1];exact I.out (.inr he)
        ·exact h1.2 i x (by omega)
       rw[he]at K;clear t R I m he;go_wp2_with fail;rw[<-v];refine K.mono ?_;rintro e w2⟨rfl,A⟩;have s:=O.below A;go_wp2_with fail;go_roundg (g.rules.length - (j+1))
       case measure=>omega
       case rel=>exact⟨j+1,d,l,by omega,rfl,by go_num,s,u,o⟩
    ·have:j=g.rules.length:=by omega
     subst this;have P:=t.out;clear t;have ag:=Ky.out;have an:=Bw d;have yU:=n.len.out;have HX:Hid (g.rules.length-bq d+Av l<=g.rules.length-bq f+Av l/\(l=true->bq f<bq d)/\(l=false->∀i,i<g.rules.length->qB g i d)):=by
      have:=Lx.cnt_mono P.2.2;refine⟨by omega,P.2.1,fun J i x=>?_⟩;have h1:=P.1 J;rw[h1.1];exact h1.2 i x x
     clear P ag yU;have HM:Hid (g.rules.length-bq d+Av l<g.rules.length-bq f+1):=by
      have h1:=HX.out;have h2:=Ky.out;have h3:=n.len.out;show _<_;cases l with
      |true=>have:=h1.2.1 rfl;simp[Av];omega
      |false=>have:=h1.1;simp[Av]at this|-;omega
     go_wp2_with fail;go_roundg (g.rules.length-bq d+Av l)
     case measure=>have:=HM.out;omega
     case rel=>exact⟨d,l,rfl,zL0,n,u,HX.out.2.2⟩
namespace Lx
theorem ZQ:∀(ws:List Wd)(s:List ByteArray),jb s ws=none->(eZ ws).Nodup/\∀b∈eZ ws,b∉s
 | [],_,_=>⟨mf,fun b h=>by cases h⟩
 |w::ws,s,h=>by
  rw[jb]at h
  split at h
  ·cases h
  ·rename_i f
   obtain⟨h1,h2⟩:=ZQ ws _ h;rw[XD];refine⟨qk.2 ⟨fun d=>h2 _ d eh,h1⟩,fun b c=>?_⟩;rcases ee.1 c with rfl|c
   ·exact fun a=>f (Bq.2 a)
   ·exact fun a=>h2 b c (ev _ a)
theorem QF(g:Gr):eZ (ER g)=aZ g:=by unfold eZ ER aZ;rw[rh];rfl
theorem Ri{g:Gr}(h:zX g=none):(aZ g).Nodup:=by
 unfold zX at h;cases h1:jb [] (nI g) with
 |some p=>rw[h1]at h;cases h
 |none=>
  rw[h1]at h;have:=(ZQ _ _ h).1;rw[QF]at this;exact this
theorem ajy{s:ByteArray}{g:Gr}(h:parse s=.ok g):jb [] (told (iG g))=zX g:=ahQ h
theorem Y1{s:ByteArray}{g:Gr}(h:parse s=.ok g):oD (eZ (told (iG g))) (iG g)=uS g:=by
 have k:=EN h;have e:eZ (told (iG g))=lV g++aZ g:=by rw[Mw,EM,QF];rfl
 rw[e,Xw ?_ ?_ _ k,aeS]
 ·rfl
 ·intro b a
  obtain⟨r,f,rfl⟩:=ej.1 a;exact((Fb h).2.1 r f).1
 ·intro b a
  rw[show lV g=eZ (nI g) from rfl]at a;obtain⟨w,c,rfl⟩:=ej.1 a;obtain⟨j,d,c⟩:=gd.1 c;obtain⟨t,i,rfl⟩:=ej.1 c;exact(Fb h).1 j d t i
theorem akZ{g:Gr}{bs:List Bool}(h:wU (Cn g) g.rules.length ((List.replicate g.rules.length false).set 0 true) bs):bs=FN g:=h.unique (agG g _ _ _ (by simp) (zL0))
theorem al4{g:Gr}{bs:List Bool}(h:wU (qB g) g.rules.length (List.replicate g.rules.length false) bs):bs=DK g:=h.unique (ahR g _ _ _ (by simp) (zL0))
end Lx
theorem aeN{F:Nat->Prop}{w:World}{vR vW:Value}{s:ByteArray}{g:Lx.Gr}(m:Lx.parse s=.ok g)(h:lN F w vR g.rules)(q:WR w vW (iG g)):
  Calls prog 43 #[vR,vW] w fun e w'=>e=.returned (.tuple #[.int .i64 ((jY g).1:Int),.int .i64 ((jY g).2:Int)])/\Below w.heap.size w w':=by
 have y:=Fb m;have hsz:=(QS m).1;have u:g.rules.length<=2001:=by
  have h1:g.rules.length<=wV g.rules:=Fx (fun r:Lx.Rl=>1+iO 9 r.alts) fun _ _=>by omega
  omega
 have T:∀r∈g.rules,∀X∈dh 9 r.alts,X.kind<=2:=fun r hr X hi=>by rcases (y.2.1 r hr).2.1 X hi with h | h | h <;> omega
 have K:=agM q;rw[ajy m]at K;obtain⟨wa,wc,rfl,-⟩:=q.len;obtain⟨ra,rc,rfl,-⟩:=h.len;have A:Hid (jY g=qD 4 (zX g) (qD 5 (uS g) (qD 6 (qO g.rules (FN g)) (qD 7 (qO g.rules (DK g)) (0,0))))):=rfl;generalize hcr:jY g=cr at A;clear hcr;go_enter func43,ntmps43;go_wp2_with fail;refine K.mono ?_;rintro e w1⟨rfl,c⟩;cases hd:zX g with
 |some p=>
  have d:Hid (cr=(4,p)):=by have:=A.out;rw[hd]at this;exact this
  have f:((p:Int) != -1)=true:=j8.2 (by omega);clear A K hd;unfold xM;go_wp2_with fail;refine fx (v:=.tuple #[.int .i64 4,.int .i64 (p:Int)]) (by simp[results,results43,go_sem]) rfl ⟨?_,c⟩;rw[d.out];rfl
 |none=>
  have E:=afi (q.below c);rw[Y1 m]at E;have Q:=Ri hd;have H:Hid (cr=qD 5 (uS g) (qD 6 (qO g.rules (FN g)) (qD 7 (qO g.rules (DK g)) (0,0)))):=by have:=A.out;rw[hd]at this;exact this
  clear A K hd;unfold xM;go_wp2_with fail;refine E.mono ?_;rintro e w2⟨rfl,U⟩;have D:=c.trans (U.mono c.size);cases hu:uS g with
  |some p=>
   have d:Hid (cr=(5,p)):=by have:=H.out;rw[hu]at this;exact this
   have f:((p:Int) != -1)=true:=j8.2 (by omega);clear H E hu;unfold xM;go_wp2_with fail;refine fx (v:=.tuple #[.int .i64 5,.int .i64 (p:Int)]) (by simp[results,results43,go_sem]) rfl ⟨?_,D⟩;rw[d.out];rfl
  |none=>
   have d:Hid (cr=qD 6 (qO g.rules (FN g)) (qD 7 (qO g.rules (DK g)) (0,0))):=by have:=H.out;rw[hu]at this;exact this
   have q3:=afj (h.below D);have HU:Hid (uS g=none):=hu;clear H E hu;unfold xM;go_wp2_with fail;refine q3.mono ?_;rintro e w3⟨B,num,rfl,ae,J,JK,S⟩;have R:=D.trans (S.mono D.size);have z:∀b,b∈aZ g->num b=(Lx.fix (aZ g) b:Int):=by
    intro b hb;have i:=(Nf (jH.2 hb)).2;have ac:Lx.fix (aZ g) b<g.rules.length:=by simpa [aZ]using i
    have W:(aZ g)[Lx.fix (aZ g) b]=b:=js (pC (w:=i));have M:g.rules[Lx.fix (aZ g) b].name=b:=by
     have:(aZ g)[Lx.fix (aZ g) b]=g.rules[Lx.fix (aZ g) b].name:=by simp[aZ]
     rw[<-this];exact W
    have:=JK _ ac (fun k hk N e=>by
     have m:=lr.1 Q _ k i (by simpa [aZ]using hk) N;apply m;simp only[aZ,oi];exact e.symm)
    rw[M]at this;exact this
   have q4:=aft (h.below R) J z HU.out y.2.2 u;clear q3;go_wp2_with fail;refine q4.mono ?_;rintro e w4⟨o,bs,rfl,Vn,aa,a,j⟩;have Y:=R.trans (j.mono R.size);have l:=akZ a;have I:=Xc (q.below Y) aa a.len (by rw[ZF];exact zL0);rw[abk g bs (by rw[a.len];exact zL0),l]at I;clear q4;go_wp2_with fail;refine I.mono ?_;rintro e w5⟨rfl,t⟩;have G:=Y.trans (t.mono Y.size);cases hf:qO g.rules (FN g) with
   |some p=>
    have n:Hid (cr=(6,p)):=by have:=d.out;rw[hf]at this;exact this
    have f:((p:Int) != -1)=true:=j8.2 (by omega);clear d I hf l a;unfold xM;go_wp2_with fail;refine fx (v:=.tuple #[.int .i64 6,.int .i64 (p:Int)]) (by simp[results,results43,go_sem]) rfl ⟨?_,G⟩;rw[n.out];rfl
   |none=>
    have n:Hid (cr=qD 7 (qO g.rules (DK g)) (0,0)):=by have:=d.out;rw[hf]at this;exact this
    have eP:SMap w5 B num:=J.move ((t.block B (by have:=J.lt;have:=j.size;omega)).trans (j.block B J.lt));have q6:=af3 (h.below G) eP z HU.out T u;clear d I hf l a;unfold xM;go_wp2_with fail;refine q6.mono ?_;rintro e w6⟨o6,Z,rfl,ad,Ap,C,ab⟩;have V:=G.trans (ab.mono G.size);have O:=al4 C;have L:=Xc (q.below V) Ap C.len (by rw[ZF];exact zL0);rw[abk g Z (by rw[C.len];exact zL0),O]at L;clear q6;go_wp2_with fail;refine L.mono ?_;rintro e w7⟨rfl,gJ⟩;have x:=V.trans (gJ.mono V.size);cases hf:qO g.rules (DK g) with
    |some p=>
     have P:Hid (cr=(7,p)):=by have:=n.out;rw[hf]at this;exact this
     have f:((p:Int) != -1)=true:=j8.2 (by omega);clear n L hf O C;unfold xM;go_wp2_with fail;refine fx (v:=.tuple #[.int .i64 7,.int .i64 (p:Int)]) (by simp[results,results43,go_sem]) rfl ⟨?_,x⟩;rw[P.out];rfl
    |none=>
     have P:Hid (cr=(0,0)):=by have:=n.out;rw[hf]at this;exact this
     clear n L hf O C;unfold xM;go_wp2_with fail;refine fx (v:=.tuple #[.int .i64 0,.int .i64 0]) (by simp[results,results43,go_sem]) rfl ⟨?_,x⟩;rw[P.out];rfl
namespace Lx
theorem Xk:∀{ws:List Wd}{all:List ByteArray},oD all ws=none->∀x∈ws,(x.1=2\/x.1=4)->x.2.1∈all
 | [],_,_,x,a,_=>by cases a
 |w::ws,all,h,x,a,hr=>by
  rw[oD]at h
  split at h
  ·cases h
  ·rename_i b
   rcases ee.1 a with rfl|a
   ·cases hm:iI x.2.1 all with
    |true=>exact Bq.1 hm
    |false=>exact absurd ⟨hr,hm⟩ b
   ·exact Xk h x a hr
theorem ajz{s:ByteArray}{g:Gr}(b:parse s=.ok g)(k:uS g=none):∀x∈iG g,x.1=4->x.2.1∈lV g:=by
 intro x d h4;have h1:=Y1 b;rw[k]at h1;have h2:=Xk h1 x d (.inr h4);have e:eZ (told (iG g))=lV g++aZ g:=by rw[Mw,EM,QF];rfl
 rw[e]at h2;rcases cY.1 h2 with h2|h2
 ·exact h2
 ·exfalso
  obtain⟨r,i,j⟩:=ej.1 h2;have a:isName r.name=true:=((Fb b).2.1 r i).1;rcases EN b x d with ⟨f,-⟩|⟨-,f⟩
  ·omega
  ·have c:r.name=x.2.1:=j
   rw[c,XH f]at a;cases a
theorem ag1{s:ByteArray}{g:Gr}(a:parse s=.ok g):∀x∈iG g,x.2.1.size<=2000:=by
 intro x b;rcases EN a x b with ⟨-,h⟩|⟨-,h⟩
 ·have:=ZM h;omega
 ·have:=agS h;omega
theorem af4{s:ByteArray}{g:Gr}(a:parse s=.ok g):∀x∈iG g,¬x.1=1->¬x.1=2->x.2.1≠lq:=by
 intro x b h1 h2 e;rcases EN a x b with ⟨h,-⟩|⟨-,h⟩
 ·rcases h with h | h
  ·exact h1 h
  ·exact h2 h
 ·rw[e]at h
  revert h;decide
end Lx
section
variable {g:Lx.Gr} {fS:ByteArray -> Int}
theorem abt(f:Lx.Fit g)(d:xu (aD g).length g.rules g.rules.length (jd (aD g)) fS){c:ByteArray}(b:Lx.isToken c=true)(a:0<=bW (aD g) c):fS c=(Lx.fix (aD g) c:Int):=by
 rw[d.tok c fun i j _ e=>?_]
 ·unfold jd
  rw[de a];unfold bW at a|-
  split at a
  ·rename_i h1;rw[de h1]
  ·omega
 ·have:=(f.rl _ (dy j)).1
  rw[e,XH b]at this;cases this
theorem ajA(d:Lx.Fit g)(f:xu (aD g).length g.rules g.rules.length (jd (aD g)) fS){c:ByteArray}(j:c∈aZ g):fS c=(((aD g).length+Lx.fix (bI g) c:Nat):Int):=by
 obtain⟨r,a,rfl⟩:=ej.1 j;obtain⟨i,b,rfl⟩:=li a;rw[f.rule i b b];have:=akU (fun r a=>(d.rl r a).1) (Ri d.dup) b;have e:bI g=aS g.rules:=rfl;rw[e,this]
theorem ZR(a:Lx.Fit g)(f:xu (aD g).length g.rules g.rules.length (jd (aD g)) fS){r:Lx.Rl}(b:r∈g.rules){x:Lx.It}(d:x∈dh 9 r.alts)(i:x.kind≠2):fS x.name=(xq (aD g) (bI g) x:Int):=by
 have c:=a.plain b d i;unfold zT at c;unfold xq;rcases (a.rl r b).2.1 x d with h2|h2|h2
 ·rw[dk (by omega)]
  exact ajA a f (jH.1 (I4 (a.TN b) d h2.1))
 ·rw[de h2.1]at c|-
  exact abt a f h2.2.1 c
 ·exact absurd h2 i
end
theorem ajB{g:Lx.Gr}{F:Nat->Prop}{w:World}{y:Value}{C:ByteArray->Int}{z:Addr->Int}(f:Lx.Fit g)(X:lN F w y g.rules)(v:Apart F w (Si w (aQ y) 0 g.rules))(A:xu (aD g).length g.rules g.rules.length (jd (aD g)) C)(R:xw w (aQ y) (aD g).length g.rules g.rules.length z){G:Nat->Prop}(O:∀b,F b->iU w b->G b):∀i(hi:i<g.rules.length),ac1 w F G C z (aD g) (bI g) (cv w ⟨aQ y,i*2+1,none⟩) g.rules[i] ((aD g).length+(aS (g.rules.take i)).length):=by
 intro i hi;have j:=dy hi;obtain⟨N,J,l,S,V,t,c0,Y⟩:=X.at hi;subst S;have W:aQ (.slice (some ⟨N,0,none⟩) g.rules.length J)=N:=rfl;rw[W]at v R|-;have M:cv w ⟨N,i*2+1,none⟩=l:=by unfold cv;rw[Y];rfl
 have u:∀k p,(hlA w l g.rules[i].alts)[k]?=some p->z p.1=(((aD g).length+(aS (g.rules.take i)).length+1+k:Nat):Int):=fun k p c=>R i hi hi k p (by rw[M];exact c)
 rw[M];have d:∀p∈aK 9 w l g.rules[i].alts,p.2∈dh 9 g.rules[i].alts:=fun p c=>by rw[<-Fy t];exact ej.2 ⟨p,c,rfl⟩
 have x:∀p∈aK 9 w l g.rules[i].alts,F p.1.block/\iU w p.1.block:=fun p c=>v.1 p (QU g.rules 0 i (cF hi) (by rw[fi,M];exact c))
 have s:∀p∈aK 9 w l g.rules[i].alts,z8 C z p=(yS (aD g) (bI g) ((aD g).length+(aS (g.rules.take i)).length) (bB 9 g.rules[i].alts) p.2:Int):=by
  intro p c;unfold z8 yS
  by_cases hlp:Lx.hlp p.2=true
  ·rw[de hlp,de hlp]
   have E:p∈hlA w l g.rules[i].alts:=ie.2 ⟨c,hlp⟩;obtain⟨k,L,rfl⟩:=li E;rw[u k _ (cF L)];have D:=abp t;have o:k<(bB 9 g.rules[i].alts).length:=by rw[<-Sj t];exact L
   have P:(bB 9 g.rules[i].alts)[k]=((hlA w l g.rules[i].alts)[k]).2:=by
    have B:((hlA w l g.rules[i].alts).map Prod.snd)[k]?=(bB 9 g.rules[i].alts)[k]?:=by rw[D]
    rw[dj,cF L,cF o]at B;simpa using B.symm
   have I:zY (bB 9 g.rules[i].alts) ((hlA w l g.rules[i].alts)[k]).2.place<(bB 9 g.rules[i].alts).length:=abo (by rw[<-P];exact dy o);have:=(ajp (f.rise j) o I).1 (by rw[P]);rw[<-this]
  ·rw[dk hlp,dk hlp]
   refine ZR f A j (d p c) fun h2=>hlp ?_
   simp[Lx.hlp,h2]
 refine⟨?_,fun p c=>⟨(x p c).1,O _ (x p c).1 (x p c).2,fun h2=>ZR f A j (d p c) h2,?_,?_,?_⟩,s,u,?_,?_,?_,?_,f.amD j _ _ _⟩
 ·exact A.rule i hi hi
 ·have:=(f.its j (d p c)).1;omega
 ·intro a r
  have:=(f.its j (d p c)).2 a r;omega
 ·obtain⟨n,m,Z,U,h1,h2,h3,h4,B,K⟩:=abr t c
  exact⟨n,m,Z,U,h1,h4,B,fun q H=>⟨O _ (x q (K q H)).1 (x q (K q H)).2,s q (K q H)⟩⟩
 ·intro a r Q
  have T:=f.prec j r Q;rcases (f.rl _ j).2.2 a r with h1|h1
  ·exact absurd h1 Q
  ·exact abt f A h1 T
 ·have:=(f.alts j).1;omega
 ·intro a r
  have:=(f.alts j).2 a r;omega
 ·rw[Sj t]
  have:=f.adC j;omega
end Go.Proofs.YtagkodkijkpemaaGreatDoor
