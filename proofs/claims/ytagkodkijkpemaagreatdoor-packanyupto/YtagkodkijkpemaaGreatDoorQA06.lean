import Derived.Test.YtagkodkijkpemaaGreatDoorQA05
set_option maxHeartbeats 8000000
set_option maxRecDepth 1000000
namespace Go.Proofs.YtagkodkijkpemaaGreatDoor
open Lx Go.Proofs.Tryz
open Go.RowKit Tr
def Ey(va:Value)(it:Lx.It):Value:=.agg #[.int .i64 (it.kind:Int),.string it.name,.int .u8 (it.mark:Int),va]
def KG(vi:Value)(a:Lx.Alt):Value:=.agg #[vi,.string a.2.1]
structure OkW(F:Nat->Prop)(w0:World)(Ok:World->Prop):Prop where
 fr:∀w,Ok w->∀b,F b->w.heap[b]?=w0.heap[b]?/\b<w.heap.size
 up:∀w w',Ok w->Below w.heap.size w w'->Ok w'
def uX(w:World)(b:Bool)(e:Ending)(w':World):Prop:=e=.returned (.bool b)/\Below w.heap.size w w'
theorem agK{F:Nat->Prop}{w0:World}{D:World->Prop}(I:OkW F w0 D){z:Nat}{caps:Array Value}(P:∀(ar:Array Value)(w:World),(callFunc z ar).run prog w=.ok (.enter z ar) w){d:Nat}{pr:Lx.It->Bool}{R:Lx.It->Prop}
  (Z:∀(w':World)(va:Value)(it:Lx.It),D w'->aO YP d F w0 va it.alts->R it->Calls prog z (#[Ey va it]++caps) w' (uX w' (pr it)))
  {B:Value} {its:List Lx.It} (M:jH YP d F w0 B its) (T:∀it∈its,R it) {w:World} (Y:D w) :
  Calls prog 178 #[B,.func (.func z) #[] caps] w fun e w'=>∃q:Int,e=.returned (.int .i64 q)/\(0<=q↔its.any pr=true)/\Below w.heap.size w w':=by
 obtain⟨ia,ic,W,H⟩:∃a c,B=.slice a its.length c/\its.length<=maxLen:=Seq.len (show Tr.Seq F w0 YP.eI YP.sI YP.cI (fun va it=>aO YP d F w0 va it.alts) B its from M);subst W;unfold maxLen at H;go_enter func178,ntmps178;go_wp2_with fail
 go_loopg [8] its.length (fun k i wr=>∃j:Nat,j+k=its.length/\i=.int .i64 j/\Below w.heap.size w wr/\Hid (∀m(r:m<its.length),m<j->pr its[m]=false))
 case atStart=>exact⟨0,by omega,rfl,cV _ _,fun m _ h=>by omega⟩
 case round=>
  obtain⟨j,hk,rfl,l,A⟩:=hrel;have f:=I.up _ _ Y l
  by_cases hlt:j<its.length
  ·have o:=M
   unfold jH wV at o;obtain⟨n,Ec,va,S,L,J,g⟩:=Seq.at o (fun _=>rfl) hlt;cases S;have C:=T its[j] (du hlt);have s:=Z wr va its[j] f J C;obtain⟨X,O,E,-⟩:=aO.len J;subst E;have en:=(I.fr _ f n L).1;have ln:=(I.fr _ f n L).2;have V:wr.cell? ⟨n,j*4,none⟩=some (.int .i64 (its[j].kind:Int)):=(cM (w:=w0) en).trans (g 0 (by decide));have U:wr.cell? ⟨n,j*4+1,none⟩=some (.string its[j].name):=(cM (w:=w0) en).trans (g 1 (by decide));have N:wr.cell? ⟨n,j*4+2,none⟩=some (.int .u8 (its[j].mark:Int)):=(cM (w:=w0) en).trans (g 2 (by decide));have Q:wr.cell? ⟨n,j*4+3,none⟩=some (.slice X its[j].alts.length O):=(cM (w:=w0) en).trans (g 3 (by decide));unfold Ey at s;have v:Hid (∀b,pr its[j]=b->(b=true->its.any pr=true)/\(b=false->∀m(r:m<its.length),m<j+1->pr its[m]=false)):=by
    intro b K;refine⟨fun h=>oX.2 ⟨its[j],du hlt,by rw[K,h]⟩,fun h m r aa=>?_⟩
    by_cases Uw:m=j
    ·subst Uw;rw[K,h]
    ·exact A.out m r (by omega)
   clear g o A;generalize hit:its[j]=it at s V U N Q v;clear hit;go_wp2_with fail;refine s.mono ?_;rintro e w2⟨rfl,G⟩;have t:=l.trans (G.mono l.size);cases p:pr it with
   |true=>
    have u:=(v.out true p).1 rfl;have y:Hid (its.any pr=true):=u;clear v u p s;go_wp2_with fail;go_ret;exact⟨_,rfl,⟨fun _=>y.out,fun _=>by omega⟩,t⟩
   |false=>
    have y:Hid _:=(v.out false p).2 rfl;clear v p s;go_wp2_with fail;go_roundg (its.length - (j+1))
    case measure=>omega
    case rel=>exact⟨j+1,by omega,by go_num,t,y⟩
  ·have:j=its.length:=by omega
   subst this;have y:Hid (¬its.any pr=true):=by
    intro h;obtain⟨x,hx,p⟩:=oX.1 h;obtain⟨m,r,rfl⟩:=pN.1 hx;rw[A.out m r r]at p;cases p
   clear A;go_wp2_with fail;go_ret;exact⟨_,rfl,⟨fun h=>by omega,fun h=>absurd h y.out⟩,l⟩
theorem ahI{F:Nat->Prop}{w0:World}{B:World->Prop}(H:OkW F w0 B){z:Nat}{caps:Array Value}(O:∀(ar:Array Value)(w:World),(callFunc z ar).run prog w=.ok (.enter z ar) w){d:Nat}{pr:Lx.Alt->Bool}{R:Lx.Alt->Prop}
  (X:∀(w':World)(va:Value)(it:Lx.Alt),B w'->jH YP d F w0 va it.1->R it->Calls prog z (#[KG va it]++caps) w' (uX w' (pr it)))
  {I:Value} {its:List Lx.Alt} (M:aO YP (d+1) F w0 I its) (Q:∀it∈its,R it) {w:World} (W:B w) :
  Calls prog 177 #[I,.func (.func z) #[] caps] w fun e w'=>∃q:Int,e=.returned (.int .i64 q)/\(0<=q↔its.any pr=true)/\Below w.heap.size w w':=by
 obtain⟨ia,ic,U,G⟩:∃a c,I=.slice a its.length c/\its.length<=maxLen:=aO.len M;subst U;unfold maxLen at G;go_enter func177,ntmps177;go_wp2_with fail
 go_loopg [8] its.length (fun k i wr=>∃j:Nat,j+k=its.length/\i=.int .i64 j/\Below w.heap.size w wr/\Hid (∀m(p:m<its.length),m<j->pr its[m]=false))
 case atStart=>exact⟨0,by omega,rfl,cV _ _,fun m _ h=>by omega⟩
 case round=>
  obtain⟨j,hk,rfl,g,A⟩:=hrel;have f:=H.up _ _ W g
  by_cases hlt:j<its.length
  ·have t:=M
   obtain⟨n,Ec,va,P,L,J,o⟩:=Seq.at t (fun _=>rfl) hlt;cases P;have C:=Q its[j] (du hlt);have r:=X wr va its[j] f J C;obtain⟨V,N,D,-⟩:∃a c,va=.slice a its[j].1.length c/\its[j].1.length<=maxLen:=Seq.len (show Tr.Seq F w0 YP.eI YP.sI YP.cI (fun va it=>aO YP d F w0 va it.alts) va its[j].1 from J);subst D;have en:=(H.fr _ f n L).1;have ln:=(H.fr _ f n L).2;have T:wr.cell? ⟨n,j*2,none⟩=some (.slice V its[j].1.length N):=(cM (w:=w0) en).trans (o 0 (by decide));have S:wr.cell? ⟨n,j*2+1,none⟩=some (.string its[j].2.1):=(cM (w:=w0) en).trans (o 1 (by decide));unfold KG at r;have v:Hid (∀b,pr its[j]=b->(b=true->its.any pr=true)/\(b=false->∀m(p:m<its.length),m<j+1->pr its[m]=false)):=by
    intro b K;refine⟨fun h=>oX.2 ⟨its[j],du hlt,by rw[K,h]⟩,fun h m p Z=>?_⟩
    by_cases Uw:m=j
    ·subst Uw;rw[K,h]
    ·exact A.out m p (by omega)
   clear o t A;generalize hit:its[j]=it at r T S v;clear hit;go_wp2_with fail;refine r.mono ?_;rintro e w2⟨rfl,E⟩;have s:=g.trans (E.mono g.size);cases l:pr it with
   |true=>
    have u:=(v.out true l).1 rfl;have y:Hid (its.any pr=true):=u;clear v u l r;go_wp2_with fail;go_ret;exact⟨_,rfl,⟨fun _=>y.out,fun _=>by omega⟩,s⟩
   |false=>
    have y:Hid _:=(v.out false l).2 rfl;clear v l r;go_wp2_with fail;go_roundg (its.length - (j+1))
    case measure=>omega
    case rel=>exact⟨j+1,by omega,by go_num,s,y⟩
  ·have:j=its.length:=by omega
   subst this;have y:Hid (¬its.any pr=true):=by
    intro h;obtain⟨x,Y,l⟩:=oX.1 h;obtain⟨m,p,rfl⟩:=pN.1 Y;rw[A.out m p p]at l;cases l
   clear A;go_wp2_with fail;go_ret;exact⟨_,rfl,⟨fun h=>by omega,fun h=>absurd h y.out⟩,g⟩
theorem aft{F:Nat->Prop}{w0:World}{i:World->Prop}(o:OkW F w0 i){g:Nat}{caps:Array Value}(j:∀(ar:Array Value)(w:World),(callFunc g ar).run prog w=.ok (.enter g ar) w){d:Nat}{pr:Lx.It->Bool}{R:Lx.It->Prop}
  (t:∀(w':World)(va:Value)(it:Lx.It),i w'->aO YP d F w0 va it.alts->R it->Calls prog g (#[Ey va it]++caps) w' (uX w' (pr it)))
  {f:Value} {its:List Lx.It} (k:jH YP d F w0 f its) (r:∀it∈its,R it) {w:World} (s:i w) :
  Calls prog 159 #[f,.func (.func g) #[] caps] w (uX w (its.any pr)):=by
 have l:=agK o j t k r s;obtain⟨u,v,m,-⟩:∃a c,f=.slice a its.length c/\its.length<=maxLen:=Seq.len (show Tr.Seq F w0 YP.eI YP.sI YP.cI (fun va it=>aO YP d F w0 va it.alts) f its from k);subst m;go_enter func159,ntmps159;go_wp2_with fail;refine l.mono ?_;rintro e w2⟨q,rfl,b,p⟩;have n:Hid (decide (0<=q)=its.any pr):=by
  show _=_;cases ha:its.any pr with
  |true=>exact fi (b.2 ha)
  |false=>exact eE fun h=>by rw[b.1 h]at ha;cases ha
 clear b l;go_wp2_with fail;go_ret;refine⟨?_,p⟩;rw[<-n.out];rfl
theorem XP{F:Nat->Prop}{w0:World}{g:World->Prop}(o:OkW F w0 g){f:Nat}{caps:Array Value}(i:∀(ar:Array Value)(w:World),(callFunc f ar).run prog w=.ok (.enter f ar) w){d:Nat}{pr:Lx.Alt->Bool}{R:Lx.Alt->Prop}
  (t:∀(w':World)(va:Value)(it:Lx.Alt),g w'->jH YP d F w0 va it.1->R it->Calls prog f (#[KG va it]++caps) w' (uX w' (pr it)))
  {j:Value} {its:List Lx.Alt} (k:aO YP (d+1) F w0 j its) (r:∀it∈its,R it) {w:World} (s:g w) :
  Calls prog 157 #[j,.func (.func f) #[] caps] w (uX w (its.any pr)):=by
 have l:=ahI o i t k r s;obtain⟨u,v,m,-⟩:∃a c,j=.slice a its.length c/\its.length<=maxLen:=aO.len k;subst m;go_enter func157,ntmps157;go_wp2_with fail;refine l.mono ?_;rintro e w2⟨q,rfl,b,p⟩;have n:Hid (decide (0<=q)=its.any pr):=by
  show _=_;cases ha:its.any pr with
  |true=>exact fi (b.2 ha)
  |false=>exact eE fun h=>by rw[b.1 h]at ha;cases ha
 clear b l;go_wp2_with fail;go_ret;refine⟨?_,p⟩;rw[<-n.out];rfl
theorem aav(a:Array Value)(w:World):(callFunc 158 a).run prog w=.ok (.enter 158 a) w:=by kernel_rfl
theorem aiV(a:Array Value)(w:World):(callFunc 160 a).run prog w=.ok (.enter 160 a) w:=by kernel_rfl
def BZ(P:ByteArray->Prop)(it:Lx.It):Prop:=it.kind<=2/\(it.kind=0->P it.name)
structure JE(Ok:World->Prop)(nf:Nat)(caps:Array Value)(on:ByteArray->Bool)(P:ByteArray->Prop):Prop where
 cf:∀(ar:Array Value)(w:World),(callFunc nf ar).run prog w=.ok (.enter nf ar) w
 says:∀(w':World)(b:ByteArray),Ok w'->P b->Calls prog nf (#[.string b]++caps) w' (uX w' (on b))
def Dr(d:Nat):Prop:=∀(F:Nat->Prop)(w0:World)(Ok:World->Prop),OkW F w0 Ok->∀(nf:Nat)(caps:Array Value)(on:ByteArray->Bool)(P:ByteArray->Prop),JE Ok nf caps on P ->
 ∀(v:Value)(l:List Lx.Alt),aO YP d F w0 v l->(∀it∈dm d l,BZ P it)->∀w,Ok w->Calls prog 122 #[v,.func (.func nf) #[] caps] w (uX w (pz on d l))
theorem af8{d:Nat}(E:Dr d){F:Nat->Prop}{w0:World}{n:World->Prop}(B:OkW F w0 n){s:Nat}{caps:Array Value}{on:ByteArray->Bool}{P:ByteArray->Prop}(q:JE n s caps on P)
  {y:Value} {a:Lx.It} (u:aO YP d F w0 y a.alts) (A:∀x∈xC d a,BZ P x) {w:World} (J:n w) :
  Calls prog 161 #[Ey y a,.func (.func s) #[] caps] w (uX w (uQ on d a)):=by
 obtain⟨I,C,r,-⟩:=aO.len u;subst r;have hit:=A a ed;have m:∀x∈dm d a.alts,BZ P x:=fun x K=>A x (ei _ K)
 unfold Ey;obtain⟨W,i⟩:∃W,W=w.alloc (.cells #[.int .i64 (a.kind:Int),.string a.name,.int .u8 (a.mark:Int),.slice I a.alts.length C] 262):=⟨_,rfl⟩;have b:Below w.heap.size w W:=by rw[i];exact(cV _ _).alloc (zL0) _
 have z:=B.up _ _ J b;have D:=q.cf;have j:Hid (uQ on d a=(decide (a.kind=1) || decide (a.mark=42) || decide (a.mark=63) || (decide (a.kind=0) && on a.name) || (decide (a.kind=2) && pz on d a.alts))):=rfl;go_enter func161,ntmps161
 by_cases h1:a.mark=42\/a.mark=63\/a.kind=1
 ·have f:Hid (uQ on d a=true):=by
   show _=_;rw[j.out];rcases h1 with h|h|h <;> simp[h]
  have g:(a.mark=42)\/(a.mark≠42/\a.mark=63)\/(a.mark≠42/\a.mark≠63/\a.kind=1):=by
   rcases h1 with h|h|h
   ·exact .inl h
   ·exact .inr (.inl ⟨by omega,h⟩)
   ·by_cases h2:a.mark=42
    ·exact .inl h2
    ·by_cases h3:a.mark=63
     ·exact .inr (.inl ⟨h2,h3⟩)
     ·exact .inr (.inr ⟨h2,h3,h⟩)
  clear h1;rcases g with h|⟨h,o⟩|⟨h,o,k⟩
  ·have p:((a.mark:Int) == 42)=true:=by simp[h]
   clear h;go_wp2_with fail;go_ret;exact⟨by rw[f.out];rfl,i▸b⟩
  ·have p:((a.mark:Int) == 42)=false:=zB0 (by omega)
   have v:((a.mark:Int) == 63)=true:=by simp[o]
   clear h o;go_wp2_with fail;go_ret;exact⟨by rw[f.out];rfl,i▸b⟩
  ·have p:((a.mark:Int) == 42)=false:=zB0 (by omega)
   have v:((a.mark:Int) == 63)=false:=zB0 (by omega);have G:((a.kind:Int) == 1)=true:=by simp[k]
   clear h o k;go_wp2_with fail;go_ret;exact⟨by rw[f.out];rfl,i▸b⟩
 ·have h2:a.mark≠42/\a.mark≠63/\a.kind≠1:=⟨fun e=>h1 (.inl e),fun e=>h1 (.inr (.inl e)),fun e=>h1 (.inr (.inr e))⟩
  have p:((a.mark:Int) == 42)=false:=zB0 (by omega);have v:((a.mark:Int) == 63)=false:=zB0 (by omega);have G:((a.kind:Int) == 1)=false:=zB0 (by omega);clear h1
  by_cases h0:a.kind=0
  ·have f:Hid (uQ on d a=on a.name):=by
    show _=_;rw[j.out];simp[h0,h2.1,h2.2.1]
   have H:((a.kind:Int) == 0)=true:=by simp[h0]
   have t:=q.says W a.name z (hit.2 h0);clear h0 h2 j hit;go_wp2_with fail;rw[<-i];refine t.mono ?_;rintro e w2⟨rfl,c⟩;go_wp2_with fail;go_ret;exact⟨by rw[f.out];rfl,b.trans (c.mono b.size)⟩
  ·have l:a.kind=2:=by have:=hit.1;omega
   have f:Hid (uQ on d a=pz on d a.alts):=by
    show _=_;rw[j.out];simp[l,h2.1,h2.2.1]
   have H:((a.kind:Int) == 0)=false:=zB0 (by omega);have t:=E F w0 n B s caps on P q _ _ u m W z;clear h0 h2 j hit l;go_wp2_with fail;rw[<-i];refine t.mono ?_;rintro e w2⟨rfl,c⟩;go_wp2_with fail;go_ret;exact⟨by rw[f.out];rfl,b.trans (c.mono b.size)⟩
theorem OkW.box{F:Nat->Prop}{w0:World}{f:World->Prop}(h:OkW F w0 f)(d:Nat)(v:Value):OkW F w0 (fun w=>f w/\aj w d #[v] 186) :=
 ⟨fun w a b c=>h.fr w a.1 b c,fun w g a c=>⟨h.up w g a.1 c,(c.block d a.2.lt).trans a.2⟩⟩
theorem aiW{d:Nat}(v:Dr d){F:Nat->Prop}{w0:World}{b:World->Prop}(n:OkW F w0 b){j:Nat}{caps:Array Value}{on:ByteArray->Bool}{P:ByteArray->Prop}(t:JE b j caps on P){f:Nat}
  {o:Value} {a:Lx.It} (l:aO YP d F w0 o a.alts) (p:∀x∈xC d a,BZ P x) {w:World} (u:b w) (m:aj w f #[.func (.func j) #[] caps] 186) :
  Calls prog 160 #[Ey o a,.pointer (some ⟨f,0,none⟩)] w (uX w (!uQ on d a)):=by
 obtain⟨s,r,g,-⟩:=aO.len l;subst g;obtain⟨W,k⟩:∃W,W=w.alloc (.cells #[.int .i64 (a.kind:Int),.string a.name,.int .u8 (a.mark:Int),.slice s a.alts.length r] 262):=⟨_,rfl⟩;have c:Below w.heap.size w W:=by rw[k];exact(cV _ _).alloc (zL0) _
 have y:=n.up _ _ u c;have q:=af8 v n t l p y;have z:w.cell? ⟨f,0,none⟩=some (.func (.func j) #[] caps):=m.cell 0;have le:=m.lt;unfold Ey at q|-;go_enter func160,ntmps160;go_wp2_with fail;rw[<-k];refine q.mono ?_;rintro e w2⟨rfl,i⟩;go_wp2_with fail;go_ret;exact⟨rfl,c.trans (i.mono c.size)⟩
theorem aiX{d:Nat}(G:Dr d){F:Nat->Prop}{w0:World}{m:World->Prop}(n:OkW F w0 m){k:Nat}{caps:Array Value}{on:ByteArray->Bool}{P:ByteArray->Prop}(C:JE m k caps on P){f:Nat}
  {j:Value} {a:Lx.Alt} (s:jH YP d F w0 j a.1) (y:∀x∈qY d a.1,BZ P x) {w:World} (E:m w) (t:aj w f #[.func (.func k) #[] caps] 186) :
  Calls prog 158 #[KG j a,.pointer (some ⟨f,0,none⟩)] w (uX w (a.1.all (uQ on d))):=by
 obtain⟨z,B,A,-⟩:∃x c,j=.slice x a.1.length c/\a.1.length<=maxLen:=Seq.len (show Tr.Seq F w0 YP.eI YP.sI YP.cI (fun u b=>aO YP d F w0 u b.alts) j a.1 from s);subst A;obtain⟨W,r⟩:∃W,W=w.alloc (.cells #[.slice z a.1.length B,.string a.2.1] 269):=⟨_,rfl⟩;have i:Below w.heap.size w W:=by rw[r];exact(cV _ _).alloc (zL0) _
 have I:=n.up _ _ E i;have l:aj W f #[.func (.func k) #[] caps] 186:=(i.block f t.lt).trans t;have q:=aft (n.box f (.func (.func k) #[] caps)) aiV (caps:=#[.pointer (some ⟨f,0,none⟩)]) (pr:=fun b=>!uQ on d b) (R:=fun b=>∀x∈xC d b,BZ P x)
  (fun J u b g o v=>aiW G n C o v g.1 g.2) s (fun b hit x H=>y x (fW.2 ⟨b,hit,H⟩)) ⟨I,l⟩
 have D:Hid (a.1.all (uQ on d)=!(a.1.any fun b=>!uQ on d b)):=by
  show _=_;rw[List.not_any_eq_all_not];congr 1;funext x;simp
 unfold KG;go_enter func158,ntmps158;go_wp2_with fail;rw[<-r];refine q.mono ?_;rintro e w2⟨rfl,p⟩;go_wp2_with fail;go_ret;exact⟨by rw[D.out];rfl,i.trans (p.mono i.size)⟩
theorem af9:Dr 0:=by
 intro F n k f i caps on P hN v l hl hi w hw;have b:=aO.up hl;obtain⟨rfl,rfl⟩:=hl;obtain⟨W,d⟩:∃W,W=w.alloc (.cells #[.func (.func i) #[] caps] 186):=⟨_,rfl⟩;have a:Below w.heap.size w W:=by rw[d];exact(cV _ _).alloc (zL0) _
 have j:=f.up _ _ hw a;have q:=XP f aav (caps:=#[.pointer (some ⟨w.heap.size,0,none⟩)]) (pr:=fun _=>false) (R:=fun _=>False) (fun _ _ _ _ _ g=>g.elim) b (fun m hit=>by cases hit) j;go_enter func122,ntmps122;go_wp2_with fail;rw[<-d];refine q.mono ?_;rintro e w2⟨rfl,c⟩;go_wp2_with fail;go_ret;exact⟨rfl,a.trans (c.mono a.size)⟩
theorem aga{d:Nat}(r:Dr d):Dr (d+1):=by
 intro F B y f k caps on P hN v l hl hi w hw;obtain⟨C,A,p,-⟩:=aO.len hl;subst p;obtain⟨W,c⟩:∃W,W=w.alloc (.cells #[.func (.func k) #[] caps] 186):=⟨_,rfl⟩;have g:Below w.heap.size w W:=by rw[c];exact(cV _ _).alloc (zL0) _
 have t:=f.up _ _ hw g;have o:aj W w.heap.size #[.func (.func k) #[] caps] 186:=by rw[c];exact aj.new w _ 186
 have q:=XP (f.box w.heap.size (.func (.func k) #[] caps)) aav (caps:=#[.pointer (some ⟨w.heap.size,0,none⟩)]) (pr:=fun a=>a.1.all (uQ on d)) (R:=fun a=>∀x∈qY d a.1,BZ P x)
  (fun u z a b i m=>aiX r f hN i m b.1 b.2) hl (fun a n x s=>hi x (by rw[wM];exact fW.2 ⟨a,n,s⟩)) ⟨t,o⟩
 rw[aht];go_enter func122,ntmps122;go_wp2_with fail;rw[<-c];refine q.mono ?_;rintro e w2⟨rfl,j⟩;go_wp2_with fail;go_ret;exact⟨rfl,g.trans (j.mono g.size)⟩
theorem Zz:∀d,Dr d
 |0=>af9
 |d+1=>aga (Zz d)
namespace Lx
def iV(names:List ByteArray)(s:List Bool×List Nat)(us:List ByteArray):List Bool×List Nat:=us.foldl (vis names) s
theorem IZ(a:List ByteArray):∀(us:List ByteArray)(s:List Bool×List Nat),(iV a s us).1=yX a us s.1
 | [],_=>rfl
 |u::us,s=>by
  show (iV a (vis a s u) us).1=yX a us (s.1.set (nO a u) true);rw[IZ a us];congr 1;unfold vis
  split
  ·rename_i h;exact(R9 fun _=>h).symm
  ·rfl
theorem Jg:∀{bs:List Bool}{i:Nat},i<bs.length->aK bs i=false->bB (bs.set i true)=bB bs+1
 |b::bs,0,_,h=>by
  have a:b=false:=h;subst a;simp[bB]
 |b::bs,i+1,hl,h=>by
  have ih:=Jg (bs:=bs) (i:=i) (by simpa using hl) (by simpa [aK]using h);unfold bB at ih|-;rw[oi,mv,mv,ih];omega
theorem Nv(a:List ByteArray):∀(us:List ByteArray)(s:List Bool×List Nat),(∀u∈us,fix a u<s.1.length)->∃new,(iV a s us).2=s.2++new/\(∀i∈new,i<s.1.length/\aK (iV a s us).1 i=true)/\(∀i,aK (iV a s us).1 i=true->aK s.1 i=true\/i∈new)/\new.length+bB s.1=bB (iV a s us).1
 | [],s,_=>⟨[],by simp[iV],fun i h=>(by cases h),fun i h=>.inl h,by simp[iV]⟩
 |u::us,s,h=>by
  have k:=h u ed;cases hb:aK s.1 (fix a u) with
  |true=>
   have e:vis a s u=s:=dj hb;have f:iV a s (u::us)=iV a s us:=by show iV a (vis a s u) us=_;rw[e]
   rw[f];exact Nv a us s fun x j=>h x (ei _ j)
  |false=>
   have e:vis a s u=(s.1.set (fix a u) true,s.2++[fix a u]):=dt (by rw[hb];decide);have f:iV a s (u::us)=iV a (s.1.set (fix a u) true,s.2++[fix a u]) us:=by show iV a (vis a s u) us=_;rw[e]
   obtain⟨new,h1,h2,h3,h4⟩:=Nv a us (s.1.set (fix a u) true,s.2++[fix a u]) fun x j=>by
    rw[ii];exact h x (ei _ j)
   rw[f];refine⟨fix a u::new,by rw[h1];simp,?_,?_,?_⟩
   ·intro i c
    rcases eC.1 c with rfl|c
    ·refine⟨k,?_⟩
     rw[IZ];refine(Jb a us _).2 _ ?_;rw[at_set,dj ⟨rfl,k⟩]
    ·have:=h2 i c
     rw[ii]at this;exact this
   ·intro i c
    rcases h3 i c with g|g
    ·have b:aK (s.1.set (fix a u) true) i=true:=g
     rw[at_set]at b
     split at b
     ·rename_i l;exact .inr (by rw[l.1];exact ed)
     ·exact .inl b
    ·exact .inr (ei _ g)
   ·have d:new.length+bB (s.1.set (fix a u) true)=_:=h4
    rw[Jg k hb]at d;rw[ev];omega
structure RI(g:Gr)(s0:List Bool)(s:List Bool×List Nat):Prop where
 len:s.1.length=g.rules.length
 op:∀i∈s.2,i<g.rules.length/\aK s.1 i=true
 done:∀i,aK s.1 i=true->i∈s.2\/Cz g i s.1
 has:bW s0 s.1
 least:∀T,T.length=g.rules.length->bW s0 T->(∀i,i<g.rules.length->Cz g i T)->bW s.1 T
theorem RI.step{g:Gr}{o bs:List Bool}{d:List Nat}{r:Nat}(h:RI g o (bs,d++[r]))(p:∀u∈pu (lN g r),fix (bA g) u<bs.length):RI g o (iV (bA g) (bs,d) (pu (lN g r)))/\(iV (bA g) (bs,d) (pu (lN g r))).2.length+bB bs=d.length+bB (iV (bA g) (bs,d) (pu (lN g r))).1:=by
 obtain⟨h1,h2,h3,h4,v⟩:=h;obtain⟨new,m,A,t,s⟩:=Nv (bA g) (pu (lN g r)) (bs,d) p;have q:=h2 r (by simp);have y:(iV (bA g) (bs,d) (pu (lN g r))).1=yM g r bs:=by
  rw[IZ,yM,dj q.2]
 have c:bW bs (iV (bA g) (bs,d) (pu (lN g r))).1:=by rw[IZ];exact Jb _ _ _
 refine⟨⟨c.1.symm.trans h1,?_,?_,h4.trans c,?_⟩,?_⟩
 ·intro i f
  rw[m]at f;rcases cY.1 f with f|f
  ·have:=h2 i (by simp[f])
   exact⟨this.1,c.2 i this.2⟩
  ·have:=A i f
   exact⟨by rw[<-h1];exact this.1,this.2⟩
 ·intro i f
  rw[m];rcases t i f with l|l
  ·rcases h3 i l with a | a
   ·rcases cY.1 a with a | a
    ·exact .inl (cY.2 (.inl a))
    ·right
     rw[cN.1 a];intro _ b k j;rw[IZ];exact Sb _ _ _ b k (p b k)
   ·right
    intro _ b k j;exact c.2 _ (a l b k (by rw[c.1];exact j))
  ·exact .inl (cY.2 (.inr l))
 ·intro T x B n
  rw[y];exact aag g T (fun i f=>n i (by omega)) r bs (v T x B n)
 ·rw[m,cH]
  have z:new.length+bB bs=_:=s;show d.length+new.length+bB bs=d.length+_;omega
theorem RI.end{g:Gr}{c bs:List Bool}(h:RI g c (bs,[])):wY (Cz g) g.rules.length c bs:=by
 refine⟨h.len,h.has,fun i d=>?_,h.least⟩;intro b;rcases h.done i b with a|a
 ·cases a
 ·exact a b
theorem RI.start{g:Gr}(b:0<g.rules.length):RI g ((List.replicate g.rules.length false).set 0 true) ((List.replicate g.rules.length false).set 0 true,[0]):=by
 refine⟨by simp,?_,?_,bW.refl _,fun T _ h _=>h⟩
 ·intro i a
  rw[cN.1 a];exact⟨b,by rw[at_set,dj ⟨rfl,by simpa using b⟩]⟩
 ·intro i a
  rw[at_set]at a
  split at a
  ·rename_i c;exact .inl (by rw[<-c.1];simp)
  ·unfold aK at a
   rw[jn]at a
   split at a <;> cases a
theorem Sg:∀(d:Nat)(l:List Alt),((dm d l).filter fun x=>decide (x.kind=0)).map It.name=DU d l
 |0,_=>rfl
 |d+1,l=>by
  rw[Zi,wM,Iz,tD];congr 1;funext a;unfold qY;rw[Iz,tD];congr 1;funext x;have ih:=Sg d x.alts;unfold xC JC;rw[mL,<-ih]
  by_cases h:x.kind=0
  ·simp[h]
  ·simp[h]
end Lx
theorem aiY(a:Array Value)(w:World):(callFunc 119 a).run prog w=.ok (.enter 119 a) w:=by kernel_rfl
theorem aiZ(a:Array Value)(w:World):(callFunc 120 a).run prog w=.ok (.enter 120 a) w:=by kernel_rfl
theorem alK{w:World}{B:Nat}{a:Option Addr}{c:Nat}{b:List Nat}{r:Nat}(h:w.ownsRow B 3 1 (.slice a (b++[r]).length c) (b++[r]).length (dK (b++[r]))):∃g,a=some ⟨g,0,none⟩/\b.length+1<=c/\c<=maxLen/\g<w.heap.size/\w.ownsRow B 3 1 (.slice (some ⟨g,0,none⟩) b.length c) b.length (dK b)/\w.cell? ⟨g,b.length,none⟩=some (.int .i64 (r:Int)):=by
 rcases h.2 with ⟨h1,h2⟩|⟨g,o,f,h1,h2,h3,h4,j,n,m⟩
 ·simp at h2
 ·injection h1 with e1 e2 e3
  subst e1 e3;have i:=h.cellAt b.length (by simp);simp at h4;refine⟨g,rfl,h4,j,(ek.1 h3).1,⟨by simp[dK],.inr ⟨g,c,f,rfl,h2,h3,by omega,j,n,?_⟩⟩,?_⟩
  ·have d:=fb (List.take b.length) m
   rw[List.take_take]at d;rw[Fv]at d;rw[j9];have l:min b.length ((b++[r]).length*1)=b.length:=by simp
   rw[l]at d;rw[d];have:b.length=(dK b).length:=(Dx b).symm;rw[this,xr]
  ·have k:(dK (b++[r]))[b.length]?=some (.int .i64 (r:Int)):=by rw[Fv,eN (by rw[Dx];exact zL0),Dx,ib];rfl
   rw[k]at i;exact i
def agL(g:Lx.Gr)(w:World)(e:Ending)(w':World):Prop:=∃o bs,e=.returned (.slice (some ⟨o,0,none⟩) g.rules.length g.rules.length)/\w.heap.size<=o/\aj w' o (bG bs) 4/\wY (Cz g) g.rules.length ((List.replicate g.rules.length false).set 0 true) bs/\Below w.heap.size w w'
theorem agb{F:Nat->Prop}{w:World}{vR:Value}{g:Lx.Gr}(h:lY F w vR g.rules){B:Nat}{num:ByteArray->Int}(hM:SMap w B num)(JV:∀b,b∈bA g->num b=(Lx.fix (bA g) b:Int))(hu:uT g=none)(hn:0<g.rules.length)(ad:g.rules.length<=2001):
  Calls prog 80 #[vR,.map (some B)] w (agL g w):=by
 obtain⟨a,c,rfl,hm⟩:=h.len;have Y:=hM.lt;have ae:=fun w=>Zj ad w
 have ao:(bG (List.replicate g.rules.length false))[0]?=some (.bool false):=by rw[qR _ (by simpa using hn)];simp[aK,hn]
 go_enter func80,ntmps80;go_wp2_with fail;have e4:w.heap.size+1+1+1+1=w.heap.size+4:=rfl;have e3:w.heap.size+1+1+1=w.heap.size+3:=rfl;have e2:w.heap.size+1+1=w.heap.size+2:=rfl;rw[e4,e3,e2];clear e4 e3 e2 ae;obtain⟨W,t⟩:∃W,W=((((w.alloc (.cells #[.map (some B)] 155)).alloc (.cells ((bG (List.replicate g.rules.length false)).setIfInBounds 0 (.bool true)) 4)).alloc (.cells #[.slice (some ⟨w.heap.size+1,0,none⟩) g.rules.length g.rules.length] 142)).alloc (.cells #[.int .i64 0] 3)).alloc (.cells #[.slice (some ⟨w.heap.size+3,0,none⟩) 1 1] 22):=⟨_,rfl⟩;rw[<-t];have Ux:RS w.heap.size g.rules.length B num w W ((List.replicate g.rules.length false).set 0 true,[0]):=by
  have G:Below w.heap.size w W:=by rw[t];exact(((((cV _ _).alloc (zL0) _).alloc (by simp) _).alloc (by simp;omega) _).alloc (by simp;omega) _).alloc (by simp;omega) _
  refine⟨?_,hM.move (G.block B Y),Y,?_,?_,⟨.slice (some ⟨w.heap.size+3,0,none⟩) 1 1,?_,⟨rfl,.inr ⟨w.heap.size+3,1,#[.int .i64 0],rfl,ff _,?_,zL0,by decide,rfl,rfl⟩⟩,fun g K=>.inl (ie K).symm⟩,by show _=_;simp,G⟩
  ·rw[t];exact((((aj.new w _ 155).alloc _).alloc _).alloc _).alloc _
  ·rw[t,<-Dw]
   have:=(((aj.new (w.alloc (.cells #[.map (some B)] 155)) ((bG (List.replicate g.rules.length false)).setIfInBounds 0 (.bool true)) 4).alloc (.cells #[.slice (some ⟨w.heap.size+1,0,none⟩) g.rules.length g.rules.length] 142)).alloc (.cells #[.int .i64 0] 3)).alloc (.cells #[.slice (some ⟨w.heap.size+3,0,none⟩) 1 1] 22);simpa using this
  ·rw[t]
   have:=((aj.new ((w.alloc (.cells #[.map (some B)] 155)).alloc (.cells ((bG (List.replicate g.rules.length false)).setIfInBounds 0 (.bool true)) 4)) #[.slice (some ⟨w.heap.size+1,0,none⟩) g.rules.length g.rules.length] 142).alloc (.cells #[.int .i64 0] 3)).alloc (.cells #[.slice (some ⟨w.heap.size+3,0,none⟩) 1 1] 22);simpa using this
  ·rw[t]
   have:=aj.new ((((w.alloc (.cells #[.map (some B)] 155)).alloc (.cells ((bG (List.replicate g.rules.length false)).setIfInBounds 0 (.bool true)) 4)).alloc (.cells #[.slice (some ⟨w.heap.size+1,0,none⟩) g.rules.length g.rules.length] 142)).alloc (.cells #[.int .i64 0] 3)) #[.slice (some ⟨w.heap.size+3,0,none⟩) 1 1] 22;simpa using this
  ·rw[t]
   have k3:aj (((((w.alloc (.cells #[.map (some B)] 155)).alloc (.cells ((bG (List.replicate g.rules.length false)).setIfInBounds 0 (.bool true)) 4)).alloc (.cells #[.slice (some ⟨w.heap.size+1,0,none⟩) g.rules.length g.rules.length] 142)).alloc (.cells #[.int .i64 0] 3)).alloc (.cells #[.slice (some ⟨w.heap.size+3,0,none⟩) 1 1] 22)) (w.heap.size+3) #[.int .i64 0] 3:=by
    have:=(aj.new (((w.alloc (.cells #[.map (some B)] 155)).alloc (.cells ((bG (List.replicate g.rules.length false)).setIfInBounds 0 (.bool true)) 4)).alloc (.cells #[.slice (some ⟨w.heap.size+1,0,none⟩) g.rules.length g.rules.length] 142)) #[.int .i64 0] 3).alloc (.cells #[.slice (some ⟨w.heap.size+3,0,none⟩) 1 1] 22);simpa using this
   exact k3
 have Uy:=Lx.RI.start hn;clear t;obtain⟨I,C⟩:∃I,I=(List.replicate g.rules.length false).set 0 true:=⟨_,rfl⟩;have GH:Hid (I=(List.replicate g.rules.length false).set 0 true):=C;rw[<-C]at Ux Uy;clear C
 go_loopg [] (g.rules.length+1) (fun k wr=>∃s:List Bool×List Nat,s.2.length+(g.rules.length-bB s.1)<=k/\s.2.length+(g.rules.length-bB s.1)<=g.rules.length+1/\RS w.heap.size g.rules.length B num w wr s/\Lx.RI g I s)
 case atStart=>exact⟨(I,[0]),by simp;omega,by simp;omega,Ux,Uy⟩
 case round=>
  clear Ux Uy;obtain⟨⟨d,ap⟩,hk,M,N,Po⟩:=hrel;obtain⟨h1,h2,h3,h4,h5,⟨vo,E,h7,h8⟩,h9,y⟩:=id N;have a3:w.heap.size+5<=wr.heap.size:=E.lt;have a0:=BI d;have v:Hid (d.length=g.rules.length):=h9;rcases zE ap with P|⟨op,r,R⟩
  ·subst P
   obtain⟨oa,oc,Es,-⟩:=aC h7;subst Es;have c4:wr.cell? ⟨w.heap.size+4,0,none⟩=some (.slice oa 0 oc):=E.cell 0;have c2:wr.cell? ⟨w.heap.size+2,0,none⟩=some (.slice (some ⟨w.heap.size+1,0,none⟩) g.rules.length g.rules.length):=h5.cell 0;go_wp2_with fail;go_ret;exact⟨w.heap.size+1,d,rfl,pL _,h4,GH.out▸Po.end,y⟩
  ·rw[List.concat_eq_append]at R
   subst R;obtain⟨oa,oc,Es,Ku⟩:=aC h7;subst Es;obtain⟨A,rfl,a7,ak,az,T,aq⟩:=alK h7;have ag:=Po.op r (by simp);have c4:wr.cell? ⟨w.heap.size+4,0,none⟩=some (.slice (some ⟨A,0,none⟩) (op.length+1) oc):=by have:=E.cell 0;simpa using this
   have f4:∀i,wr.frozen? ⟨w.heap.size+4,i,none⟩=false:=E.frozen;unfold maxLen at ak;have a4:op.length+1+(g.rules.length-bB d)<=gk:=by simpa using hk
   have ar:op.length+1+(g.rules.length-bB d)<=g.rules.length+1:=by simpa using M
   have Uz:=ag.1;obtain⟨gb,ax,va,hv,aa,O,d0,d1⟩:=h.at Uz;cases hv;obtain⟨sa,sc,ac,-⟩:=aO.len O;subst ac;have Pp:gb<w.heap.size:=h.lt gb aa;have af:wr.cell? ⟨gb,r*2+1,none⟩=some (.slice sa g.rules[r].alts.length sc):=(cM (w:=w) (y.block gb Pp)).trans d1;have JW:Lx.unk g (eZ 9 g.rules[r].alts)=none:=MW hu _ (du Uz);have j:lN g r=g.rules[r].alts:=Ry Uz;have z:∀f,f∈dm 9 g.rules[r].alts->f.kind=0->f.name∈bA g:=fun f X hk=>jI.1 (Jd JW X hk)
   have x:∀b,b∈bA g->Lx.fix (bA g) b<g.rules.length:=fun b G=>by
    have:=(Ns (jI.2 G)).2;simpa [bA]using this
   obtain⟨w1,U⟩:∃w1,w1=wr.setCell ⟨w.heap.size+4,0,none⟩ (.slice (some ⟨A,0,none⟩) op.length oc):=⟨_,rfl⟩;have ah:A=w.heap.size+3\/w.heap.size+5<=A:=h8 A rfl;have J:RS w.heap.size g.rules.length B num w w1 (d,op):=by
    rw[U];refine⟨h1.other (by omega) _,h2.move (zS0 (by show B≠w.heap.size+4;omega)),h3,h4.other (by omega) _,h5.other (by omega) _,⟨_,E.set 0 _,aD T fun g K=>zS0 (fun e=>?_),fun g K=>?_⟩,h9,y.setCell (p:=⟨w.heap.size+4,0,none⟩) (by show w.heap.size<=w.heap.size+4;omega) _⟩
    ·have e':g=w.heap.size+4:=e
     have Q:A=g:=ie K;omega
    ·have Q:A=g:=ie K
     rw[<-Q];exact ah
   have S:Hid (Lx.RI g I (iV (bA g) (d,op) (pu (lN g r)))/\(iV (bA g) (d,op) (pu (lN g r))).2.length+bB d=op.length+bB (iV (bA g) (d,op) (pu (lN g r))).1):=by
    refine Lx.RI.step Po fun u l=>?_
    rw[j]at l;have e:pu g.rules[r].alts=DU 9 g.rules[r].alts:=rfl;rw[e,<-Sg]at l;obtain⟨f,hit,rfl⟩:=ee.1 l;obtain⟨ai,an⟩:=hU.1 hit;have:=x _ (z f ai (iS an));rw[v.out];exact this
   have q1:=ab5 9 119 120 #[.pointer (some ⟨w.heap.size,0,none⟩),.pointer (some ⟨w.heap.size+2,0,none⟩),.pointer (some ⟨w.heap.size+4,0,none⟩)] (fun f=>decide (f.kind=0)) F w (fun L w'=>(∀p∈L,Lx.fix (bA g) p.2.name<d.length)/\RS w.heap.size g.rules.length B num w w' (iV (bA g) (d,op) (L.map fun p=>p.2.name))) (fun p=>p.2.kind=0->p.2.name∈bA g) aiY aiZ
    (fun w' n m f _ X=>agC X)
    (fun w' L n m f H _ X ab hq=>by
     have D:f.kind=0:=iS ab;have q:=hq D;have Z:=x _ q;obtain⟨new,n1,-,-,n4⟩:=Nv (bA g) (L.map fun p=>p.2.name) (d,op) (fun u l=>by
      obtain⟨p,o,rfl⟩:=ee.1 l;exact H.1 p o)
     have aw:=BI (iV (bA g) (d,op) (L.map fun p=>p.2.name)).1;have UA:=H.2.len.out;have a1:(iV (bA g) (d,op) (L.map fun p=>p.2.name)).2.length=op.length+new.length:=by rw[n1,cH]
     refine(agD H.2 X (JV _ q) Z (by omega)).mono ?_;rintro e a5⟨rfl,hR⟩;refine⟨rfl,fun p o=>?_,?_⟩
     ·rcases cY.1 o with o | o
      ·exact H.1 p o
      ·rw[cN.1 o,v.out];exact Z
     ·have e:iV (bA g) (d,op) ((L++[((⟨n,m*4,none⟩:Addr),f)]).map fun p=>p.2.name)=Lx.vis (bA g) (iV (bA g) (d,op) (L.map fun p=>p.2.name)) f.name:=by
       unfold iV;rw[eJ,rj];rfl
      rw[e];exact hR)
    (fun L w' H b G=>H.2.fr.block b (h.lt b G))
    _ _ O (fun p o D=>z p.2 (by rw[<-FQ O];exact ee.2 ⟨p,o,rfl⟩) D) w1 [] ⟨fun p o=>(by cases o),J⟩
   have AP:((aL 9 w (.slice sa g.rules[r].alts.length sc) g.rules[r].alts).filter fun p=>decide (p.2.kind=0)).map (fun p=>p.2.name)=pu (lN g r):=by
    rw[j];have e:pu g.rules[r].alts=DU 9 g.rules[r].alts:=rfl;rw[e,<-Sg,<-FQ O,xl,th];rfl
   rw[g8,AP]at q1;clear hk M Ku h7 AP z x j JW N Po J T h1 h2 h4 h5 E O d0 ao;generalize g.rules[r].alts=al at af q1;generalize iV (bA g) (d,op) (pu (lN g r))=s2 at q1 S;go_wp2_with fail;rw[<-U];refine q1.mono ?_;rintro e w2⟨rfl,-,V⟩;have am:=S.out;have UA:=BI s2.1;have a6:=V.len.out;have av:=v.out;have a2:s2.2.length+(g.rules.length-bB s2.1)<=op.length+(g.rules.length-bB d):=by omega
   go_wp2_with fail;go_roundg (s2.2.length+(g.rules.length-bB s2.1))
   case measure=>omega
   case rel=>exact⟨s2,zL0,by omega,V,am.1⟩
theorem ai0(a:Array Value)(w:World):(callFunc 121 a).run prog w=.ok (.enter 121 a) w:=by kernel_rfl
structure ES(lo n B:Nat)(num:ByteArray->Int)(w0 w:World)(bs:List Bool):Prop where
 nb:aj w lo #[.map (some B)] 155
 mp:SMap w B num
 bl:B<lo
 fo:aj w (lo+1) (bG bs) 4
 fv:aj w (lo+2) #[.slice (some ⟨lo+1,0,none⟩) n n] 142
 len:Hid (bs.length=n)
 fr:Below lo w0 w
theorem ES.below{b n B:Nat}{num:ByteArray->Int}{w0 w w':World}{bs:List Bool}(h:ES b n B num w0 w bs)(a:Below w.heap.size w w'):ES b n B num w0 w' bs:=by
 have c:=h.fv.lt;exact⟨(a.block _ (by omega)).trans h.nb,h.mp.move (a.block _ (by have:=h.bl;omega)),h.bl,(a.block _ (by omega)).trans h.fo,(a.block _ c).trans h.fv,h.len,h.fr.trans (a.mono (by omega))⟩
theorem agM{a n B:Nat}{num:ByteArray->Int}{w0 w:World}{bs:List Bool}(h:ES a n B num w0 w bs){q:Nat}{b:ByteArray}(d:num b=(q:Int))(g:q<n):
  Calls prog 121 #[.string b,.pointer (some ⟨a+2,0,none⟩),.pointer (some ⟨a,0,none⟩)] w (uX w (aK bs q)):=by
 have c:=h.mp.look b;rw[d]at c;have f:w.cell? ⟨a,0,none⟩=some (.map (some B)):=h.nb.cell 0;have j:w.cell? ⟨a+2,0,none⟩=some (.slice (some ⟨a+1,0,none⟩) n n):=h.fv.cell 0;have i:w.cell? ⟨a+1,q,none⟩=some (.bool (aK bs q)):=(h.fo.cell q).trans (qR bs (by have:=h.len.out;omega));go_enter func121,ntmps121;go_wp2_with fail;go_ret;exact⟨rfl,cV _ _⟩
namespace Lx
structure EI(g:Gr)(s0 bs:List Bool):Prop where
 len:bs.length=g.rules.length
 has:bW s0 bs
 least:∀T,T.length=g.rules.length->bW s0 T->(∀i,i<g.rules.length->kU g i T)->bW bs T
theorem EI.step{g:Gr}{b bs:List Bool}(h:EI g b bs)(i:Nat):EI g b (sZ g i bs):=by
 have a:=(MV g).le i bs;exact⟨a.1.symm.trans h.len,h.has.trans a,fun T c h1 h2=>aa9 g T (fun i d=>h2 i (by omega)) i bs (h.least T c h1 h2)⟩
theorem ahJ{g:Gr}{i:Nat}{bs:List Bool}(b:i<g.rules.length)(a:pz (vU g bs) 9 g.rules[i].alts=true):sZ g i bs=bs.set i true:=by
 rw[sZ,Ry b,dj a]
theorem agN{g:Gr}{i:Nat}{bs:List Bool}(b:i<g.rules.length)(h:aK bs i=true\/pz (vU g bs) 9 g.rules[i].alts=false):kU g i bs:=by
 intro a c;rw[Ry b]at a;rcases h with h|h
 ·exact h
 ·rw[h]at a;cases a
end Lx
def ahK(g:Lx.Gr)(w:World)(e:Ending)(w':World):Prop:=∃o bs,e=.returned (.slice (some ⟨o,0,none⟩) g.rules.length g.rules.length)/\w.heap.size<=o/\aj w' o (bG bs) 4/\wY (kU g) g.rules.length (List.replicate g.rules.length false) bs/\Below w.heap.size w w'
def AQ(b:Bool):Nat:=if b=true then 1 else 0
theorem agO{F:Nat->Prop}{w:World}{vR:Value}{g:Lx.Gr}(h:lY F w vR g.rules){B:Nat}{num:ByteArray->Int}(hM:SMap w B num)(JV:∀b,b∈bA g->num b=(Lx.fix (bA g) b:Int))(hu:uT g=none)(ad:∀r∈g.rules,∀it∈dm 9 r.alts,it.kind<=2)(aa:g.rules.length<=2001):
  Calls prog 81 #[vR,.map (some B)] w (ahK g w):=by
 obtain⟨a,c,rfl,hm⟩:=h.len;unfold maxLen at hm;have O:=hM.lt;have af:=fun w=>Zj aa w
 have ac:∀b,b∈bA g->Lx.fix (bA g) b<g.rules.length:=fun b m=>by
  have:=(Ns (jI.2 m)).2;simpa [bA]using this
 go_enter func81,ntmps81;go_wp2_with fail;rw[show w.heap.size+1+1=w.heap.size+2 from rfl];obtain⟨W,E⟩:∃W,W=((w.alloc (.cells #[.map (some B)] 155)).alloc (.cells (bG (List.replicate g.rules.length false)) 4)).alloc (.cells #[.slice (some ⟨w.heap.size+1,0,none⟩) g.rules.length g.rules.length] 142):=⟨_,rfl⟩;rw[<-E];have UB:ES w.heap.size g.rules.length B num w W (List.replicate g.rules.length false):=by
  have m:Below w.heap.size w W:=by rw[E];exact(((cV _ _).alloc (zL0) _).alloc (by simp) _).alloc (by simp;omega) _
  refine⟨?_,hM.move (m.block B O),O,?_,?_,by show _=_;simp,m⟩
  ·rw[E];exact((aj.new w _ 155).alloc _).alloc _
  ·rw[E]
   have:=(aj.new (w.alloc (.cells #[.map (some B)] 155)) (bG (List.replicate g.rules.length false)) 4).alloc (.cells #[.slice (some ⟨w.heap.size+1,0,none⟩) g.rules.length g.rules.length] 142);simpa using this
  ·rw[E]
   have:=aj.new ((w.alloc (.cells #[.map (some B)] 155)).alloc (.cells (bG (List.replicate g.rules.length false)) 4)) #[.slice (some ⟨w.heap.size+1,0,none⟩) g.rules.length g.rules.length] 142;simpa using this
 have UC:Lx.EI g (List.replicate g.rules.length false) (List.replicate g.rules.length false):=⟨by simp,bW.refl _,fun T _ h _=>h⟩;obtain⟨G,A⟩:∃G,G=List.replicate g.rules.length false:=⟨_,rfl⟩;have GH:Hid (G=List.replicate g.rules.length false):=A;rw[<-A]at UB UC;clear A E af
 go_loopg [7] (g.rules.length+1) (fun k gv wr=>∃(f:List Bool)(l:Bool),gv=.bool l/\(g.rules.length-bB f)+AQ l<=k/\ES w.heap.size g.rules.length B num w wr f/\Lx.EI g G f/\Hid (l=false->∀i,i<g.rules.length->kU g i f))
 case atStart=>exact⟨G,true,rfl,by simp[AQ],UB,UC,fun h=>by cases h⟩
 case round=>
  clear UB UC;revert wr;intro wz hrel;obtain⟨f,l,rfl,P,n,u,HC⟩:=hrel;have aw:=BI f;have U:=u.len;cases l with
  |false=>
   have c2:wz.cell? ⟨w.heap.size+2,0,none⟩=some (.slice (some ⟨w.heap.size+1,0,none⟩) g.rules.length g.rules.length):=n.fv.cell 0;have ah:wY (kU g) g.rules.length (List.replicate g.rules.length false) f:=by rw[<-GH.out];exact⟨u.len,u.has,HC.out rfl,u.least⟩
   have KH:Hid _:=U;clear U;go_wp2_with fail;go_ret;exact⟨w.heap.size+1,f,rfl,pL _,n.fo,ah,n.fr⟩
  |true=>
   clear HC;have ao:g.rules.length-bB f+1<=gk:=by simpa [AQ]using P
   have KH:Hid (f.length=g.rules.length):=U;clear P U;go_wp2_with fail;have H1:Hid ((false=false->f=f/\∀i,i<g.rules.length->i<0->kU g i f)/\(false=true->bB f<bB f)/\bW f f):=⟨fun _=>⟨rfl,fun i _ h=>(by omega)⟩,fun h=>(by cases h),bW.refl _⟩
   go_loopg [7,17] g.rules.length (fun k gv i wr=>∃(j:Nat)(d:List Bool)(l:Bool),j+k=g.rules.length/\gv=.bool l/\i=.int .i64 j/\ES w.heap.size g.rules.length B num w wr d/\Lx.EI g G d/\Hid ((l=false->d=f/\∀i,i<g.rules.length->i<j->kU g i f)/\(l=true->bB f<bB d)/\bW f d))
   case atStart=>exact⟨0,f,false,by omega,rfl,rfl,n,u,H1⟩
   case round=>
    clear H1 n u;obtain⟨j,d,l,al,rfl,rfl,n,u,t⟩:=hrel;have am:=n.fv.lt;have ap:=n.fo.lt
    by_cases hlt:j<g.rules.length
    ·obtain⟨D,ar,va,hv,X,hA,d0,d1⟩:=h.at hlt
     cases hv;obtain⟨sa,sc,Z,-⟩:=aO.len hA;subst Z;have Pp:D<w.heap.size:=h.lt D X;have az:wr.cell? ⟨D,j*2,none⟩=some (.string g.rules[j].name):=(cM (w:=w) (n.fr.block D Pp)).trans d0;have ax:wr.cell? ⟨D,j*2+1,none⟩=some (.slice sa g.rules[j].alts.length sc):=(cM (w:=w) (n.fr.block D Pp)).trans d1;have JW:Lx.unk g (eZ 9 g.rules[j].alts)=none:=MW hu _ (du hlt);have N:∀it∈dm 9 g.rules[j].alts,BZ (fun b=>b∈bA g) it:=fun it v=>⟨ad _ (du hlt) it v,fun P=>jI.1 (Jd JW v P)⟩
     obtain⟨R,x⟩:∃R,R=wr.alloc (.cells #[.string g.rules[j].name,.slice sa g.rules[j].alts.length sc] 254):=⟨_,rfl⟩;have ag:Below wr.heap.size wr R:=by rw[x];exact(cV _ _).alloc (zL0) _
     have S:=n.below ag;have ak:OkW F w (fun C=>ES w.heap.size g.rules.length B num w C d):=⟨fun C q b m=>⟨q.fr.block b (h.lt b m),by have:=q.fv.lt;have:=h.lt b m;omega⟩,fun C a0 q m=>q.below m⟩;have Y:JE (fun C=>ES w.heap.size g.rules.length B num w C d) 121 #[.pointer (some ⟨w.heap.size+2,0,none⟩),.pointer (some ⟨w.heap.size,0,none⟩)] (vU g d) (fun b=>b∈bA g):=⟨ai0,fun C b q m=>agM q (JV b m) (ac b m)⟩;have H:=Zz 9 F w _ ak 121 _ _ _ Y _ _ hA N R S;have UD:j<d.length:=by have:=n.len.out;omega
     have c2:wr.cell? ⟨w.heap.size+2,0,none⟩=some (.slice (some ⟨w.heap.size+1,0,none⟩) g.rules.length g.rules.length):=n.fv.cell 0;have o1:wr.cell? ⟨w.heap.size+1,j,none⟩=some (.bool (aK d j)):=(n.fo.cell j).trans (qR d UD);have L:Hid (j<d.length):=UD;have K:pz (vU g d) 9 g.rules[j].alts=true->sZ g j d=d.set j true:=ahJ hlt;have y:(aK d j=true\/pz (vU g d) 9 g.rules[j].alts=false)->kU g j d:=agN hlt;have Q:Hid _:=K;have M:Hid _:=y;have J:=u.step j;clear K y JW N hA d0 d1 UD;cases m:aK d j with
     |true=>
      have o:Hid ((l=false->d=f/\∀i,i<g.rules.length->i<j+1->kU g i f)/\(l=true->bB f<bB d)/\bW f d):=by
       refine⟨fun I=>?_,t.out.2⟩;have h1:=t.out.1 I;refine⟨h1.1,fun i v ai=>?_⟩
       by_cases hij2:i=j
       ·rw[hij2,<-h1.1];exact M.out (.inl m)
       ·exact h1.2 i v (by omega)
      rw[m]at o1;clear t Q M H m;go_wp2_with fail;rw[<-x];go_roundg (g.rules.length - (j+1))
      case measure=>omega
      case rel=>exact⟨j+1,d,l,by omega,rfl,by go_num,S,u,o⟩
     |false=>
      rw[m]at o1;cases he:pz (vU g d) 9 g.rules[j].alts with
      |true=>
       have HS:Hid (sZ g j d=d.set j true):=Q.out he;have KM:Hid (bB (d.set j true)=bB d+1):=Jg L.out m;have o:Hid ((true=false->d.set j true=f/\∀i,i<g.rules.length->i<j+1->kU g i f)/\(true=true->bB f<bB (d.set j true))/\bW f (d.set j true)):=by
        refine⟨fun h=>(by cases h),fun _=>?_,t.out.2.2.trans (bW.set d j)⟩;have:=Lx.cnt_mono t.out.2.2;rw[KM.out];omega
       rw[he]at H;clear t Q M m he;go_wp2_with fail;rw[<-x];refine H.mono ?_;rintro e w2⟨rfl,z⟩;have s:=S.below z;have aq:w2.cell? ⟨w.heap.size+2,0,none⟩=some (.slice (some ⟨w.heap.size+1,0,none⟩) g.rules.length g.rules.length):=s.fv.cell 0;have o2:w2.cell? ⟨w.heap.size+1,j,none⟩=some (.bool (aK d j)):=(s.fo.cell j).trans (qR d L.out);have av:∀i,w2.frozen? ⟨w.heap.size+1,i,none⟩=false:=s.fo.frozen;have ae:ES w.heap.size g.rules.length B num w (w2.setCell ⟨w.heap.size+1,j,none⟩ (.bool true)) (d.set j true):=by
        refine⟨s.nb.other (by omega) _,s.mp.move (zS0 (by show B≠w.heap.size+1;omega)),s.bl,?_,s.fv.other (by omega) _,?_,s.fr.setCell (p:=⟨w.heap.size+1,j,none⟩) (by show w.heap.size<=w.heap.size+1;omega) _⟩
        ·rw[<-Dw];exact s.fo.set j _
        ·show (d.set j true).length=_
         rw[ii];exact s.len.out
       rw[HS.out]at J;go_wp2_with fail;go_roundg (g.rules.length - (j+1))
       case measure=>omega
       case rel=>exact⟨j+1,d.set j true,true,by omega,rfl,by go_num,ae,J,⟨o.out.1,fun _=>o.out.2.1 trivial,o.out.2.2⟩⟩
      |false=>
       have o:Hid ((l=false->d=f/\∀i,i<g.rules.length->i<j+1->kU g i f)/\(l=true->bB f<bB d)/\bW f d):=by
        refine⟨fun I=>?_,t.out.2⟩;have h1:=t.out.1 I;refine⟨h1.1,fun i v ai=>?_⟩
        by_cases hij2:i=j
        ·rw[hij2,<-h1.1];exact M.out (.inr he)
        ·exact h1.2 i v (by omega)
       rw[he]at H;clear t Q M m he;go_wp2_with fail;rw[<-x];refine H.mono ?_;rintro e w2⟨rfl,z⟩;have s:=S.below z;go_wp2_with fail;go_roundg (g.rules.length - (j+1))
       case measure=>omega
       case rel=>exact⟨j+1,d,l,by omega,rfl,by go_num,s,u,o⟩
    ·have:j=g.rules.length:=by omega
     subst this;have V:=t.out;clear t;have ab:=KH.out;have an:=BI d;have ze:=n.len.out;have HX:Hid (g.rules.length-bB d+AQ l<=g.rules.length-bB f+AQ l/\(l=true->bB f<bB d)/\(l=false->∀i,i<g.rules.length->kU g i d)):=by
      have:=Lx.cnt_mono V.2.2;refine⟨by omega,V.2.1,fun I i v=>?_⟩;have h1:=V.1 I;rw[h1.1];exact h1.2 i v v
     clear V ab ze;have HM:Hid (g.rules.length-bB d+AQ l<g.rules.length-bB f+1):=by
      have h1:=HX.out;have h2:=KH.out;have h3:=n.len.out;show _<_;cases l with
      |true=>have:=h1.2.1 rfl;simp[AQ];omega
      |false=>have:=h1.1;simp[AQ]at this|-;omega
     go_wp2_with fail;go_roundg (g.rules.length-bB d+AQ l)
     case measure=>have:=HM.out;omega
     case rel=>exact⟨d,l,rfl,zL0,n,u,HX.out.2.2⟩
namespace Lx
theorem aaw:∀(ws:List Wd)(s:List ByteArray),ja s ws=none->(fD ws).Nodup/\∀b∈fD ws,b∉s
 | [],_,_=>⟨mj,fun b h=>by cases h⟩
 |w::ws,s,h=>by
  rw[ja]at h
  split at h
  ·cases h
  ·rename_i f
   obtain⟨h1,h2⟩:=aaw ws _ h;rw[Yf];refine⟨ph.2 ⟨fun d=>h2 _ d ed,h1⟩,fun b a=>?_⟩;rcases eC.1 a with rfl|a
   ·exact fun c=>f (Bz.2 c)
   ·exact fun c=>h2 b a (ei _ c)
theorem QV(g:Gr):fD (Fq g)=bA g:=by unfold fD Fq bA;rw[th];rfl
theorem RD{g:Gr}(h:Ai g=none):(bA g).Nodup:=by
 unfold Ai at h;cases h1:ja [] (om g) with
 |some p=>rw[h1]at h;cases h
 |none=>
  rw[h1]at h;have:=(aaw _ _ h).1;rw[QV]at this;exact this
theorem akc{s:ByteArray}{g:Gr}(h:parse s=.ok g):ja [] (told (iF g))=Ai g:=aiF h
theorem ZA{s:ByteArray}{g:Gr}(h:parse s=.ok g):oP (fD (told (iF g))) (iF g)=uT g:=by
 have f:=Fh h;have e:fD (told (iF g))=lM g++bA g:=by rw[MI,Fg,QV];rfl
 rw[e,X8 ?_ ?_ _ f,afy]
 ·rfl
 ·intro b a
  obtain⟨r,d,rfl⟩:=ee.1 a;exact((FC h).2.1 r d).1
 ·intro b a
  rw[show lM g=fD (om g) from rfl]at a;obtain⟨w,c,rfl⟩:=ee.1 a;obtain⟨i,k,c⟩:=fW.1 c;obtain⟨t,j,rfl⟩:=ee.1 c;exact(FC h).1 i k t j
theorem alL{g:Gr}{bs:List Bool}(h:wY (Cz g) g.rules.length ((List.replicate g.rules.length false).set 0 true) bs):bs=F4 g:=h.unique (ahr g _ _ _ (by simp) (zL0))
theorem amS{g:Gr}{bs:List Bool}(h:wY (kU g) g.rules.length (List.replicate g.rules.length false) bs):bs=D9 g:=h.unique (aiG g _ _ _ (by simp) (zL0))
end Lx
theorem afu{F:Nat->Prop}{w:World}{vR vW:Value}{s:ByteArray}{g:Lx.Gr}(n:Lx.parse s=.ok g)(h:lY F w vR g.rules)(A:WR w vW (iF g)):
  Calls prog 43 #[vR,vW] w fun e w'=>e=.returned (.tuple #[.int .i64 ((kV g).1:Int),.int .i64 ((kV g).2:Int)])/\Below w.heap.size w w':=by
 have z:=FC n;have hsz:=(Rh n).1;have t:g.rules.length<=2001:=by
  have h1:g.rules.length<=xg g.rules:=FP (fun r:Lx.Rl=>1+iN 9 r.alts) fun _ _=>by omega
  omega
 have S:∀r∈g.rules,∀U∈dm 9 r.alts,U.kind<=2:=fun r hr U hi=>by rcases (z.2.1 r hr).2.1 U hi with h | h | h <;> omega
 have D:=ahx A;rw[akc n]at D;obtain⟨wa,wc,rfl,-⟩:=A.len;obtain⟨ra,rc,rfl,-⟩:=h.len;have C:Hid (kV g=qF 4 (Ai g) (qF 5 (uT g) (qF 6 (qU g.rules (F4 g)) (qF 7 (qU g.rules (D9 g)) (0,0))))):=rfl;generalize hcr:kV g=cr at C;clear hcr;go_enter func43,ntmps43;go_wp2_with fail;refine D.mono ?_;rintro e w1⟨rfl,c⟩;cases hd:Ai g with
 |some p=>
  have d:Hid (cr=(4,p)):=by have:=C.out;rw[hd]at this;exact this
  have i:((p:Int) != -1)=true:=lh.2 (by omega);clear C D hd;unfold xU;go_wp2_with fail;refine fy (v:=.tuple #[.int .i64 4,.int .i64 (p:Int)]) (by simp[results,results43,go_sem]) rfl ⟨?_,c⟩;rw[d.out];rfl
 |none=>
  have K:=afZ (A.below c);rw[ZA n]at K;have ac:=RD hd;have H:Hid (cr=qF 5 (uT g) (qF 6 (qU g.rules (F4 g)) (qF 7 (qU g.rules (D9 g)) (0,0)))):=by have:=C.out;rw[hd]at this;exact this
  clear C D hd;unfold xU;go_wp2_with fail;refine K.mono ?_;rintro e w2⟨rfl,P⟩;have J:=c.trans (P.mono c.size);cases hu:uT g with
  |some p=>
   have d:Hid (cr=(5,p)):=by have:=H.out;rw[hu]at this;exact this
   have i:((p:Int) != -1)=true:=lh.2 (by omega);clear H K hu;unfold xU;go_wp2_with fail;refine fy (v:=.tuple #[.int .i64 5,.int .i64 (p:Int)]) (by simp[results,results43,go_sem]) rfl ⟨?_,J⟩;rw[d.out];rfl
  |none=>
   have d:Hid (cr=qF 6 (qU g.rules (F4 g)) (qF 7 (qU g.rules (D9 g)) (0,0))):=by have:=H.out;rw[hu]at this;exact this
   have q3:=af0 (h.below J);have HU:Hid (uT g=none):=hu;clear H K hu;unfold xU;go_wp2_with fail;refine q3.mono ?_;rintro e w3⟨B,num,rfl,af,L,JV,aa⟩;have N:=J.trans (aa.mono J.size);have q:∀b,b∈bA g->num b=(Lx.fix (bA g) b:Int):=by
    intro b hb;have l:=(Ns (jI.2 hb)).2;have W:Lx.fix (bA g) b<g.rules.length:=by simpa [bA]using l
    have O:(bA g)[Lx.fix (bA g) b]=b:=iS (pS (w:=l));have T:g.rules[Lx.fix (bA g) b].name=b:=by
     have:(bA g)[Lx.fix (bA g) b]=g.rules[Lx.fix (bA g) b].name:=by simp[bA]
     rw[<-this];exact O
    have:=JV _ W (fun k hk ab e=>by
     have n:=me.1 ac _ k l (by simpa [bA]using hk) ab;apply n;simp only[bA,List.getElem_map];exact e.symm)
    rw[T]at this;exact this
   have q4:=agb (h.below N) L q HU.out z.2.2 t;clear q3;go_wp2_with fail;refine q4.mono ?_;rintro e w4⟨o,bs,rfl,ad,V,a,f⟩;have M:=N.trans (f.mono N.size);have j:=alL a;have G:=XH (A.below M) V a.len (by rw[aal];exact zL0);rw[ab3 g bs (by rw[a.len];exact zL0),j]at G;clear q4;go_wp2_with fail;refine G.mono ?_;rintro e w5⟨rfl,x⟩;have E:=M.trans (x.mono M.size);cases hf:qU g.rules (F4 g) with
   |some p=>
    have m:Hid (cr=(6,p)):=by have:=d.out;rw[hf]at this;exact this
    have i:((p:Int) != -1)=true:=lh.2 (by omega);clear d G hf j a;unfold xU;go_wp2_with fail;refine fy (v:=.tuple #[.int .i64 6,.int .i64 (p:Int)]) (by simp[results,results43,go_sem]) rfl ⟨?_,E⟩;rw[m.out];rfl
   |none=>
    have m:Hid (cr=qF 7 (qU g.rules (D9 g)) (0,0)):=by have:=d.out;rw[hf]at this;exact this
    have dZ:SMap w5 B num:=L.move ((x.block B (by have:=L.lt;have:=f.size;omega)).trans (f.block B L.lt));have q6:=agO (h.below E) dZ q HU.out S t;clear d G hf j a;unfold xU;go_wp2_with fail;refine q6.mono ?_;rintro e w6⟨o6,Y,rfl,ae,AJ,y,Z⟩;have Q:=E.trans (Z.mono E.size);have X:=amS y;have I:=XH (A.below Q) AJ y.len (by rw[aal];exact zL0);rw[ab3 g Y (by rw[y.len];exact zL0),X]at I;clear q6;go_wp2_with fail;refine I.mono ?_;rintro e w7⟨rfl,eD⟩;have u:=Q.trans (eD.mono Q.size);cases hf:qU g.rules (D9 g) with
    |some p=>
     have R:Hid (cr=(7,p)):=by have:=m.out;rw[hf]at this;exact this
     have i:((p:Int) != -1)=true:=lh.2 (by omega);clear m I hf X y;unfold xU;go_wp2_with fail;refine fy (v:=.tuple #[.int .i64 7,.int .i64 (p:Int)]) (by simp[results,results43,go_sem]) rfl ⟨?_,u⟩;rw[R.out];rfl
    |none=>
     have R:Hid (cr=(0,0)):=by have:=m.out;rw[hf]at this;exact this
     clear m I hf X y;unfold xU;go_wp2_with fail;refine fy (v:=.tuple #[.int .i64 0,.int .i64 0]) (by simp[results,results43,go_sem]) rfl ⟨?_,u⟩;rw[R.out];rfl
namespace Lx
theorem XQ:∀{ws:List Wd}{all:List ByteArray},oP all ws=none->∀x∈ws,(x.1=2\/x.1=4)->x.2.1∈all
 | [],_,_,x,a,_=>by cases a
 |w::ws,all,h,x,a,hr=>by
  rw[oP]at h
  split at h
  ·cases h
  ·rename_i b
   rcases eC.1 a with rfl|a
   ·cases hm:iH x.2.1 all with
    |true=>exact Bz.1 hm
    |false=>exact absurd ⟨hr,hm⟩ b
   ·exact XQ h x a hr
theorem akd{s:ByteArray}{g:Gr}(b:parse s=.ok g)(j:uT g=none):∀x∈iF g,x.1=4->x.2.1∈lM g:=by
 intro x f h4;have h1:=ZA b;rw[j]at h1;have h2:=XQ h1 x f (.inr h4);have e:fD (told (iF g))=lM g++bA g:=by rw[MI,Fg,QV];rfl
 rw[e]at h2;rcases cY.1 h2 with h2|h2
 ·exact h2
 ·exfalso
  obtain⟨r,i,k⟩:=ee.1 h2;have a:isName r.name=true:=((FC b).2.1 r i).1;rcases Fh b x f with ⟨d,-⟩|⟨-,d⟩
  ·omega
  ·have c:r.name=x.2.1:=k
   rw[c,Yj d]at a;cases a
theorem ahL{s:ByteArray}{g:Gr}(a:parse s=.ok g):∀x∈iF g,x.2.1.size<=2000:=by
 intro x b;rcases Fh a x b with ⟨-,h⟩|⟨-,h⟩
 ·have:=RA h;omega
 ·have:=Zv h;omega
theorem agP{s:ByteArray}{g:Gr}(b:parse s=.ok g):∀x∈iF g,¬x.1=1->¬x.1=2->x.2.1≠jX:=by
 intro x a h1 h2 e;rcases Fh b x a with ⟨h,-⟩|⟨-,h⟩
 ·rcases h with h | h
  ·exact h1 h
  ·exact h2 h
 ·rw[e]at h
  revert h;decide
end Lx
section
variable{g:Lx.Gr}{fS:ByteArray -> Int}
theorem acf(f:Lx.Fit g)(j:xG (ay g).length g.rules g.rules.length (jd (ay g)) fS){c:ByteArray}(d:Lx.isToken c=true)(a:0<=bZ (ay g) c):fS c=(Lx.fix (ay g) c:Int):=by
 rw[j.tok c fun i b _ e=>?_]
 ·unfold jd
  rw[dj a];unfold bZ at a|-
  split at a
  ·rename_i h1;rw[dj h1]
  ·omega
 ·have:=(f.rl _ (du b)).1
  rw[e,Yj d]at this;cases this
theorem ake(d:Lx.Fit g)(j:xG (ay g).length g.rules g.rules.length (jd (ay g)) fS){c:ByteArray}(f:c∈bA g):fS c=(((ay g).length+Lx.fix (aS g) c:Nat):Int):=by
 obtain⟨r,a,rfl⟩:=ee.1 f;obtain⟨i,b,rfl⟩:=lA a;rw[j.rule i b b];have:=alG (fun r a=>(d.rl r a).1) (RD d.dup) b;have e:aS g=aN g.rules:=rfl;rw[e,this]
theorem aax(a:Lx.Fit g)(i:xG (ay g).length g.rules g.rules.length (jd (ay g)) fS){r:Lx.Rl}(b:r∈g.rules){x:Lx.It}(d:x∈dm 9 r.alts)(f:x.kind≠2):fS x.name=(xD (ay g) (aS g) x:Int):=by
 have c:=a.plain b d f;unfold Af at c;unfold xD;rcases (a.rl r b).2.1 x d with h2|h2|h2
 ·rw[dt (by omega)]
  exact ake a i (jI.1 (Jd (a.Uo b) d h2.1))
 ·rw[dj h2.1]at c|-
  exact acf a i h2.2.1 c
 ·exact absurd h2 f
end
theorem akf{g:Lx.Gr}{F:Nat->Prop}{w:World}{y:Value}{E:ByteArray->Int}{A:Addr->Int}(f:Lx.Fit g)(Y:lY F w y g.rules)(x:Apart F w (SG w (aU y) 0 g.rules))(B:xG (ay g).length g.rules g.rules.length (jd (ay g)) E)(O:xH w (aU y) (ay g).length g.rules g.rules.length A){G:Nat->Prop}(Q:∀b,F b->iU w b->G b):∀i(hi:i<g.rules.length),adT w F G E A (ay g) (aS g) (cv w ⟨aU y,i*2+1,none⟩) g.rules[i] ((ay g).length+(aN (g.rules.take i)).length):=by
 intro i hi;have j:=du hi;obtain⟨H,N,l,V,S,s,c0,Z⟩:=Y.at hi;subst V;have X:aU (.slice (some ⟨H,0,none⟩) g.rules.length N)=H:=rfl;rw[X]at x O|-;have K:cv w ⟨H,i*2+1,none⟩=l:=by unfold cv;rw[Z];rfl
 have u:∀k p,(hlA w l g.rules[i].alts)[k]?=some p->A p.1=(((ay g).length+(aN (g.rules.take i)).length+1+k:Nat):Int):=fun k p c=>O i hi hi k p (by rw[K];exact c)
 rw[K];have d:∀p∈aL 9 w l g.rules[i].alts,p.2∈dm 9 g.rules[i].alts:=fun p c=>by rw[<-FQ s];exact ee.2 ⟨p,c,rfl⟩
 have v:∀p∈aL 9 w l g.rules[i].alts,F p.1.block/\iU w p.1.block:=fun p c=>x.1 p (Rj g.rules 0 i (cF hi) (by rw[fk,K];exact c))
 have t:∀p∈aL 9 w l g.rules[i].alts,Al E A p=(yY (ay g) (aS g) ((ay g).length+(aN (g.rules.take i)).length) (bC 9 g.rules[i].alts) p.2:Int):=by
  intro p c;unfold Al yY
  by_cases hlp:Lx.hlp p.2=true
  ·rw[dj hlp,dj hlp]
   have L:p∈hlA w l g.rules[i].alts:=hU.2 ⟨c,hlp⟩;obtain⟨k,C,rfl⟩:=lA L;rw[u k _ (cF C)];have I:=ab8 s;have o:k<(bC 9 g.rules[i].alts).length:=by rw[<-SH s];exact C
   have R:(bC 9 g.rules[i].alts)[k]=((hlA w l g.rules[i].alts)[k]).2:=by
    have z:((hlA w l g.rules[i].alts).map Prod.snd)[k]?=(bC 9 g.rules[i].alts)[k]?:=by rw[I]
    rw[di,cF C,cF o]at z;simpa using z.symm
   have M:Aj (bC 9 g.rules[i].alts) ((hlA w l g.rules[i].alts)[k]).2.place<(bC 9 g.rules[i].alts).length:=ab7 (by rw[<-R];exact du o);have:=(aj2 (f.rise j) o M).1 (by rw[R]);rw[<-this]
  ·rw[dt hlp,dt hlp]
   refine aax f B j (d p c) fun h2=>hlp ?_
   simp[Lx.hlp,h2]
 refine⟨?_,fun p c=>⟨(v p c).1,Q _ (v p c).1 (v p c).2,fun h2=>aax f B j (d p c) h2,?_,?_,?_⟩,t,u,?_,?_,?_,?_,f.ano j _ _ _⟩
 ·exact B.rule i hi hi
 ·have:=(f.its j (d p c)).1;omega
 ·intro a r
  have:=(f.its j (d p c)).2 a r;omega
 ·obtain⟨n,m,W,T,h1,h2,h3,h4,z,J⟩:=acd s c
  exact⟨n,m,W,T,h1,h4,z,fun q D=>⟨Q _ (v q (J q D)).1 (v q (J q D)).2,t q (J q D)⟩⟩
 ·intro a r P
  have U:=f.prec j r P;rcases (f.rl _ j).2.2 a r with h1|h1
  ·exact absurd h1 P
  ·exact acf f B h1 U
 ·have:=(f.alts j).1;omega
 ·intro a r
  have:=(f.alts j).2 a r;omega
 ·rw[SH s]
  have:=f.Uq j;omega
namespace Lx
theorem afH{x:Wd}{ws:List Wd}(h:x.1=1\/x.1=2):fJ (x::ws)=fJ ws:=by unfold fJ;rw[re];rcases h with h|h <;> simp[h]
theorem ahM{x:Wd}{ws:List Wd}(h1:¬x.1=1)(h2:¬x.1=2):fJ (x::ws)=x.2.1::fJ ws:=by unfold fJ;rw[tM (by simp[h1,h2])];rfl
end Lx
structure an4(w:World)(mb S:Nat)(cs:Array Value)(T:List ByteArray)(w':World):Prop where
 ex:∃vT,aj w' mb (cs.setIfInBounds 0 vT) 198/\w'.ownsRow w.heap.size 9 1 vT T.length (T.map Value.string)
 sm:SMap w' S (jd T)
 kp:Kp (fun g=>g<w.heap.size/\g≠mb/\g≠S) w w'
theorem afI{w:World}{b S:Nat}{vH vW:Value}{ws:List Lx.Wd}(I:aj w b #[.slice none 0 0,.slice none 0 0,.slice none 0 0,.slice none 0 0,.slice none 0 0,.map (some S),vH] 198)(hS:SMap w S (fun _=>0))(xZ:WR w vW ws)(ax:∀g,vW.ownBlock=some g->g≠b/\g≠S)(hsz:∀x∈ws,x.2.1.size<=2000)(a1:∀x∈ws,¬x.1=1->¬x.1=2->x.2.1≠jX)(hl:ws.length<=100000):
  Calls prog 82 #[.pointer (some ⟨b,0,none⟩),vW] w fun e w'=>e=.returned (.tuple #[])/\an4 w b S #[.slice none 0 0,.slice none 0 0,.slice none 0 0,.slice none 0 0,.slice none 0 0,.map (some S),vH] (fZ [jX] (fJ ws)) w':=by
 obtain⟨i9,am,aa,ad,ai⟩:=ft Tryz.TU;obtain⟨a,c,rfl,-⟩:=xZ.len;have lm:=I.lt;have lS:=hS.lt;have AA:b≠S:=fun e=>by
  obtain⟨es,az,h1,-⟩:=hS;unfold aj at I;rw[e,h1]at I;cases I
 have m0:w.cell? ⟨b,0,none⟩=some (.slice none 0 0):=I.cell 0;have f0:∀i,w.frozen? ⟨b,i,none⟩=false:=I.frozen;go_enter func82,ntmps82;go_wp2_with fail;obtain⟨W,A⟩:∃W,W=(w.setCell ⟨b,0,none⟩ (.slice (some ⟨w.heap.size,0,none⟩) 1 1)).alloc (.cells #[.string jX] 9):=⟨_,rfl⟩;have eW:(w.setCell ⟨b,0,none⟩ (.slice (some ⟨w.heap.size,0,none⟩) 1 1)).alloc (.cells #[.string { data:=#[36] }] 9)=W:=A.symm;rw[eW];clear eW;have kW:aj W b #[.slice (some ⟨w.heap.size,0,none⟩) 1 1,.slice none 0 0,.slice none 0 0,.slice none 0 0,.slice none 0 0,.map (some S),vH] 198:=by rw[A];exact(I.set 0 _).alloc _
 have kN:aj W w.heap.size #[.string jX] 9:=by
  have:=aj.new (w.setCell ⟨b,0,none⟩ (.slice (some ⟨w.heap.size,0,none⟩) 1 1)) #[.string jX] 9;rw[A];simpa [World.setCell]using this
 have oW:W.ownsRow w.heap.size 9 1 (.slice (some ⟨w.heap.size,0,none⟩) 1 1) 1 [.string jX]:=⟨rfl,.inr ⟨w.heap.size,1,#[.string jX],rfl,zL0,kN,zL0,by decide,rfl,rfl⟩⟩;have y:Kp (fun g=>g<w.heap.size/\g≠b) w W:=⟨by rw[A];rfl,by rw[A];rfl,by rw[A];rfl,by rw[A];simp[World.setCell],fun g f=>by rw[A,dg _ _ _ (by simp[World.setCell];exact f.1),zS0 f.2]⟩;have ak:SMap W S (jd [jX]):=by rw[aj8];exact hS.move (y.block S ⟨lS,fun e=>AA e.symm⟩)
 have ag:Kp (fun g=>g<w.heap.size/\g≠b/\g≠S) w W:=⟨y.os,y.tape,y.output,y.size,fun g f=>y.block g ⟨f.1,f.2.1⟩⟩;have H0:Hid (fZ [jX] (fJ ws)=fZ [jX] (fJ (ws.drop 0))):=rfl;clear A y kN m0 f0
 go_loopg [13] ws.length (fun k i wr=>∃(j:Nat)(T:List ByteArray)(vT:Value),j+k=ws.length/\i=.int .i64 j/\T.length<=j+1/\(∃R,T=jX::R)/\aj wr b #[vT,.slice none 0 0,.slice none 0 0,.slice none 0 0,.slice none 0 0,.map (some S),vH] 198/\wr.ownsRow w.heap.size 9 1 vT T.length (T.map Value.string)/\SMap wr S (jd T)/\Kp (fun g=>g<w.heap.size/\g≠b/\g≠S) w wr/\Hid (fZ [jX] (fJ ws)=fZ T (fJ (ws.drop j))))
 case atStart=>exact⟨0,[jX],_,by omega,rfl,by simp,⟨[],rfl⟩,kW,oW,ak,ag,H0⟩
 case round=>
  clear H0 ak ag oW kW;obtain⟨j,T,vT,hk,rfl,Pv,s,kr,VL,hM,C,O⟩:=hrel;have aq:=C.size;obtain⟨V,Q,rfl,-⟩:=aC VL
  by_cases hlt:j<ws.length
  ·have ar:WR wr _ ws:=xZ.move fun g f=>C.block g ⟨(xZ.lt g f).2,ax g f⟩
   obtain⟨g,a9,hv,lg,c0,c1,c2⟩:=ar.at hlt;cases hv;have hd:=O.out;rw[eR hlt]at hd;have UH:=hsz ws[j] (du hlt);have Gh:=a1 ws[j] (du hlt);generalize ws[j]=x at c0 c1 c2 hd UH Gh;obtain⟨z,d,ac⟩:=x;simp only at c0 c1 c2 hd UH Gh;obtain⟨r,t⟩:∃r,r=wr.alloc (.cells #[.int .i64 (z:Int),.string d,.int .i64 (ac:Int)] 190):=⟨_,rfl⟩;have E:Below wr.heap.size wr r:=by rw[t];exact(cV _ _).alloc (zL0) _
   have a0:r.heap.size=wr.heap.size+1:=by rw[t];simp
   have kx:aj r wr.heap.size #[.int .i64 (z:Int),.string d,.int .i64 (ac:Int)] 190:=by rw[t];exact aj.new wr _ 190
   have ap:=hM.lt;have aw:=kr.lt;have F:SMap r S (jd T):=hM.move (E.block _ ap);have k1:aj r b _ 198:=(E.block _ aw).trans kr;have Y:=own_below VL E;have l:Kp (fun g=>g<w.heap.size/\g≠b/\g≠S) w r:=C.trans (Kp.below E (D:=fun g=>g<wr.heap.size) fun g f=>f) fun g f=>dd f.1 aq
   by_cases p:z=1\/z=2
   ·rw[afH p]at hd
    have v:Hid _:=hd;clear hd O;rcases p with p|p
    have ae:((z:Int) == 1)=true:=by simp[p]
    clear p
    rotate_left
    have ae:((z:Int) == 1)=false:=zB0 (by omega);have a2:((z:Int) == 2)=true:=by simp[p]
    clear p
    all_goals
     go_wp2_with fail;rw[<-t];go_roundg (ws.length - (j+1))
     case measure=>omega
     case rel=>exact⟨j+1,T,_,by omega,by go_num,by omega,s,k1,Y,F,l,v⟩
   ·have L:¬z=1:=fun e=>p (.inl e)
    have H:¬z=2:=fun e=>p (.inr e)
    have ae:((z:Int) == 1)=false:=zB0 (by omega);have a2:((z:Int) == 2)=false:=zB0 (by omega);rw[ahM L H]at hd;have B:=Gh L H;have UI:SMap r.drew S (jd T):=F.move rfl;have M:=UI.look d;have x1:r.drew.cell? ⟨wr.heap.size,1,none⟩=some (.string d):=kx.drew.cell 1;have m5:r.drew.cell? ⟨b,5,none⟩=some (.map (some S)):=k1.drew.cell 5;have ab:Kp (fun g=>g<w.heap.size/\g≠b/\g≠S) w r.drew:=⟨l.os,l.tape,l.output,l.size,l.block⟩;clear Gh p L H;obtain⟨R,s⟩:=s
    by_cases h0:jd T d=0
    ·have P:¬0<=bZ T d:=by
      rw[s]at h0|-;exact(aau B).1 h0
     have v:Hid (fZ [jX] (fJ ws)=fZ (T++[d]) (fJ (ws.drop (j+1)))):=by
      rw[show fZ T (d::fJ (ws.drop (j+1)))=fZ (jJ T d) (fJ (ws.drop (j+1))) from rfl,show jJ T d=T++[d] from dt P]at hd;exact hd
     rw[h0]at M;have X:SMap r.drew.drew S (jd T):=F.move rfl;obtain⟨w2,hu,af,q,N⟩:=X.put d (T.length:Int);rw[aj9 P]at af;have VN:aj r.drew.drew b _ 198:=k1.drew.drew;have ah:aj r.drew.drew wr.heap.size _ 190:=kx.drew.drew;have d0:r.drew.drew.cell? ⟨b,0,none⟩=some (.slice V T.length Q):=VN.cell 0;have d5:r.drew.drew.cell? ⟨b,5,none⟩=some (.map (some S)):=VN.cell 5;have dx:r.drew.drew.cell? ⟨wr.heap.size,1,none⟩=some (.string d):=ah.cell 1;have k2:aj w2 b _ 198:=VN.grown q (fun e=>AA (ie e));have Gv:aj w2 wr.heap.size _ 190:=ah.grown q (fun e=>by have:=ie e;omega);have o2:w2.ownsRow w.heap.size 9 1 (.slice V T.length Q) T.length (T.map Value.string):=aD (aD (w':=r.drew.drew) Y fun _ _=>rfl) fun g f=>q.block g (Y.lt g f).2 (fun e=>by have:=(Y.lt g f).1;have:=ie e;omega)
     have u:Kp (fun g=>g<w.heap.size/\g≠b/\g≠S) w w2:=⟨q.os.trans l.os,q.tape.trans l.tape,q.output.trans l.output,by rw[N];exact l.size,fun g f=>(q.block g (dd f.1 l.size) (fun e=>f.2.2 (ie e))).trans (l.block g f)⟩;have a4:w2.heap.size=wr.heap.size+1:=N.trans a0;have a6:=q;have HT:Hid (∃R,T++[d]=jX::R):=⟨R++[d],by rw[s];rfl⟩;clear hd O P B h0 F UI X q N ab s;go_wp2_with fail;rw[<-t];clear t c0 c1 c2
     go_region
     all_goals
      go_wp2_with fail
      go_region
     all_goals
      clear M hu d0 d5 dx m5 x1;have qC:=MG d w2.drew UH;have al:=k2.lt;have e0:w2.drew.cell? ⟨b,0,none⟩=some (.slice V T.length Q):=k2.drew.cell 0;have ex:w2.drew.cell? ⟨wr.heap.size,1,none⟩=some (.string d):=Gv.drew.cell 1;go_wp2_with fail
      go_region_law (first | (refine jW rfl 57 #[.string d] (by go_simp) qC ?_;rintro e U⟨rfl,o⟩;have k3:aj U b _ 198:=(o.block b al).trans k2;have o3:=own_below (aD (w':=w2.drew) o2 fun _ _=>rfl) o;have oA:=o3.alloc (.cells #[.string d] 9);have e3:U.cell? ⟨b,0,none⟩=some (.slice V T.length Q):=k3.cell 0;have a8:=k3.lt;have a7:w.heap.size<=U.heap.size:=de u.size o.size;refine⟨_,rfl,?_⟩) | (refine step_append_lies _ rfl (.tmp 50) (.tmp 54) 53 rfl w.heap.size 9 i9 _ 1 16 underlying53 am aa ad ai rfl (by decide) (.slice V T.length Q) T.length (T.map Value.string) (by simp[Act.eval]) oA ⟨U.heap.size,0,none⟩ 1 1 [.string d] (by simp[Act.eval]) rfl (eO (aj.new U _ 9)) (by simp[Value.oneCell']) (by decide) (by unfold maxLen;omega) (by omega) (by simp;omega) _ rfl ?_;intro K m J uP G Ef Gd;have k4:=(k3.alloc (.cells #[.string d] 9)).grown G (fun e=>by have:=(o2.lt b e.symm).1;omega);have av:J.cell? ⟨b,0,none⟩=some (.slice V T.length Q):=k4.cell 0;have f4:∀i,J.frozen? ⟨b,i,none⟩=false:=k4.frozen))
     all_goals
      have fu:∀g,g<w2.heap.size->g≠b->g<w.heap.size->(J.setCell ⟨b,0,none⟩ (.slice (some ⟨K,0,none⟩) (T.length+1) m)).heap[g]?=w2.heap[g]?:=fun g f hm a5=>by
       rw[zS0 hm,G.block g (by have:=o.size;have:g<U.heap.size:=dd f this;simp;omega) (fun e=>by have:=(o2.lt g e.symm).1;omega),dg _ _ _ (dd f o.size),o.block g f];rfl
      have o5:(J.setCell ⟨b,0,none⟩ (.slice (some ⟨K,0,none⟩) (T.length+1) m)).ownsRow w.heap.size 9 1 (.slice (some ⟨K,0,none⟩) (T.length+1) m) (T++[d]).length ((T++[d]).map Value.string):=by
       rw[cH,eJ];exact aD uP fun g f=>zS0 (fun e=>by have:=(uP.lt g f).1;have e':g=b:=e;omega)
      have Z:w2.heap.size<=(J.setCell ⟨b,0,none⟩ (.slice (some ⟨K,0,none⟩) (T.length+1) m)).heap.size:=by
       have h1:=o.size;have h2:=G.size;simp[World.setCell]at h1 h2|-;omega
      have an:S<w2.heap.size:=by omega
      have dZ:SMap (J.setCell ⟨b,0,none⟩ (.slice (some ⟨K,0,none⟩) (T.length+1) m)) S (jd (T++[d])):=af.move (fu S an (fun e=>AA e.symm) lS);have ao:Kp (fun g=>g<w.heap.size/\g≠b/\g≠S) w (J.setCell ⟨b,0,none⟩ (.slice (some ⟨K,0,none⟩) (T.length+1) m)):=⟨G.os.trans (o.os.trans u.os),G.tape.trans (o.tape.trans u.tape),G.output.trans (o.output.trans u.output),de u.size Z,fun g f=>(fu g (dd f.1 u.size) f.2.1 f.1).trans (u.block g f)⟩;have k5:=k4.set 0 (.slice (some ⟨K,0,none⟩) (T.length+1) m);clear k4 av f4 G uP Ef Gd o3 oA e3 o k3 qC e0 ex fu Z;go_wp2_with fail;go_roundg (ws.length - (j+1))
      case measure=>omega
      case rel=>exact⟨j+1,T++[d],_,by omega,by go_num,by simp;omega,HT.out,k5,o5,dZ,ao,v⟩
    ·have P:0<=bZ T d:=by
      apply kj;intro hn;rw[s]at h0 hn;exact h0 ((aau B).2 hn)
     have v:Hid (fZ [jX] (fJ ws)=fZ T (fJ (ws.drop (j+1)))):=by
      rw[show fZ T (d::fJ (ws.drop (j+1)))=fZ (jJ T d) (fJ (ws.drop (j+1))) from rfl,show jJ T d=T from dj P]at hd;exact hd
     clear hd O P B;generalize hn:jd T d=n at M h0;have a3:(n == 0)=false:=fY.2 h0;go_wp2_with fail;rw[<-t];clear t c0 c1 c2
     go_region
     all_goals
      go_wp2_with fail;go_roundg (ws.length - (j+1))
      case measure=>omega
      case rel=>exact⟨j+1,T,_,by omega,by go_num,by omega,⟨R,s⟩,k1.drew,aD Y fun _ _=>rfl,UI,ab,v⟩
  ·have:j=ws.length:=by omega
   subst this;have hd:=O.out;rw[io]at hd;have v:Hid (fZ [jX] (fJ ws)=T):=hd;clear hd O;go_wp2_with fail
   go_end0
   refine⟨rfl,?_⟩;rw[v.out];exact⟨⟨_,kr,VL⟩,hM,C⟩
def eU(r:List Nat):Array Value:=(dK r).toArray
theorem RF(r:List Nat)(i:Nat)(s:Nat):(eU r).setIfInBounds i (.int .i64 (s:Int))=eU (r.set i s):=by
 unfold eU dK;rw[kf,oj]
theorem RG(r:List Nat){i:Nat}(h:i<r.length):(eU r)[i]?=some (.int .i64 (r[i]:Int)):=by
 unfold eU dK;simp[h]
theorem ai1(n:Nat):madeCells #[.int .i64 0] (n*1)=eU (List.replicate n 0):=by
 unfold madeCells eU dK;apply qe
 ·simp
 ·intro i h1 h2
  simp[Nat.mod_one]
theorem Tryz.info3':(prog.info? 3).map (fun i=>(i.zero,i.size,i.bytes))=some (some (.int .i64 0),1,8):=by kernel_rfl
theorem RH{n:Nat}(g:n<=100000)(w:World):(Instr.makeSlice 22 (.int .i64 (n:Int)) (.int .i64 (n:Int))).run prog w=.ok (.slice (some ⟨w.heap.size,0,none⟩) n n) (w.alloc (.cells (eU (List.replicate n 0)) 3)):=by
 obtain⟨f,d,b,c,a⟩:=ft Tryz.info3';have h:=pA (P:=prog) w 22 3 f _ (by kernel_rfl) d b .i64 .i64 (n:Int) (n:Int) (by omega) (nF _) (by rw[a];omega) (by omega);rw[h,im,c];have e:Value.cells (.int .i64 0)=#[.int .i64 0]:=rfl;rw[e,ai1]
theorem aay{w:World}{g:Nat}{r:List Nat}(h:aj w g (eU r) 3){B:Nat}(a:B<=g)(b:r.length<=100000):IR B w (.slice (some ⟨g,0,none⟩) r.length r.length) r:=by
 refine⟨by rw[Dx];simp,.inr ⟨g,r.length,eU r,rfl,a,h,zL0,by unfold maxLen;omega,by simp[eU,Dx],?_⟩⟩;unfold eU;rw[j9,<-Dx];exact fR
namespace Lx
theorem agc{l:List ByteArray}(h:l.Nodup)(b:ByteArray):(jJ l b).Nodup:=by
 unfold jJ
 split
 ·exact h
 ·rename_i f
  rw[ip];refine⟨h,by simp,fun a g c d e=>?_⟩;rw[cN]at d;exact f (jI.2 (d▸e▸g))
theorem XR:∀(bs l:List ByteArray),l.Nodup->(fZ l bs).Nodup
 | [],_,h=>h
 |b::bs,l,h=>XR bs (jJ l b) (agc h b)
theorem acg{T:List ByteArray}(c:T.Nodup){b:ByteArray}{i:Nat}(a:T[i]?=some b)(f:ByteArray->Nat)(v:Nat):(T.map f).set i v=T.map fun t=>if t=b then v else f t:=by
 obtain⟨a,rfl⟩:=cG.1 a;apply ms
 ·simp
 ·intro j h1 h2
  simp only[List.length_set,List.length_map]at h1;rw[tE,oS,oS]
  by_cases hij:i=j
  ·subst hij;simp
  ·rw[dt hij,dt]
   intro e;exact hij ((lP c).1 e).symm
theorem alM{T:List ByteArray}{b:ByteArray}(h:0<=bZ T b):T[fix T b]?=some b/\bZ T b=(fix T b:Int):=by
 have a:fix T b<T.length:=by
  unfold bZ at h
  split at h
  ·assumption
  ·omega
 refine⟨?_,by unfold bZ;rw[dj a]⟩;have:=pS (w:=a);rw[cF a];have h2:T[fix T b]=b:=iS this;rw[h2]
def Gl(p:Nat×Nat):List (ByteArray×Nat)->(ByteArray->Nat×Nat)->ByteArray->Nat×Nat
 | [],B=>B
 |t::ts,B=>Gl p ts fun c=>if c=t.1 then p else B c
theorem ach(p:Nat×Nat):∀(ts:List (ByteArray×Nat))(B:ByteArray->Nat×Nat)(t:ByteArray),Gl p ts B t=if 0<=bZ (ts.map Prod.fst) t then p else B t
 | [],B,t=>by
  have:¬0<=bZ ([]:List ByteArray) t:=fun h=>by have:=jI.1 h;cases this
  rw[ri,dt this];rfl
 |x::ts,B,t=>by
  rw[Gl,ach p ts,j7]
  by_cases h1:0<=bZ (ts.map Prod.fst) t
  ·rw[dj h1,dj (jI.2 (ei _ (jI.1 h1)))]
  ·rw[dt h1]
   by_cases h2:t=x.1
   ·rw[dj h2,dj (jI.2 (by rw[h2];exact ed))]
   ·rw[dt h2,dt]
    intro h;rcases eC.1 (jI.1 h) with h|h
    ·exact h2 h
    ·exact h1 (jI.2 h)
end Lx
structure an5(w:World)(mb:Nat)(cs:Array Value)(T:List ByteArray)(B:ByteArray->Nat×Nat)(w':World):Prop where
 ex:∃vB vK,aj w' mb ((cs.setIfInBounds 3 vB).setIfInBounds 4 vK) 198/\IR w.heap.size w' vB (T.map fun t=>(B t).1)/\IR w.heap.size w' vK (T.map fun t=>(B t).2)/\∀g,vB.ownBlock=some g->vK.ownBlock≠some g
 kp:Kp (fun g=>g<w.heap.size/\g≠mb) w w'
theorem afJ{F:Nat->Prop}{w:World}{d S:Nat}{vT vN vP vH vL:Value}{T:List ByteArray}{f:List Lx.Lv}(K:aj w d #[vT,vN,vP,.slice none 0 0,.slice none 0 0,.map (some S),vH] 198)(oT:w.ownsRow 0 9 1 vT T.length (T.map Value.string))(hS:SMap w S (jd T))(hV:Tr.Seq F w 250 2 cL (KL F w) vL f)(hF:∀b,F b->b<w.heap.size/\b≠d)(nd:T.Nodup)(hT:∀l∈f,∀t∈l.tokens,0<=bZ T t.1)(Pv:T.length<=100000)(VO:f.length<=100000):
  Calls prog 83 #[.pointer (some ⟨d,0,none⟩),vL] w fun e w'=>e=.returned (.tuple #[])/\an5 w d #[vT,vN,vP,.slice none 0 0,.slice none 0 0,.map (some S),vH] T (fun t=>Lx.bk t 0 f (0,0)) w':=by
 obtain⟨la,lc,rfl,a7⟩:=Seq.len hV;obtain⟨ta,tc,rfl,-⟩:=aC oT;have lm:=K.lt;have lS:=hS.lt;have AA:d≠S:=fun e=>by
  obtain⟨es,a1,h1,-⟩:=hS;unfold aj at K;rw[e,h1]at K;cases K
 have az:=fun w=>RH Pv w
 have m0:w.cell? ⟨d,0,none⟩=some (.slice ta T.length tc):=K.cell 0;have m3:w.cell? ⟨d,3,none⟩=some (.slice none 0 0):=K.cell 3;have m4:w.cell? ⟨d,4,none⟩=some (.slice none 0 0):=K.cell 4;have f0:∀i,w.frozen? ⟨d,i,none⟩=false:=K.frozen;go_enter func83,ntmps83;go_wp2_with fail;obtain⟨W,I⟩:∃W,W=(((w.setCell ⟨d,3,none⟩ (.slice (some ⟨w.heap.size,0,none⟩) T.length T.length)).setCell ⟨d,4,none⟩ (.slice (some ⟨w.heap.size+1,0,none⟩) T.length T.length)).alloc (.cells (eU (List.replicate T.length 0)) 3)).alloc (.cells (eU (List.replicate T.length 0)) 3):=⟨_,rfl⟩;rw[<-I];have kW:aj W d #[.slice ta T.length tc,vN,vP,.slice (some ⟨w.heap.size,0,none⟩) T.length T.length,.slice (some ⟨w.heap.size+1,0,none⟩) T.length T.length,.map (some S),vH] 198:=by rw[I];exact(((K.set 3 _).set 4 _).alloc _).alloc _
 have VP:T.map (fun _:ByteArray=>0)=List.replicate T.length 0:=List.map_const' ..;have kB:aj W w.heap.size (eU (T.map fun t=>((fun _=>(0,0):ByteArray->Nat×Nat) t).1)) 3:=by
  have:=(aj.new ((w.setCell ⟨d,3,none⟩ (.slice (some ⟨w.heap.size,0,none⟩) T.length T.length)).setCell ⟨d,4,none⟩ (.slice (some ⟨w.heap.size+1,0,none⟩) T.length T.length)) (eU (List.replicate T.length 0)) 3).alloc (.cells (eU (List.replicate T.length 0)) 3);rw[I];show aj _ _ (eU (T.map (fun _:ByteArray=>0))) 3;rw[VP];simpa [World.setCell]using this
 have kK:aj W (w.heap.size+1) (eU (T.map fun t=>((fun _=>(0,0):ByteArray->Nat×Nat) t).2)) 3:=by
  have:=aj.new (((w.setCell ⟨d,3,none⟩ (.slice (some ⟨w.heap.size,0,none⟩) T.length T.length)).setCell ⟨d,4,none⟩ (.slice (some ⟨w.heap.size+1,0,none⟩) T.length T.length)).alloc (.cells (eU (List.replicate T.length 0)) 3)) (eU (List.replicate T.length 0)) 3;rw[I];show aj _ _ (eU (T.map (fun _:ByteArray=>0))) 3;rw[VP];simpa [World.setCell]using this
 have aa:Kp (fun g=>g<w.heap.size/\g≠d) w W:=⟨by rw[I];rfl,by rw[I];rfl,by rw[I];rfl,by rw[I];simp[World.setCell];omega,fun g u=>by rw[I,dg _ _ _ (by simp[World.setCell];omega),dg _ _ _ (by simp[World.setCell];exact u.1),zS0 u.2,zS0 u.2]⟩;have H0:Hid (∀t,Lx.bk t 0 f (0,0)=Lx.bk t 0 (f.drop 0) ((fun _=>(0,0):ByteArray->Nat×Nat) t)):=fun _=>rfl
 clear I VP az m0 m3 m4 f0;obtain⟨O,M⟩:∃O:Array Value,O=#[.slice ta T.length tc,vN,vP,.slice (some ⟨w.heap.size,0,none⟩) T.length T.length,.slice (some ⟨w.heap.size+1,0,none⟩) T.length T.length,.map (some S),vH]:=⟨_,rfl⟩;rw[<-M]at kW
 go_loopg [32] f.length (fun k i wr=>∃(j:Nat)(B:ByteArray->Nat×Nat),j+k=f.length/\i=.int .i64 j/\aj wr d O 198/\aj wr w.heap.size (eU (T.map fun t=>(B t).1)) 3/\aj wr (w.heap.size+1) (eU (T.map fun t=>(B t).2)) 3/\Kp (fun g=>g<w.heap.size/\g≠d) w wr/\Hid (∀t,Lx.bk t 0 f (0,0)=Lx.bk t j (f.drop j) (B t)))
 case atStart=>exact⟨0,_,by omega,rfl,kW,kB,kK,aa,H0⟩
 case round=>
  clear H0 aa kK kB kW;revert wr;intro x hrel;obtain⟨j,B,hk,rfl,Z,Pw,KO,E,HD⟩:=hrel
  by_cases hlt:j<f.length
  ·have aw:Tr.Seq F x 250 2 cL (KL F w) _ f:=Seq.move hV (fun b hb=>E.block b (hF b hb)) (fun _ h=>h) (fun _ _ h=>h)
   obtain⟨gL,JK,va,hv,a8,Px,VQ⟩:=Seq.at aw (fun _=>rfl) hlt;cases hv;have R:=hT f[j] (du hlt);have hd:=HD.out;rw[eR hlt]at hd;have c0:x.cell? ⟨gL,j*2,none⟩=some (.int .i64 (f[j].kind:Int)):=VQ 0 (by decide);have c1:x.cell? ⟨gL,j*2+1,none⟩=some va:=VQ 1 (by decide);generalize f[j]=lv at R hd Px c0 c1;obtain⟨o,a⟩:=lv;simp only at R Px c0 c1;have af:Tr.Seq F w 9 1 cT (fun _ _=>True) va a:=Px;obtain⟨xa,xc,rfl,iB⟩:=Seq.len af;obtain⟨y,a4,HJ⟩:∃y:Nat,IntKind.i64.wrap ((j:Int)+1)=(y:Int)/\Hid (y=j+1):=⟨j+1,by rw[show ((j:Int)+1)=((j+1:Nat):Int) from by omega];exact wrap64 (by omega),rfl⟩;have V:Hid (∀t,Lx.bk t 0 f (0,0)=Lx.bk t (j+1) (f.drop (j+1)) (Gl (y,o) (a.drop 0) B t)):=fun t=>by
    rw[hd t,Lx.bk,HJ.out,uk,ach]
   clear hd HD VQ Px;obtain⟨Q,C⟩:∃Q,Q=x.alloc (.cells #[.int .i64 (o:Int),.slice xa a.length xc] 250):=⟨_,rfl⟩;have G:Below x.heap.size x Q:=by rw[C];exact(cV _ _).alloc (zL0) _
   have a9:Q.heap.size=x.heap.size+1:=by rw[C];simp
   have kl:aj Q x.heap.size #[.int .i64 (o:Int),.slice xa a.length xc] 250:=by rw[C];exact aj.new x _ 250
   have a5:=KO.lt;have k1:aj Q d O 198:=(G.block _ Z.lt).trans Z;have aq:=(G.block _ Pw.lt).trans Pw;have ad:=(G.block _ KO.lt).trans KO;have ae:Kp (fun g=>g<w.heap.size/\g≠d) w Q:=E.trans (Kp.below G (D:=fun g=>g<x.heap.size) fun g u=>u) fun g u=>dd u.1 E.size
   unfold maxLen at iB;go_wp2_with fail;rw[<-C];clear C c0 c1
   go_loopg [40] a.length (fun k i wr=>∃(m:Nat)(B:ByteArray->Nat×Nat),m+k=a.length/\i=.int .i64 m/\aj wr d O 198/\aj wr w.heap.size (eU (T.map fun t=>(B t).1)) 3/\aj wr (w.heap.size+1) (eU (T.map fun t=>(B t).2)) 3/\aj wr x.heap.size #[.int .i64 (o:Int),.slice xa a.length xc] 250/\Kp (fun g=>g<w.heap.size/\g≠d) w wr/\Hid (∀t,Lx.bk t 0 f (0,0)=Lx.bk t (j+1) (f.drop (j+1)) (Gl (y,o) (a.drop m) B t)))
   case atStart=>exact⟨0,B,by omega,rfl,k1,aq,ad,kl,ae,V⟩
   case round=>
    clear V ae kl ad aq k1 G Z Pw KO E;clear B;obtain⟨m,B,a3,rfl,kr,vO,VR,ak,n,V⟩:=hrel
    by_cases Ak:m<a.length
    ·have am:Tr.Seq F wr 9 1 cT (fun _ _=>True) _ a:=Seq.move af (fun b hb=>n.block b (hF b hb)) (fun _ h=>h) (fun _ _ h=>h)
     obtain⟨gT,a6,vk,hv,aA,-,ac⟩:=Seq.at am (fun _=>rfl) Ak;cases hv;have t0:wr.cell? ⟨gT,m,none⟩=some (.string a[m].1):=by
      have:=ac 0 (by decide);rw[j9,mn]at this;exact this
     have H:=R a[m] (du Ak);have hd:=V.out;rw[eR Ak]at hd;generalize a[m]=tk at t0 H hd;obtain⟨r,tp⟩:=tk;simp only at t0 H;obtain⟨L,ap⟩:=alM H;have U:jd T r=(Lx.fix T r:Int):=by unfold jd;rw[dj H];exact ap
     have jK:SMap wr S (jd T):=hS.move (n.block S ⟨lS,fun e=>AA e.symm⟩);have eB:=acg nd L (fun t=>(B t).1) y;have eK:=acg nd L (fun t=>(B t).2) o;have mV:Lx.fix T r<T.length:=(cG.1 L).1;have ax:Hid (∀t,Lx.bk t 0 f (0,0)=Lx.bk t (j+1) (f.drop (j+1)) (Gl (y,o) (a.drop (m+1)) (fun c=>if c=r then (y,o) else B c) t)):=fun t=>by rw[hd t];rfl
     have ai:(T.map fun t=>((fun c=>if c=r then (y,o) else B c) t).1)=T.map fun t=>if t=r then y else (B t).1:=ml fun t _=>by show (if t=r then (y,o) else B t).1=_;split <;> rfl
     have Y:(T.map fun t=>((fun c=>if c=r then (y,o) else B c) t).2)=T.map fun t=>if t=r then o else (B t).2:=ml fun t _=>by show (if t=r then (y,o) else B t).2=_;split <;> rfl
     have al:=SMap.look (w:=wr.drew) (jK.move rfl) r;rw[U]at al;have P:Hid (Lx.fix T r<(T.map fun t=>(B t).1).length):=by show _<_;simpa using mV
     have yg:Hid (Lx.fix T r<(T.map fun t=>(B t).2).length):=by show _<_;simpa using mV
     have VT:=U;generalize Lx.fix T r=q at al eB eK mV P yg VT;have VU:=vO.drew;have b0:wr.drew.cell? ⟨w.heap.size,q,none⟩=some (.int .i64 ((T.map fun t=>(B t).1)[q]'P.out:Int)):=by rw[VU.cell q];exact RG _ P.out
     generalize (T.map fun t=>(B t).1)[q]'P.out=ob at b0;have fB:∀i,wr.drew.frozen? ⟨w.heap.size,i,none⟩=false:=VU.frozen;have Py:=kr.drew;rw[M]at Py;have m3:wr.drew.cell? ⟨d,3,none⟩=some (.slice (some ⟨w.heap.size,0,none⟩) T.length T.length):=Py.cell 3;have m5:wr.drew.cell? ⟨d,5,none⟩=some (.map (some S)):=Py.cell 5;obtain⟨s,p⟩:∃s,s=(wr.setCell ⟨w.heap.size,q,none⟩ (.int .i64 (y:Int))).drew:=⟨_,rfl⟩;have an:aj s w.heap.size (eU (T.map fun t=>if t=r then y else (B t).1)) 3:=by
      have:=(vO.set q (.int .i64 (y:Int))).drew;rw[RF,eB]at this;rw[p];exact this
     have A:∀g,g≠w.heap.size->s.heap[g]?=wr.heap[g]?:=fun g u=>by rw[p];exact zS0 u
     have k2:aj s d O 198:=(A d (by omega)).trans kr;have ah:=(A (w.heap.size+1) (by omega)).trans VR;have ao:=(A x.heap.size (by omega)).trans ak;have z:Kp (fun g=>g<w.heap.size/\g≠d) w s:=⟨by rw[p];exact n.os,by rw[p];exact n.tape,by rw[p];exact n.output,by rw[p];simpa [World.setCell]using n.size,fun g u=>(A g (by omega)).trans (n.block g u)⟩;have ag:SMap s S (jd T):=jK.move (A S (by omega));have av:=SMap.look (w:=s.drew) (ag.move rfl) r;rw[VT]at av;have OB:aj s (w.heap.size+1) (eU (T.map fun t=>(B t).2)) 3:=ah;have UJ:aj s x.heap.size #[.int .i64 (o:Int),.slice (some ⟨gT,0,none⟩) a.length xc] 250:=ao;have a0:s.drew.cell? ⟨w.heap.size+1,q,none⟩=some (.int .i64 ((T.map fun t=>(B t).2)[q]'yg.out:Int)):=by rw[OB.drew.cell q];exact RG _ yg.out
     generalize (T.map fun t=>(B t).2)[q]'yg.out=ok at a0;have fK:∀i,s.drew.frozen? ⟨w.heap.size+1,i,none⟩=false:=OB.drew.frozen;have Pz:=k2.drew;rw[M]at Pz;have n4:s.drew.cell? ⟨d,4,none⟩=some (.slice (some ⟨w.heap.size+1,0,none⟩) T.length T.length):=Pz.cell 4;have n5:s.drew.cell? ⟨d,5,none⟩=some (.map (some S)):=Pz.cell 5;have nl:s.drew.cell? ⟨x.heap.size,0,none⟩=some (.int .i64 (o:Int)):=UJ.drew.cell 0;obtain⟨N,v⟩:∃N,N=(s.setCell ⟨w.heap.size+1,q,none⟩ (.int .i64 (o:Int))).drew:=⟨_,rfl⟩;have X:aj N (w.heap.size+1) (eU (T.map fun t=>if t=r then o else (B t).2)) 3:=by
      have:=(OB.set q (.int .i64 (o:Int))).drew;rw[RF,eK]at this;rw[v];exact this
     have KP:∀g,g≠w.heap.size+1->N.heap[g]?=s.heap[g]?:=fun g u=>by rw[v];exact zS0 u
     have k3:aj N d O 198:=(KP d (by omega)).trans k2;have ab:aj N w.heap.size _ 3:=(KP w.heap.size (by omega)).trans an;have ar:aj N x.heap.size _ 250:=(KP x.heap.size (by omega)).trans UJ;have a2:Kp (fun g=>g<w.heap.size/\g≠d) w N:=⟨by rw[v];exact z.os,by rw[v];exact z.tape,by rw[v];exact z.output,by rw[v];simpa [World.setCell]using z.size,fun g u=>(KP g (by omega)).trans (z.block g u)⟩;rw[<-ai]at ab;rw[<-Y]at X;clear hd L ap U ac H eB vO VU eK ai Y ah OB ao UJ Pz Py an k2 z ag VT P yg A KP kr VR ak jK n am;go_wp2_with fail
     go_region
     all_goals
      rw[<-p];clear p;go_wp2_with fail
      go_region
     all_goals
      rw[<-v];clear v;go_wp2_with fail;go_roundg (a.length - (m+1))
      case measure=>omega
      case rel=>exact⟨m+1,_,by omega,by go_num,k3,ab,X,ar,a2,ax⟩
    ·have:m=a.length:=by omega
     subst this;have hd:=V.out;rw[io]at hd;have J:Hid (∀t,Lx.bk t 0 f (0,0)=Lx.bk t (j+1) (f.drop (j+1)) (B t)):=hd;clear hd V;go_wp2_with fail;go_roundg (f.length - (j+1))
     case measure=>omega
     case rel=>exact⟨j+1,B,by omega,by first | rfl | (rw[HJ.out];done) | (rw[HJ.out];go_num),kr,vO,VR,n,J⟩
  ·have:j=f.length:=by omega
   subst this;have hd:=HD.out;rw[io]at hd;have J:Hid (∀t,Lx.bk t 0 f (0,0)=B t):=hd;clear hd HD;go_wp2_with fail
   go_end0
   rw[M]at Z;refine⟨rfl,⟨_,_,Z,?_,?_,?_⟩,E⟩
   ·rw[show (T.map fun t=>(Lx.bk t 0 f (0,0)).1)=T.map fun t=>(B t).1 from ml fun t _=>by rw[J.out t]]
    have:=aay Pw (zL0) (by simpa using Pv);simpa using this
   ·rw[show (T.map fun t=>(Lx.bk t 0 f (0,0)).2)=T.map fun t=>(B t).2 from ml fun t _=>by rw[J.out t]]
    have:=aay (B:=w.heap.size) KO (by omega) (by simpa using Pv);simpa using this
   ·intro g u e
    have h1:w.heap.size=g:=by simpa [Value.ownBlock]using u
    have h2:w.heap.size+1=g:=by simpa [Value.ownBlock]using e
    omega
def PlP(w:World)(v:Value)(T N:List ByteArray)(P:List Lx.Pd)(Bs Ks:List Nat):Prop:=∃vT vN vP vB vK,v=.agg #[vT,vN,vP,vB,vK]/\w.ownsRow 0 9 1 vT T.length (T.map Value.string)/\w.ownsRow 0 9 1 vN N.length (N.map Value.string)/\PP (fun _=>True) w vP P/\IR 0 w vB Bs/\IR 0 w vK Ks
def uZ(B:Nat)(w:World)(v:Value)(T N:List ByteArray)(P:List Lx.Pd)(Bs Ks:List Nat):Prop:=∃vT vN vP vB vK,v=.agg #[vT,vN,vP,vB,vK]/\w.ownsRow 0 9 1 vT T.length (T.map Value.string)/\w.ownsRow 0 9 1 vN N.length (N.map Value.string)/\PP (fun g=>B<=g) w vP P/\IR 0 w vB Bs/\IR 0 w vK Ks/\∀g,vP.ownBlock=some g->B<=g
theorem uZ.pl{B:Nat}{w:World}{v:Value}{T N:List ByteArray}{P:List Lx.Pd}{a b:List Nat}(h:uZ B w v T N P a b):PlP w v T N P a b:=by
 obtain⟨g,d,j,i,k,l,h1,h2,⟨p,n,m,r,c⟩,h4,o,-⟩:=h;exact⟨g,d,j,i,k,l,h1,h2,⟨p,n,m,fun q f=>⟨(r q f).1,fun _ _=>trivial⟩,c⟩,h4,o⟩
theorem PP.move{D D':Nat->Prop}{w w':World}{v:Value}{P:List Lx.Pd}(h:PP D w v P)(i:∀g,D g->D' g)(c:∀g,D g->w'.heap[g]?=w.heap[g]?)(d:∀g,v.ownBlock=some g->w'.heap[g]?=w.heap[g]?):PP D' w' v P:=by
 obtain⟨f,h1,h2,h3,h4⟩:=h;exact⟨f,h1,aD h2 d,fun q b=>⟨aD (h3 q b).1 fun g a=>c g ((h3 q b).2 g a),fun g a=>i g ((h3 q b).2 g a)⟩,h4⟩
theorem dF.empty{κ:Type}{K:κ->Value}{G:κ->Prop}{w:World}{B:Nat}(h:w.heap[B]?=some (.map #[] 0)):dF K G w B (fun _=>0) :=
 ⟨#[],0,h,fun i e h=>by simp at h,fun i j e b h=>by simp at h,fun a h=>absurd rfl h⟩
theorem gQ{w:World}{B e z:Nat}{v:Value}{n:Nat}{d:List Value}(h:w.ownsRow B e z v n d){g:Nat}(a:v.ownBlock=some g):∃cur:Array Value,w.heap[g]?=some (.cells cur e):=by
 rcases h.2 with b|⟨c,j,cur,i,-,f,-⟩
 ·rw[b.1]at a;simp[Value.ownBlock]at a
 ·have:c=g:=by rw[i]at a;simpa [Value.ownBlock]using a
  subst this;exact⟨cur,f⟩
def adV(g:Lx.Gr)(w:World)(e:Ending)(w':World):Prop:=∃v,e=.returned v/\uZ w.heap.size w' v (ay g) (aS g) (aJ g) ((ay g).map fun t=>(qZ g t).1) ((ay g).map fun t=>(qZ g t).2)/\Below w.heap.size w w'
theorem agQ{F:Nat->Prop}{w:World}{vl vr vW:Value}{g:Lx.Gr}{s:ByteArray}(V:Lx.parse s=.ok g)(C:Lx.Fit g)(hg:BM F w vl vr g)(y:∀b,F b->b<w.heap.size)(xZ:WR w vW (iF g))(ht:dM w)(a3:(iF g).length<=100000):
  Calls prog 44 #[.agg #[vl,vr],vW] w (adV g w):=by
 obtain⟨la,lc,rfl,-⟩:=Seq.len hg.1;obtain⟨m,n,rfl,-⟩:=(lY.len (F:=F) (w:=w) ⟨y,dV.weak hg.2 fun A v x H L=>eG.weak H L⟩);obtain⟨wa,wc,rfl,-⟩:=xZ.len;have aF:=@sr prog;unfold adV;go_enter func44,ntmps44;go_wp2_with fail;have e4:w.heap.size+1+1+1+1=w.heap.size+4:=rfl;have e3:w.heap.size+1+1+1=w.heap.size+3:=rfl;have e2:w.heap.size+1+1=w.heap.size+2:=rfl;rw[e4,e3,e2];clear e4 e3 e2 aF;obtain⟨u,o⟩:∃u,u=(w.alloc (.cells #[.slice la g.levels.length lc,.slice m g.rules.length n] 105)).alloc (.cells #[.slice none 0 0,.slice none 0 0,.slice none 0 0,.slice none 0 0,.slice none 0 0] 56):=⟨_,rfl⟩;have M:u.heap.size=w.heap.size+2:=by rw[o];simp
 obtain⟨W,P⟩:∃W,W=((u.alloc (.map #[] 0)).alloc (.map #[] 0)).alloc (.cells #[.slice none 0 0,.slice none 0 0,.slice none 0 0,.slice none 0 0,.slice none 0 0,.map (some (w.heap.size+2)),.map (some (w.heap.size+3))] 198):=⟨_,rfl⟩;have fu:Below w.heap.size w u:=by rw[o];exact((cV _ _).alloc (zL0) _).alloc (by simp) _
 have OC:Below u.heap.size u W:=by rw[P];exact(((cV _ _).alloc (zL0) _).alloc (by simp) _).alloc (by simp;omega) _
 have z:Below w.heap.size w W:=fu.trans (OC.mono (by omega));have zx:W.heap.size=w.heap.size+5:=by rw[P];simp[M]
 have kG:aj W w.heap.size #[.slice la g.levels.length lc,.slice m g.rules.length n] 105:=by
  have:aj u w.heap.size #[.slice la g.levels.length lc,.slice m g.rules.length n] 105:=by rw[o];exact(aj.new w _ 105).alloc _
  exact(OC.block _ (by omega)).trans this
 have ax:aj W (w.heap.size+1) #[.slice none 0 0,.slice none 0 0,.slice none 0 0,.slice none 0 0,.slice none 0 0] 56:=by
  have:aj u (w.heap.size+1) #[.slice none 0 0,.slice none 0 0,.slice none 0 0,.slice none 0 0,.slice none 0 0] 56:=by rw[o];simpa using aj.new (w.alloc (.cells #[.slice la g.levels.length lc,.slice m g.rules.length n] 105)) #[.slice none 0 0,.slice none 0 0,.slice none 0 0,.slice none 0 0,.slice none 0 0] 56
  exact(OC.block _ (by omega)).trans this
 have a2:W.heap[w.heap.size+2]?=some (.map #[] 0):=by
  rw[P,dg _ _ _ (by simp;omega),dg _ _ _ (by simp;omega),<-M];exact ot u _
 have a8:W.heap[w.heap.size+3]?=some (.map #[] 0):=by
  rw[P,dg _ _ _ (by simp;omega),show w.heap.size+3=(u.alloc (.map #[] 0)).heap.size by simp;omega];exact ot _ _
 have kM:aj W (w.heap.size+4) #[.slice none 0 0,.slice none 0 0,.slice none 0 0,.slice none 0 0,.slice none 0 0,.map (some (w.heap.size+2)),.map (some (w.heap.size+3))] 198:=by
  have:=aj.new ((u.alloc (.map #[] 0)).alloc (.map #[] 0)) #[.slice none 0 0,.slice none 0 0,.slice none 0 0,.slice none 0 0,.slice none 0 0,.map (some (w.heap.size+2)),.map (some (w.heap.size+3))] 198;rw[P];simpa [M]using this
 rw[o]at P;rw[<-P];clear P o fu OC M;clear u;have aa:=xZ.below z;have q1:=afI (S:=w.heap.size+2) kM (dF.empty a2) aa (fun b c=>by have:=(xZ.lt b c).2;omega) (ahL V) (agP V) a3;rw[aiT (akd V C.unk)]at q1;refine q1.mono ?_;rintro e w2⟨rfl,⟨vT,kT,Y⟩,sT,Z⟩;clear q1 aa;obtain⟨K,J,rfl,-⟩:=aC Y;have ar:aj w2 (w.heap.size+4) #[.slice K (ay g).length J,.slice none 0 0,.slice none 0 0,.slice none 0 0,.slice none 0 0,.map (some (w.heap.size+2)),.map (some (w.heap.size+3))] 198:=kT;have bt:=Z.size;have b2:∀x,x<w.heap.size+2\/x=w.heap.size+3->w2.heap[x]?=W.heap[x]?:=fun x a=>Z.block x (by omega)
 have g2:∀x,x<w.heap.size->w2.heap[x]?=w.heap[x]?:=fun x a=>(b2 x (by omega)).trans (z.block x a)
 have ag:aj w2 w.heap.size _ 105:=(b2 _ (by omega)).trans kG;have gl:w2.cell? ⟨w.heap.size,0,none⟩=some (.slice la g.levels.length lc):=ag.cell 0;have bf:g.levels.length<=100000:=by
  have h1:g.levels.length<=BQ g.levels:=FP (fun l:Lx.Lv=>1+l.tokens.length) fun _ _=>by omega
  have:=C.sz;omega
 have q2:=afJ (S:=w.heap.size+2) ar (jb Y (ff _)) sT (Seq.move hg.1 (fun b c=>g2 b (y b c)) (fun _ h=>h) (fun v x h=>zZ F F w w2 v x (fun b c=>g2 b (y b c)) (fun _ h=>h) h)) (fun b c=>by have:=y b c;omega) (XR _ _ (by simp)) (fun l hl t ht=>ab6 (ee.2 ⟨(0,t.1,t.2),fW.2 ⟨l,hl,ee.2 ⟨t,ht,rfl⟩⟩,rfl⟩)) (by have:=C.xE;omega) bf;go_wp2_with fail;refine q2.mono ?_;rintro e d⟨rfl,⟨vB,vK,kL,oB,oK,bu⟩,B⟩;clear q2 gl;have bl:=B.size;have g3:∀x,x<w.heap.size->d.heap[x]?=w.heap[x]?:=fun x a=>(B.block x (by omega)).trans (g2 x a)
 have az:aj d (w.heap.size+4) #[.slice K (ay g).length J,.slice none 0 0,.slice none 0 0,vB,vK,.map (some (w.heap.size+2)),.map (some (w.heap.size+3))] 198:=kL;have KQ:aj d w.heap.size _ 105:=(B.block w.heap.size (by omega)).trans ag;have gr:d.cell? ⟨w.heap.size,1,none⟩=some (.slice m g.rules.length n):=KQ.cell 1;have aY:SMap d (w.heap.size+2) (jd (ay g)):=sT.move (B.block _ (by omega));have aH:d.heap[w.heap.size+3]?=some (.map #[] 0):=(B.block _ (by omega)).trans ((b2 _ (.inr rfl)).trans a8);have Ej:Tr.dV F d 254 2 cR KR (.slice m g.rules.length n) g.rules:=dV.move hg.2 (fun b c=>g3 b (y b c)) (fun _ h=>h) fun A v x H L=>rJ A A w d v x (fun b c=>g3 b (y b (H b c))) (fun _ h=>h) L
 have av:=ht.lt;have t3:dM d:=ht.move (g3 rZ av);have ap:∀r∈g.rules,r.name.size<=2000:=fun r hr=>by have:=RA (C.rl r hr).1;omega
 have ao:(aN g.rules).length<=50000:=by have h1:(aS g).length<=2002:=C.Cg;have h2:aS g=aN g.rules:=rfl;rw[<-h2];omega
 have q3:=af5 (D:=fun x=>x<d.heap.size/\x≠w.heap.size+4/\x≠w.heap.size+2/\x≠w.heap.size+3) az aY (dF.empty aH) Ej (fun b c=>by have:=y b c;exact⟨by omega,by omega,by omega,by omega⟩) (fun b c=>c.1) (fun h=>h.2.1 rfl) (fun h=>h.2.2.1 rfl) (fun h=>h.2.2.2 rfl) (by omega) t3 ⟨by omega,by omega,by omega,by omega⟩ (RD C.dup) ap (by have:=C.xE;omega) ao (by have:=C.rules;omega);go_wp2_with fail;refine q3.mono ?_;rintro e j⟨rfl,⟨fH,fS,n4,ai,aP,bi⟩,I⟩;clear q3 gr;rw[fR]at n4;obtain⟨vN,k4,oN,dN⟩:=n4.ex;have bo:=I.size;have g4:∀x,x<w.heap.size->j.heap[x]?=w.heap[x]?:=fun x a=>(I.block x ⟨by omega,by omega,by omega,by omega⟩).trans (g3 x a)
 have br:w.heap.size+3<j.heap.size:=dF.lt n4.pm;have bm:w.heap.size+2<j.heap.size:=dF.lt ai;have bs:=k4.lt;have aA:Mp (fun x=>(x<d.heap.size/\x≠w.heap.size+4/\x≠w.heap.size+2/\x≠w.heap.size+3)\/x=w.heap.size+2\/x=w.heap.size+3\/vN.ownBlock=some x) (fun b=>F b/\iU d b) j (w.heap.size+4) (w.heap.size+2) (w.heap.size+3) K (ay g).length J vN vB vK fS fH []:=by
  refine⟨⟨.slice none 0 0,k4,⟨[],rfl,eQ _ _ _ _,fun q hq=>(by cases hq),oE⟩,fun x a=>(by cases a)⟩,ai,n4.pm,.inr (.inl rfl),.inr (.inr (.inl rfl)),?_,?_,?_⟩
  ·rintro(h | h | h | h)
   ·exact h.2.1 rfl
   ·omega
   ·omega
   ·exact(dN _ h).2.1 rfl
  ·rintro x(h | h | h | h)
   ·omega
   ·omega
   ·omega
   ·exact(oN.lt x h).2
  ·intro b c
   have am:=y b c.1;exact⟨.inl ⟨by omega,by omega,by omega,by omega⟩,c.2.move (I.block b ⟨by omega,by omega,by omega,by omega⟩)⟩
 have KS:∀b,F b->j.heap[b]?=d.heap[b]?:=fun b c=>by
  have am:=y b c;exact I.block b ⟨by omega,by omega,by omega,by omega⟩
 have ae:Tr.dV F j 254 2 cR KR (.slice m g.rules.length n) g.rules:=dV.move Ej KS (fun _ h=>h) fun A v x H L=>rJ A A d j v x (fun b c=>KS b (H b c)) (fun _ h=>h) L
 have aE:lY F d (.slice m g.rules.length n) g.rules:=⟨fun b c=>by have:=y b c;omega,dV.weak Ej fun A v x H L=>eG.weak H L⟩;have ab:lY F j (.slice m g.rules.length n) g.rules:=⟨fun b c=>by have:=y b c;omega,dV.weak ae fun A v x H L=>eG.weak H L⟩;have a5:∀i(hi:i<g.rules.length),cv j ⟨aU (.slice m g.rules.length n),i*2+1,none⟩=cv d ⟨aU (.slice m g.rules.length n),i*2+1,none⟩/\aL 9 j (cv j ⟨aU (.slice m g.rules.length n),i*2+1,none⟩) g.rules[i].alts=aL 9 d (cv d ⟨aU (.slice m g.rules.length n),i*2+1,none⟩) g.rules[i].alts:=fun i hi=>by
  obtain⟨R,bq,va,hv,a4,H,c0,c1⟩:=aE.at hi;rw[hv];show cv j ⟨R,i*2+1,none⟩=cv d ⟨R,i*2+1,none⟩/\_;have e1:cv j ⟨R,i*2+1,none⟩=cv d ⟨R,i*2+1,none⟩:=SF (KS R a4);refine⟨e1,?_⟩;show aL 9 j (cv j ⟨R,i*2+1,none⟩) _=aL 9 d (cv d ⟨R,i*2+1,none⟩) _;have e2:cv d ⟨R,i*2+1,none⟩=va:=by unfold cv;rw[c1];rfl
  rw[e1,e2];exact IY H KS
 have al:xH j (aU (.slice m g.rules.length n)) (ay g).length g.rules g.rules.length fH:=by
  intro i hi bg k p V;refine bi i hi bg k p ?_;unfold hlA at V|-;rw[(a5 i hi).2]at V;exact V
 have hQ:=akf C ab (XM ae) aP al (G:=fun b=>F b/\iU d b) (fun b c hc=>⟨c,hc.move (KS b c).symm⟩);have aq:aj j w.heap.size _ 105:=(I.block w.heap.size ⟨by omega,by omega,by omega,by omega⟩).trans KQ;have a7:j.cell? ⟨w.heap.size,1,none⟩=some (.slice m g.rules.length n):=aq.cell 1;have q4:=af7 (T:=ay g) (N:=aS g) aA ab (fun b c=>by have am:=y b c;exact .inl ⟨by omega,by omega,by omega,by omega⟩) hQ C.ne (by have:=C.rules;omega);go_wp2_with fail;refine q4.mono ?_;rintro e f⟨rfl,E,hE,dZ,U⟩;clear q4 a7 hQ al;obtain⟨vP,k5,sF,AU⟩:=dZ.ex;have an:∀x,x<d.heap.size->x≠w.heap.size+4->x≠w.heap.size+2->x≠w.heap.size+3->f.heap[x]?=j.heap[x]?:=fun x h1 h2 h3 h4=>U.block x (.inl ⟨h1,h2,h3,h4⟩)
 have PD:∀x,x<d.heap.size->x≠w.heap.size+4->x≠w.heap.size+2->x≠w.heap.size+3->f.heap[x]?=d.heap[x]?:=fun x h1 h2 h3 h4=>(an x h1 h2 h3 h4).trans (I.block x ⟨h1,h2,h3,h4⟩)
 have O:aj f (w.heap.size+1) #[.slice none 0 0,.slice none 0 0,.slice none 0 0,.slice none 0 0,.slice none 0 0] 56:=(PD _ (by omega) (by omega) (by omega) (by omega)).trans ((B.block _ (by omega)).trans ((b2 _ (by omega)).trans ax));have aG:f.ownsRow 0 9 1 (.slice K (ay g).length J) (ay g).length ((ay g).map Value.string):=jb (aD (aD Y fun x a=>B.block x (by have:=Y.lt x a;omega)) fun x a=>by have:=Y.lt x a;exact PD x (by omega) (by omega) (by omega) (by omega)) (ff _);have aI:(Value.slice K (ay g).length J).ownBlock≠some (w.heap.size+1):=fun e=>by have:=(Y.lt _ e).1;omega
 have af:=jb (aD (w':=f) oB fun x a=>by have:=oB.lt x a;exact PD x (by omega) (by omega) (by omega) (by omega)) (ff _);have aX:vB.ownBlock≠some (w.heap.size+1):=fun e=>by have:=(oB.lt _ e).1;omega
 have ac:=jb (aD (w':=f) oK fun x a=>by have:=oK.lt x a;exact PD x (by omega) (by omega) (by omega) (by omega)) (ff _);have a0:vK.ownBlock≠some (w.heap.size+1):=fun e=>by have:=(oK.lt _ e).1;omega
 have ad:=aD (w':=f) oN fun x a=>U.block x (.inr (.inr (.inr a)))
 have bb:vN.ownBlock≠some (w.heap.size+1):=fun e=>(dN _ e).1 (.inl ⟨by omega,by omega,by omega,by omega⟩)
 have bd:E (w.heap.size+1):=hE _ (.inl ⟨by omega,by omega,by omega,by omega⟩);have a6:vP.ownBlock≠some (w.heap.size+1):=fun e=>(AU _ e).1 bd
 have a9:∀x,vP.ownBlock=some x->w.heap.size<=x:=fun x a=>by have:=(AU x a).2;omega
 have ah:PP (fun x=>x≠w.heap.size+1/\w.heap.size<=x) f vP (aJ g):=by
  obtain⟨ps,p1,p2,p3,p4⟩:=sF;refine⟨ps,p1,p2,fun q hq=>⟨(p3 q hq).1,fun x a=>⟨fun e=>?_,by have:=((p3 q hq).2 x a).2;omega⟩⟩,p4⟩;obtain⟨bp,hc⟩:=gQ (p3 q hq).1 a;unfold aj at O;rw[e,O]at hc;cases hc
 have Eg:Below w.heap.size w f:=⟨U.os.trans (I.os.trans (B.os.trans (Z.os.trans z.os))),U.tape.trans (I.tape.trans (B.tape.trans (Z.tape.trans z.tape))),U.output.trans (I.output.trans (B.output.trans (Z.output.trans z.output))),by have:=U.size;omega,fun x a=>(an x (by omega) (by omega) (by omega) (by omega)).trans (g4 x a)⟩;obtain⟨na,nc,rfl,-⟩:=aC ad;obtain⟨ps,bh,ak,a1⟩:=id ah;obtain⟨pa,pc,rfl,-⟩:=aC ak;obtain⟨ba,bc,rfl,-⟩:=aC af;obtain⟨ka,kc,rfl,-⟩:=aC ac;have m0:f.cell? ⟨w.heap.size+4,0,none⟩=some (.slice K (ay g).length J):=k5.cell 0;have m1:f.cell? ⟨w.heap.size+4,1,none⟩=some (.slice na (aN g.rules).length nc):=k5.cell 1;have m2:f.cell? ⟨w.heap.size+4,2,none⟩=some (.slice pa (aJ g).length pc):=k5.cell 2;have m3:=k5.cell 3;have m4:=k5.cell 4;have r0:f.cell? ⟨w.heap.size+1,0,none⟩=some (.slice none 0 0):=O.cell 0;have r1:f.cell? ⟨w.heap.size+1,1,none⟩=some (.slice none 0 0):=O.cell 1;have r2:f.cell? ⟨w.heap.size+1,2,none⟩=some (.slice none 0 0):=O.cell 2;have r3:f.cell? ⟨w.heap.size+1,3,none⟩=some (.slice none 0 0):=O.cell 3;have r4:f.cell? ⟨w.heap.size+1,4,none⟩=some (.slice none 0 0):=O.cell 4;have rf:∀i,f.frozen? ⟨w.heap.size+1,i,none⟩=false:=O.frozen;clear bh ak a1;clear dZ U I B Z sF AU hE;simp at m3 m4;obtain⟨X,vV⟩:∃X,X=((((f.setCell ⟨w.heap.size+1,0,none⟩ (.slice K (ay g).length J)).setCell ⟨w.heap.size+1,1,none⟩ (.slice na (aN g.rules).length nc)).setCell ⟨w.heap.size+1,2,none⟩ (.slice pa (aJ g).length pc)).setCell ⟨w.heap.size+1,3,none⟩ (.slice ba ((ay g).map fun t=>(Lx.bk t 0 g.levels (0,0)).1).length bc)).setCell ⟨w.heap.size+1,4,none⟩ (.slice ka ((ay g).map fun t=>(Lx.bk t 0 g.levels (0,0)).2).length kc):=⟨_,rfl⟩
 have k6:aj X (w.heap.size+1) #[.slice K (ay g).length J,.slice na (aN g.rules).length nc,.slice pa (aJ g).length pc,.slice ba ((ay g).map fun t=>(Lx.bk t 0 g.levels (0,0)).1).length bc,.slice ka ((ay g).map fun t=>(Lx.bk t 0 g.levels (0,0)).2).length kc] 56:=by rw[vV];exact((((O.set 0 _).set 1 _).set 2 _).set 3 _).set 4 _
 have b6:∀x,x≠w.heap.size+1->X.heap[x]?=f.heap[x]?:=fun x a=>by rw[vV,zS0 a,zS0 a,zS0 a,zS0 a,zS0 a]
 have bj:Below w.heap.size w X:=by rw[vV];exact((((Eg.setCell (p:=⟨w.heap.size+1,0,none⟩) (by show w.heap.size<=w.heap.size+1;omega) _).setCell (p:=⟨w.heap.size+1,1,none⟩) (by show w.heap.size<=w.heap.size+1;omega) _).setCell (p:=⟨w.heap.size+1,2,none⟩) (by show w.heap.size<=w.heap.size+1;omega) _).setCell (p:=⟨w.heap.size+1,3,none⟩) (by show w.heap.size<=w.heap.size+1;omega) _).setCell (p:=⟨w.heap.size+1,4,none⟩) (by show w.heap.size<=w.heap.size+1;omega) _
 have Q:uZ w.heap.size X (.agg #[.slice K (ay g).length J,.slice na (aN g.rules).length nc,.slice pa (aJ g).length pc,.slice ba ((ay g).map fun t=>(Lx.bk t 0 g.levels (0,0)).1).length bc,.slice ka ((ay g).map fun t=>(Lx.bk t 0 g.levels (0,0)).2).length kc]) (ay g) (aS g) (aJ g) ((ay g).map fun t=>(qZ g t).1) ((ay g).map fun t=>(qZ g t).2) :=
  ⟨_,_,_,_,_,rfl,aD aG fun x a=>b6 x fun e=>aI (e▸a),aD ad fun x a=>b6 x fun e=>bb (e▸a),ah.move (fun _ a=>a.2) (fun x a=>b6 x a.1) (fun x a=>b6 x fun e=>a6 (e▸a)),aD af fun x a=>b6 x fun e=>aX (e▸a),aD ac fun x a=>b6 x fun e=>a0 (e▸a),a9⟩
 have s0:=k6.cell 0;have s1:=k6.cell 1;have s2:=k6.cell 2;have s3:=k6.cell 3;have s4:=k6.cell 4;simp at s0 s1 s2 s3 s4;have KH:Hid (((ay g).map fun t=>(Lx.bk t 0 g.levels (0,0)).1).length=(ay g).length):=by show _=_;simp
 have aw:Hid (((ay g).map fun t=>(Lx.bk t 0 g.levels (0,0)).2).length=(ay g).length):=by show _=_;simp
 rw[KH.out,aw.out]at vV Q;go_wp2_with fail;rw[<-vV];exact fy (v:=.agg #[.slice K (ay g).length J,.slice na (aN g.rules).length nc,.slice pa (aJ g).length pc,.slice ba (ay g).length bc,.slice ka (ay g).length kc]) (by simp[results,results44,go_sem,s0,s1,s2,s3,s4]) rfl ⟨_,rfl,Q,bj⟩
def Kd(W:World)(k t:Nat):Prop:=∃cur:Array Value,W.heap[k]?=some (.cells cur t)
theorem Kd.ne{W:World}{k l t u:Nat}(h:Kd W k t)(d:Kd W l u)(a:t≠u):k≠l:=fun e=>by
 subst e;obtain⟨x,c⟩:=h;obtain⟨y,b⟩:=d;rw[c]at b;cases b;exact a rfl
theorem Kd.lt{W:World}{k t:Nat}(h:Kd W k t):k<W.heap.size:=by
 obtain⟨x,a⟩:=h;exact(ek.1 a).1
theorem Nw{W:World}{B e:Nat}{v:Value}{n:Nat}{c:List Value}(h:W.ownsRow B e 1 v n c){p:Nat}{u:Value}(b:c[p]?=some u):∃g cap,v=.slice (some ⟨g,0,none⟩) n cap/\v.ownBlock=some g/\W.cell? ⟨g,p,none⟩=some u:=by
 have f:=(cG.1 b).1;rcases h.2 with ⟨rfl,i⟩|⟨g,cap,d,rfl,-⟩
 ·have:=h.1
  omega
 ·have a:(⟨g,0,none⟩:Addr).add p=⟨g,p,none⟩:=by unfold Addr.add;split <;> simp_all
  exact⟨g,cap,rfl,rfl,by rw[<-a];exact mz h (g:=g) rfl _ _ b⟩
section
variable{w w':World}{B pb:Nat}{v:gG}{p:Pk.T}
theorem aT.kp(h:aT w B pb v p):Kd w pb 79:=⟨_,h.blk⟩
theorem aT.kB(h:aT w B pb v p){g:Nat}(a:v.vB.ownBlock=some g):Kd w g 3:=gQ h.rB a
theorem aT.kP(h:aT w B pb v p){g:Nat}(a:v.vP.ownBlock=some g):Kd w g 138:=gQ h.rP a
theorem aT.kR(h:aT w B pb v p){g:Nat}(a:v.vR.ownBlock=some g):Kd w g 81:=gQ h.rR a
theorem aT.kD(h:aT w B pb v p){g:Nat}(a:v.vD.ownBlock=some g):Kd w g 3:=gQ h.rD a
theorem aT.ty(h:aT w B pb v p){k:Nat}(a:v.own pb k):∃t,Kd w k t/\(t=79\/t=3\/t=138\/t=9\/t=81):=by
 rcases a with rfl|a|a|a|a|a|a
 ·exact⟨79,h.kp,by simp⟩
 ·exact⟨3,h.kB a,by simp⟩
 ·exact⟨138,h.kP a,by simp⟩
 ·obtain⟨g,h1,h2⟩:=h.rT
  rw[h1]at a;cases a;exact⟨9,⟨_,h2⟩,by simp⟩
 ·obtain⟨g,h1,h2⟩:=h.rN
  rw[h1]at a;cases a;exact⟨9,⟨_,h2⟩,by simp⟩
 ·exact⟨81,h.kR a,by simp⟩
 ·exact⟨3,h.kD a,by simp⟩
theorem aT.base(h:aT w B pb v p)(b:B<=pb){k:Nat}(a:v.own pb k):B<=k:=by
 rcases a with rfl|a|a|a|a|a|a
 ·exact b
 ·exact(h.rB.lt k a).1
 ·exact(h.rP.lt k a).1
 ·exact h.lo k (.inl a)
 ·exact h.lo k (.inr a)
 ·exact(h.rR.lt k a).1
 ·exact(h.rD.lt k a).1
theorem aT.Ez(h:aT w B pb v p){rb:Nat}{b:ByteArray}{r:Pk.Rd}(a:fP w rb b r):¬v.own pb rb:=fun e=>by
 obtain⟨t,h1,h2⟩:=h.ty e;exact h1.ne ⟨_,a.blk⟩ (by omega) rfl
theorem aT.read(h:aT w B pb v p){rb:Nat}{b:ByteArray}{r r':Pk.Rd}(c:fP w rb b r)(T:jg w rb b w' r'):aT w' B pb v p:=h.move fun k a=>T.g.block k (h.lt a) fun e=>by
 cases e;exact h.Ez c a
theorem aT.bK(h:aT w B pb v p){u x:Value}{t i:Nat}(d:∀g,u.ownBlock=some g->Kd w g t)(c:w.grownBy w' u.ownBlock){k s:Nat}(a:Kd w k s)(f:s≠t)(b:s≠79):(w'.setCell ⟨pb,i,none⟩ x).heap[k]?=w.heap[k]?:=by
 rw[fV _ _ (a.ne h.kp b)];exact c.block k a.lt fun e=>a.ne (d k e.symm) f rfl
theorem aT.set(h:aT w B pb v p){u x:Value}{t i:Nat}(c:∀g,u.ownBlock=some g->Kd w g t)(b:t≠79)(a:w.grownBy w' u.ownBlock):aj (w'.setCell ⟨pb,i,none⟩ x) pb (v.cells.setIfInBounds i x) 79:=by
 refine aj.set ?_ i x;exact(a.block pb h.kp.lt fun e=>h.kp.ne (c pb e.symm) (vj b) rfl).trans h.blk
theorem aT.JY(h:aT w B pb v p){x:Value}{l:List (Nat×Nat×Nat)}(a:w.grownBy w' v.vP.ownBlock)(b:w'.ownsRow B 138 3 x l.length (l.flatMap bY)):aT (w'.setCell ⟨pb,1,none⟩ x) B pb { v with vP:=x } { p with ak:=l } where
 blk:=h.set (fun g e=>h.kP e) (by decide) a
 rB:=aD h.rB fun g e=>h.bK (fun g e=>h.kP e) a (h.kB e) (by decide) (by decide)
 rP:=aD b fun g e=>fV _ _ ((show Kd w' g 138 from gQ b e).ne (show Kd w' pb 79 from ⟨_,(a.block pb h.kp.lt fun e=>h.kp.ne (h.kP e.symm) (by decide) rfl).trans h.blk⟩) (by decide))
 rT:=by
  obtain⟨g,h1,h2⟩:=h.rT;exact⟨g,h1,(h.bK (fun g e=>h.kP e) a (show Kd w g 9 from ⟨_,h2⟩) (by decide) (by decide)).trans h2⟩
 rN:=by
  obtain⟨g,h1,h2⟩:=h.rN;exact⟨g,h1,(h.bK (fun g e=>h.kP e) a (show Kd w g 9 from ⟨_,h2⟩) (by decide) (by decide)).trans h2⟩
 rR:=aD h.rR fun g e=>h.bK (fun g e=>h.kP e) a (h.kR e) (by decide) (by decide)
 rD:=aD h.rD fun g e=>h.bK (fun g e=>h.kP e) a (h.kD e) (by decide) (by decide)
 ne:=h.ne
 lo:=h.lo
theorem aT.an9(h:aT w B pb v p){x:Value}{l:List (Nat×Nat)}(a:w.grownBy w' v.vR.ownBlock)(b:w'.ownsRow B 81 2 x l.length (l.flatMap eX)):aT (w'.setCell ⟨pb,4,none⟩ x) B pb { v with vR:=x } { p with prods:=l } where
 blk:=h.set (fun g e=>h.kR e) (by decide) a
 rB:=aD h.rB fun g e=>h.bK (fun g e=>h.kR e) a (h.kB e) (by decide) (by decide)
 rR:=aD b fun g e=>fV _ _ ((show Kd w' g 81 from gQ b e).ne (show Kd w' pb 79 from ⟨_,(a.block pb h.kp.lt fun e=>h.kp.ne (h.kR e.symm) (by decide) rfl).trans h.blk⟩) (by decide))
 rT:=by
  obtain⟨g,h1,h2⟩:=h.rT;exact⟨g,h1,(h.bK (fun g e=>h.kR e) a (show Kd w g 9 from ⟨_,h2⟩) (by decide) (by decide)).trans h2⟩
 rN:=by
  obtain⟨g,h1,h2⟩:=h.rN;exact⟨g,h1,(h.bK (fun g e=>h.kR e) a (show Kd w g 9 from ⟨_,h2⟩) (by decide) (by decide)).trans h2⟩
 rP:=aD h.rP fun g e=>h.bK (fun g e=>h.kR e) a (h.kP e) (by decide) (by decide)
 rD:=aD h.rD fun g e=>h.bK (fun g e=>h.kR e) a (h.kD e) (by decide) (by decide)
 ne:=h.ne
 lo:=h.lo
theorem aT.aoa(h:aT w B pb v p){x:Value}{l:List Nat}(a:w.grownBy w' v.vD.ownBlock)(d:w'.ownsRow B 3 1 x l.length (l.map fG))(b:x.ownBlock=v.vD.ownBlock\/∃g,x.ownBlock=some g/\w.heap.size<=g):aT (w'.setCell ⟨pb,5,none⟩ x) B pb { v with vD:=x } { p with aH:=l } where
 blk:=h.set (fun g e=>h.kD e) (by decide) a
 rB:=aD h.rB fun g e=>by
  rw[fV _ _ ((h.kB e).ne h.kp (by decide))];exact a.block g (h.kB e).lt fun c=>h.ne g e c.symm
 rD:=aD d fun g e=>fV _ _ ((show Kd w' g 3 from gQ d e).ne (show Kd w' pb 79 from ⟨_,(a.block pb h.kp.lt fun e=>h.kp.ne (h.kD e.symm) (by decide) rfl).trans h.blk⟩) (by decide))
 rT:=by
  obtain⟨g,h1,h2⟩:=h.rT;exact⟨g,h1,(h.bK (fun g e=>h.kD e) a (show Kd w g 9 from ⟨_,h2⟩) (by decide) (by decide)).trans h2⟩
 rN:=by
  obtain⟨g,h1,h2⟩:=h.rN;exact⟨g,h1,(h.bK (fun g e=>h.kD e) a (show Kd w g 9 from ⟨_,h2⟩) (by decide) (by decide)).trans h2⟩
 lo:=h.lo
 rP:=aD h.rP fun g e=>h.bK (fun g e=>h.kD e) a (h.kP e) (by decide) (by decide)
 rR:=aD h.rR fun g e=>h.bK (fun g e=>h.kD e) a (h.kR e) (by decide) (by decide)
 ne g e:=by
  rcases b with b|⟨k,b,f⟩
  ·show x.ownBlock≠_
   rw[b];exact h.ne g e
  ·show x.ownBlock≠_
   rw[b];intro c;cases c;have:=(h.kB e).lt;omega
theorem aT.aob(h:aT w B pb v p){x:Value}{l:List Nat}(a:w.grownBy w' v.vB.ownBlock)(d:w'.ownsRow B 3 1 x l.length (l.map fG))(b:x.ownBlock=v.vB.ownBlock\/∃g,x.ownBlock=some g/\w.heap.size<=g):aT (w'.setCell ⟨pb,0,none⟩ x) B pb { v with vB:=x } { p with aB:=l } where
 blk:=h.set (fun g e=>h.kB e) (by decide) a
 rD:=aD h.rD fun g e=>by
  rw[fV _ _ ((h.kD e).ne h.kp (by decide))];exact a.block g (h.kD e).lt fun c=>h.ne g c.symm e
 rB:=aD d fun g e=>fV _ _ ((show Kd w' g 3 from gQ d e).ne (show Kd w' pb 79 from ⟨_,(a.block pb h.kp.lt fun e=>h.kp.ne (h.kB e.symm) (by decide) rfl).trans h.blk⟩) (by decide))
 rT:=by
  obtain⟨g,h1,h2⟩:=h.rT;exact⟨g,h1,(h.bK (fun g e=>h.kB e) a (show Kd w g 9 from ⟨_,h2⟩) (by decide) (by decide)).trans h2⟩
 rN:=by
  obtain⟨g,h1,h2⟩:=h.rN;exact⟨g,h1,(h.bK (fun g e=>h.kB e) a (show Kd w g 9 from ⟨_,h2⟩) (by decide) (by decide)).trans h2⟩
 lo:=h.lo
 rP:=aD h.rP fun g e=>h.bK (fun g e=>h.kB e) a (h.kP e) (by decide) (by decide)
 rR:=aD h.rR fun g e=>h.bK (fun g e=>h.kB e) a (h.kR e) (by decide) (by decide)
 ne g e:=by
  rcases b with b|⟨k,b,i⟩
  ·exact h.ne g (b▸e)
  ·intro c
   have f:x.ownBlock=some g:=e;rw[b]at f;cases f;have:=(h.kD c).lt;omega
end
namespace Pk
def most(p:T):Nat:=p.aB.length*(p.toks.length+p.aN.length)
def Tv(b:ByteArray)(p:T)(r:Rd):Nat×Nat×Nat×Nat×Rd:=((num b 2 r).1,(below b p.aB.length 2 (num b 2 r).2).1,(num b 2 (below b p.aB.length 2 (num b 2 r).2).2).1 / 4096,(num b 2 (below b p.aB.length 2 (num b 2 r).2).2).1 % 4096,(num b 2 (below b p.aB.length 2 (num b 2 r).2).2).2)
def wN(b:ByteArray)(p:T):Nat->Rd->List (Nat×Nat×Nat)->List (Nat×Nat×Nat)×Rd
 |0,r,l=>(l,r)
 |n+1,r,l=>match Tv b p r with
  | (g,s,d,t,r')=>if (r'.bad || decide (most p<=l.length+g) || !yZ p d t (((l.length+g:Nat):Int) - (p.aB.getD s 0:Nat)))=true then (l,r'.fail) else wN b p n r' (l++List.replicate g (0,0,0)++[(d,t,s)])
def places(b:ByteArray)(p:T)(r:Rd):List (Nat×Nat×Nat)×Rd:=wN b p (below b (most p+1) 3 r).1 (below b (most p+1) 3 r).2 []
end Pk
theorem Tryz.aci:(prog.info? 138).map (fun i=>(i.zero,i.size,i.bytes))=some (some (.agg #[.int .i64 0,.int .i64 0,.int .i64 0]),3,24):=by kernel_rfl
theorem Tryz.Ua:prog.underlying 74=some (.slice 138):=by kernel_rfl
theorem Tryz.aeK:prog.underlying 3=some (.int .i64):=by kernel_rfl
theorem ai2(m:Nat):(List.replicate m ((0,0,0):Nat×Nat×Nat)).flatMap bY=List.replicate (m*3) (.int .i64 0):=by
 induction m with
 |zero=>rfl
 |succ m ih=>
  rw[nh,eh,ih,show (m+1)*3=m*3+1+1+1 by omega];rfl
theorem M8(m:Nat):(Builtin.zeroCells (Value.cells (.agg #[.int .i64 0,.int .i64 0,.int .i64 0])) m).toList=(List.replicate m ((0,0,0):Nat×Nat×Nat)).flatMap bY:=by
 rw[ai2,List.eq_replicate_iff];refine⟨by rw[lj,ti];rfl,fun u a=>?_⟩;unfold Builtin.zeroCells at a;rw[Array.toList_map,ee]at a;obtain⟨i,-,rfl⟩:=a;have h3:i % (Value.cells (.agg #[.int .i64 0,.int .i64 0,.int .i64 0])).size<3:=tU _ (by decide);generalize i % (Value.cells (.agg #[.int .i64 0,.int .i64 0,.int .i64 0])).size=k at h3;obtain rfl|rfl|rfl:k=0\/k=1\/k=2:=by omega
 all_goals rfl
theorem ade(l:List (Nat×Nat×Nat)):∀u∈l.flatMap bY,u.oneCell'=true:=fun u b=>by
 obtain⟨x,-,a⟩:=fW.1 b;simp only[bY,List.mem_cons,List.not_mem_nil,or_false]at a;rcases a with rfl|rfl|rfl <;> rfl
structure gJ(w:World)(rb pb:Nat)(v:gG)(w':World)(v':gG):Prop where
 bK:∀k,k<w.heap.size->k≠rb->¬v.own pb k->w'.heap[k]?=w.heap[k]?
 new:∀k,v'.own pb k->v.own pb k\/w.heap.size<=k
 bX:w.heap.size<=w'.heap.size
 fr:w'.os=w.os/\w'.tape=w.tape/\w'.output=w.output
theorem gJ.trans{w w1 w2:World}{rb pb:Nat}{v v1 a:gG}(h:gJ w rb pb v w1 v1)(k:gJ w1 rb pb v1 w2 a):gJ w rb pb v w2 a where
 bK x hx h1 h2:=(k.bK x (dd hx h.bX) h1 fun e=>(h.new x e).elim h2 fun e=>by omega).trans (h.bK x hx h1 h2)
 new x hx:=(k.new x hx).elim (h.new x) fun e=>.inr (de h.bX e)
 bX:=de h.bX k.bX
 fr:=⟨k.fr.1.trans h.fr.1,k.fr.2.1.trans h.fr.2.1,k.fr.2.2.trans h.fr.2.2⟩
theorem gJ.read{w w':World}{rb pb:Nat}{v:gG}{b:ByteArray}{r':Pk.Rd}(T:jg w rb b w' r'):gJ w rb pb v w' v:=⟨fun k a c _=>T.g.block k a fun e=>c (by cases e;rfl),fun _ e=>.inl e,T.g.size,T.g.1,T.g.2,T.g.3⟩
theorem gJ.below{w w':World}{rb pb:Nat}{v:gG}(h:Below w.heap.size w w'):gJ w rb pb v w' v:=⟨fun k a _ _=>h.block k a,fun _ e=>.inl e,h.size,h.1,h.2,h.3⟩
theorem gJ.JY{w w':World}{rb pb:Nat}{v:gG}{x:Value}(b:w.grownBy w' v.vP.ownBlock)(a:x.ownBlock=v.vP.ownBlock\/∃g,x.ownBlock=some g/\w.heap.size<=g):gJ w rb pb v (w'.setCell ⟨pb,1,none⟩ x) { v with vP:=x } where
 bK k hk _ hn:=by
  rw[fV _ _ fun e=>hn (.inl e)];exact b.block k hk fun e=>hn (.inr (.inr (.inl e.symm)))
 new k hk:=by
  rcases hk with e|e|e|e|e|e|e
  ·exact .inl (.inl e)
  ·exact .inl (.inr (.inl e))
  ·rcases a with a | ⟨g,a,d⟩
   ·exact .inl (.inr (.inr (.inl (a▸e))))
   ·have c:x.ownBlock=some k:=e
    rw[a]at c;cases c;exact .inr d
  ·exact .inl (.inr (.inr (.inr (.inl e))))
  ·exact .inl (.inr (.inr (.inr (.inr (.inl e)))))
  ·exact .inl (.inr (.inr (.inr (.inr (.inr (.inl e))))))
  ·exact .inl (.inr (.inr (.inr (.inr (.inr (.inr e))))))
 bX:=by simpa using b.size
 fr:=⟨b.1,b.2,b.3⟩
section
variable{w:World}{B rb pb:Nat}{b:ByteArray}{r:Pk.Rd}{v:gG}{p:Pk.T}
structure GJ(p:Pk.T):Prop where
 s0:0<p.aB.length
 s1:p.aB.length<=300
 t1:p.toks.length<=1000
 n1:p.aN.length<=1000
 b1:∀x∈p.aB,x<16777216
theorem GJ.most(h:GJ p):Pk.most p<=600000:=by
 unfold Pk.most;have:p.aB.length*(p.toks.length+p.aN.length)<=300*2000:=pH h.s1 (by have:=h.t1;have:=h.n1;omega);omega
theorem agR(n:Int):bits .and .i64 n 4095=n % 4096:=by
 have a:(BitVec.ofInt 64 4095).toNat=2 ^ 12-1:=by decide
 have key:(BitVec.ofInt 64 n &&& BitVec.ofInt 64 4095).toNat=(n % ((2 ^ 64:Nat):Int)).toNat % 2 ^ 12:=by
  rw[BitVec.toNat_and,uA,a,Nat.and_two_pow_sub_one_eq_mod]
 show IntKind.i64.wrap ((BitVec.ofInt 64 n &&& BitVec.ofInt 64 4095).toNat:Nat)=n % 4096;rw[key,iz];omega
theorem ahN(A:fP w rb b r)(f:aT w B pb v p)(av:p.ak=[])(hB:B<=w.heap.size)(hb:GJ p):Calls prog 30 #[.pointer (some ⟨rb,0,none⟩),.pointer (some ⟨pb,0,none⟩)] w fun e w'=>e=.returned (.tuple #[])/\∃v',fP w' rb b (Pk.places b p r).2/\aT w' B pb v' { p with ak:=(Pk.places b p r).1 }/\gJ w rb pb v w' v':=by
 obtain⟨⟨a0,k0,Y⟩,-,⟨a2,k2,c2⟩,⟨a3,k3,c3⟩,-,-⟩:=f.cell;have hM:=hb.most;have eM:(p.aB.length:Int)*((p.toks.length:Int)+(p.aN.length:Int))=(Pk.most p:Int):=by unfold Pk.most;rw[Int.natCast_mul,px]
 obtain⟨M,aa⟩:∃M,Pk.most p=M:=⟨_,rfl⟩;rw[aa]at hM eM;have s1:=hb.s1;have t1:=hb.t1;have n1:=hb.n1;have q1:∀X,_:=fun X=>Fp (w:=w.drewN X) (m:=M+1) (A.move rfl) (show 3<=4 by decide)
 simp only[show ((M+1:Nat):Int)=(M:Int)+1 by omega]at q1;have hn:=Pk.yL (b:=b) (n:=3) (r:=r) (show 0<M+1 by omega);obtain⟨x,hx⟩:∃x,Pk.below b (M+1) 3 r=x:=⟨_,rfl⟩;rw[hx]at hn;simp only[hx]at q1;have HE:Hid (Pk.places b p r=Pk.wN b p x.1 x.2 []):=by exact(by unfold Pk.places;rw[aa,hx]:Pk.places b p r=Pk.wN b p x.1 x.2 [])
 have H0:Hid (∀X w1,jg (w.drewN X) rb b w1 x.2->fP w1 rb b x.2/\aT w1 B pb v { p with ak:=[] }/\gJ w rb pb v w1 v):=fun X w1 T=>by
  refine⟨T.m,?_,?_⟩
  ·have:=(f.move (W':=w.drewN X) fun _ _=>rfl).read (A.move rfl) T
   rw[<-av];exact this
  ·exact(gJ.below (w:=w) (w':=w.drewN X) ⟨rfl,rfl,rfl,zL0,fun _ _=>rfl⟩).trans (gJ.read T)
 clear A f hx;go_enter func30,ntmps30;go_upto_region 0 with fail
 go_quiet (fail)
 go_wp2_with (go_at_call 28;refine(q1 _).mono ?_;rintro e w1⟨rfl,T1⟩)
 obtain⟨A1,A2,A3⟩:=H0.out _ _ T1;clear H0 q1 T1 Y c2 c3;have HI:Hid (fP w1 rb b x.2/\aT w1 B pb v { p with ak:=[] }/\gJ w rb pb v w1 v):=⟨A1,A2,A3⟩;clear A1 A2 A3;have a7:x.1<=600000:=by omega
 go_loopw [32] (fun i wr=>∃(j:Nat)(r1:Pk.Rd)(l:List (Nat×Nat×Nat))(D:gG),i=.int .i64 (j:Int)/\Hid (j<=x.1/\fP wr rb b r1/\aT wr B pb D { p with ak:=l }/\gJ w rb pb v wr D/\l.length<=M/\Pk.places b p r=Pk.wN b p (x.1-j) r1 l)) (fun i _=>x.1 - (intOf i).toNat)
 case atStart=>exact⟨0,x.2,[],v,rfl,ff _,HI.out.1,HI.out.2.1,HI.out.2.2,ff _,HE.out⟩
 case round=>
  clear HI HE hn;obtain⟨j,r1,l,D,rfl,HI⟩:=hrel;obtain⟨hj,A,f,C,hl,H⟩:=HI.out;clear HI
  by_cases hjn:j<x.1
  ·have j1:(j:Int)<(x.1:Int):=by omega
   have q3:=Fz A (show 2<=4 by decide);have hg:=Pk.FX b 2 r1;obtain⟨n,hn⟩:∃n,x.1-j=n+1:=⟨x.1-j-1,by omega⟩;rw[hn,Pk.wN,Pk.Tv]at H;obtain⟨y,hy⟩:∃y,Pk.num b 2 r1=y:=⟨_,rfl⟩;rw[hy]at q3 hg H;have HW:Hid (Pk.places b p r=_):=H;have H3:Hid (∀w2,jg wr rb b w2 y.2->fP w2 rb b y.2/\aT w2 B pb D { p with ak:=l }/\gJ w rb pb v w2 D):=fun w2 T=>⟨T.m,f.read A T,C.trans (gJ.read T)⟩
   clear hy A f C H;go_upto_region 4 with (go_at_call 29;refine q3.mono ?_;rintro e w2⟨rfl,T⟩)
   obtain⟨A,f,C⟩:=H3.out _ T;clear H3 q3 T;obtain⟨⟨a0,k0,Y⟩,-⟩:=f.cell
   dsimp only at Y
   have q4:=Fp (m:=p.aB.length) A (show 2<=4 by decide);have hs:=Pk.yL (b:=b) (n:=2) (r:=y.2) hb.s0;obtain⟨s,ai⟩:∃s,Pk.below b p.aB.length 2 y.2=s:=⟨_,rfl⟩;rw[ai]at q4 hs HW;have H4:Hid (∀w3,jg w2 rb b w3 s.2->fP w3 rb b s.2/\aT w3 B pb D { p with ak:=l }/\gJ w rb pb v w3 D):=fun w3 T=>⟨T.m,f.read A T,C.trans (gJ.read T)⟩
   clear ai A f C;go_upto_region 5 with (go_at_call 28;refine q4.mono ?_;rintro e w3⟨rfl,T⟩)
   obtain⟨A,f,C⟩:=H4.out _ T;clear H4 q4 T Y;have q5:=Fz A (show 2<=4 by decide);have hc:=Pk.FX b 2 s.2;obtain⟨c,ae⟩:∃c,Pk.num b 2 s.2=c:=⟨_,rfl⟩;rw[ae]at q5 hc HW;have H5:Hid (∀S,jg w3 rb b S c.2->fP S rb b c.2/\aT S B pb D { p with ak:=l }/\gJ w rb pb v S D):=fun S T=>⟨T.m,f.read A T,C.trans (gJ.read T)⟩
   clear ae A f C;go_upto_region 6 with (go_at_call 29;refine q5.mono ?_;rintro e S⟨rfl,T⟩)
   obtain⟨A,f,C⟩:=H5.out _ T;clear H5 q5 T;have H:=HW.out;clear HW;have e6:bits BinOp.and IntKind.i64 (c.1:Int) 4095=((c.1 % 4096:Nat):Int):=by rw[agR];omega
   have e7:(c.1:Int) / 4096=((c.1 / 4096:Nat):Int):=by omega
   have hd:c.1 / 4096<16:=by omega
   have ht:c.1 % 4096<4096:=by omega
   generalize c.1 / 4096=d at e7 hd H;generalize c.1 % 4096=t at e6 ht H;obtain⟨E,fI⟩:∃V,V=S.alloc (.cells #[.int .i64 (d:Int),.int .i64 (t:Int)] 42):=⟨_,rfl⟩;have Z:Below S.heap.size S E:=by rw[fI];exact(cV _ _).alloc (zL0) _
   have J:aj E S.heap.size #[.int .i64 (d:Int),.int .i64 (t:Int)] 42:=by rw[fI];exact aj.new ..
   have KU:=A.move (Z.block _ A.blk.lt);have mW:=f.move (W':=E) fun k hk=>Z.block k (f.lt hk)
   have PE:=C.trans (gJ.below Z);clear A f C Z;obtain⟨U,an⟩:∃b,S.heap.size=b:=⟨_,rfl⟩;rw[an]at J;have H5:Hid (fP E rb b c.2/\aT E B pb D { p with ak:=l }/\gJ w rb pb v E D/\aj E U #[.int .i64 (d:Int),.int .i64 (t:Int)] 42):=⟨KU,mW,PE,J⟩;clear KU mW PE J;go_upto_region 7 with fail
   rw[<-fI];clear fI e6 e7 hc an;obtain⟨A,f,C,J⟩:=H5.out;obtain⟨⟨a0,k0,Y⟩,⟨a1,k1,c1⟩,-⟩:=f.cell
   dsimp only at Y c1
   have VW:E.cell? ⟨rb,1,none⟩=some (.bool c.2.bad):=A.blk.cell 1;have x0:E.cell? ⟨U,0,none⟩=some (.int .i64 (d:Int)):=J.cell 0;have x1:E.cell? ⟨U,1,none⟩=some (.int .i64 (t:Int)):=J.cell 1;have HF:Hid (Pk.places b p r=(l,c.2.fail)->∀w',Below E.heap.size E w'->w'.cell? ⟨rb,1,none⟩=some (.bool c.2.bad)/\w'.frozen? ⟨rb,1,none⟩=false/\∃v',fP (w'.setCell ⟨rb,1,none⟩ (.bool true)) rb b (Pk.places b p r).2/\aT (w'.setCell ⟨rb,1,none⟩ (.bool true)) B pb v' { p with ak:=(Pk.places b p r).1 }/\gJ w rb pb v (w'.setCell ⟨rb,1,none⟩ (.bool true)) v'):=fun e w' N=>by
    rw[e];have Q:=A.move (N.block _ A.blk.lt);have ar:=f.move (W':=w') fun k hk=>N.block k (f.lt hk)
    exact⟨Q.blk.cell 1,Q.blk.frozen 1,D,Q.fail.m,ar.read Q Q.fail,(C.trans (gJ.below N)).trans (gJ.read Q.fail)⟩
   cases hbad:c.2.bad with
   |true=>
    rw[hbad]at VW H;have L:Pk.places b p r=(l,c.2.fail):=by rw[H];rfl
    have KV:=HF.out L;clear HF L H A f C J;go_upto_region 8 with fail
    refine(sq (n:=9)).1 ?_;refine qp 22 (by kernel_rfl) (by kernel_rfl) (by kernel_rfl) ?_
    dsimp only[List.take,List.drop,List.length]
    repeat (gi_big_quiet_step (fail))
    refine wpQuietIn_nil ?_;rintro _⟨KW,rfl⟩;refine wpAnyIn_ready (rs:=[22]) (by kernel_rfl) (by simp) (AllReadyIn.cons rfl (fun K a=>?_) AllReadyIn.nil)
    go_simp
    refine⟨trivial,a _ _ ?_⟩;clear a K;refine wpAnyIn_ready (rs:=[23]) (by kernel_rfl) (by simp) (AllReadyIn.cons rfl (fun K a=>?_) AllReadyIn.nil)
    go_simp
    refine a _ _ ?_;clear a K;refine wpAnyIn_ready (rs:=[24]) (by kernel_rfl) (by simp) (AllReadyIn.cons rfl (fun K a=>?_) AllReadyIn.nil)
    go_simp
    refine a _ _ (wpAnyIn_done (by kernel_rfl) ?_ _);clear a K;obtain⟨z1,z2,z3⟩:=KV _ (⟨rfl,rfl,rfl,zL0,fun _ _=>rfl⟩:Below E.heap.size E (E.drewN KW));go_wp2_with fail;refine fy (py rfl _ _ _) rfl ?_;exact⟨rfl,z3⟩
   |false=>
    rw[hbad]at VW H
    by_cases hat:M<=l.length+y.1
    ·have b8:decide ((M:Int)<=(l.length:Int)+(y.1:Int))=true:=fi (by omega)
     have L:Pk.places b p r=(l,c.2.fail):=by rw[H,aa,fi hat];rfl
     have KV:=HF.out L;clear HF L H A f C J;go_upto_region 8 with fail
     refine(sq (n:=9)).1 ?_;refine qp 22 (by kernel_rfl) (by kernel_rfl) (by kernel_rfl) ?_
     dsimp only[List.take,List.drop,List.length]
     repeat (gi_big_quiet_step (fail))
     refine wpQuietIn_nil ?_;rintro _⟨KW,rfl⟩;refine wpAnyIn_ready (rs:=[22]) (by kernel_rfl) (by simp) (AllReadyIn.cons rfl (fun K a=>?_) AllReadyIn.nil)
     go_simp
     refine⟨trivial,a _ _ ?_⟩;clear a K;refine wpAnyIn_ready (rs:=[23]) (by kernel_rfl) (by simp) (AllReadyIn.cons rfl (fun K a=>?_) AllReadyIn.nil)
     go_simp
     refine a _ _ ?_;clear a K;refine wpAnyIn_ready (rs:=[24]) (by kernel_rfl) (by simp) (AllReadyIn.cons rfl (fun K a=>?_) AllReadyIn.nil)
     go_simp
     refine a _ _ (wpAnyIn_done (by kernel_rfl) ?_ _);clear a K;obtain⟨z1,z2,z3⟩:=KV _ (⟨rfl,rfl,rfl,zL0,fun _ _=>rfl⟩:Below E.heap.size E (E.drewN KW));go_wp2_with fail;refine fy (py rfl _ _ _) rfl ?_;exact⟨rfl,z3⟩
    ·have b8:decide ((M:Int)<=(l.length:Int)+(y.1:Int))=false:=eE (by omega)
     rw[aa,eE hat]at H;obtain⟨z,hz⟩:∃z,p.aB[s.1]?=some z:=⟨_,cF hs⟩;have a6:=hb.b1 z (cJ hz);have ez:p.aB.getD s.1 0=z:=by simp[hz]
     rw[ez,show ((l.length+y.1:Nat):Int) - (z:Nat)=(l.length:Int)+(y.1:Int) - (z:Int) by omega]at H;obtain⟨gB,cB,ab,-,cz⟩:=Nw f.rB (p:=s.1) (u:=fG z) (by rw[di];show Option.map _ p.aB[s.1]?=_;rw[hz];rfl);unfold fG at cz;clear Y;have Y:E.cell? ⟨pb,0,none⟩=some (.slice (some ⟨gB,0,none⟩) p.aB.length cB):=by
      have:=f.blk.cell 0;rw[this];exact fb some ab
     have s0:(0:Int)<=(s.1:Int):=by omega
     have s2:(s.1:Int)<(p.aB.length:Int):=by omega
     have q8:∀X,_:=fun X=>agp (w:=E.drewN X) (d:=d) (t:=t) (f.move fun _ _=>rfl) ((l.length:Int)+(y.1:Int) - (z:Int)) (by omega) (by show p.toks.length<=_;omega)
     simp only[show Pk.yZ { p with ak:=l } d t ((l.length:Int)+(y.1:Int) - (z:Int))=Pk.yZ p d t ((l.length:Int)+(y.1:Int) - (z:Int)) from rfl]at q8;have a8:y.1<65536:=hg;cases hu:Pk.yZ p d t ((l.length:Int)+(y.1:Int) - (z:Int)) with
     |false=>
      simp only[hu]at q8;have L:Pk.places b p r=(l,c.2.fail):=by rw[H,hu];rfl
      have KV:=HF.out L;clear HF L H A f C J ab;go_upto_region 8 with fail
      refine(sq (n:=9)).1 ?_;refine qp 22 (by kernel_rfl) (by kernel_rfl) (by kernel_rfl) ?_
      dsimp only[List.take,List.drop,List.length]
      repeat (gi_big_quiet_step (fail))
      refine wpQuietIn_nil ?_;rintro _⟨KW,rfl⟩;refine wpAnyIn_ready (rs:=[22]) (by kernel_rfl) (by simp) (AllReadyIn.cons rfl (fun K a=>?_) AllReadyIn.nil)
      go_simp
      refine⟨trivial,(ij.2 (q8 _)).mono ?_⟩;rintro e O⟨rfl,F⟩;refine a _ _ ?_;clear a K;refine wpAnyIn_ready (rs:=[23]) (by kernel_rfl) (by simp) (AllReadyIn.cons rfl (fun K a=>?_) AllReadyIn.nil)
      go_simp
      refine a _ _ ?_;clear a K;refine wpAnyIn_ready (rs:=[24]) (by kernel_rfl) (by simp) (AllReadyIn.cons rfl (fun K a=>?_) AllReadyIn.nil)
      go_simp
      refine a _ _ (wpAnyIn_done (by kernel_rfl) ?_ _);clear a K;obtain⟨z1,z2,z3⟩:=KV _ (⟨F.1,F.2,F.3,F.4,F.5⟩:Below E.heap.size E O);go_wp2_with fail;refine fy (py rfl _ _ _) rfl ?_;exact⟨rfl,z3⟩
     |true=>
      simp only[hu]at q8;rw[hu]at H;have af:Pk.places b p r=Pk.wN b p n c.2 (l++List.replicate y.1 (0,0,0)++[(d,t,s.1)]):=H;have H6:Hid (∀O,Below E.heap.size E O->fP O rb b c.2/\aT O B pb D { p with ak:=l }/\gJ w rb pb v O D/\aj O U #[.int .i64 (d:Int),.int .i64 (t:Int)] 42):=fun O N=>⟨A.move (N.block _ A.blk.lt),f.move fun k hk=>N.block k (f.lt hk),C.trans (gJ.below N),(N.block _ J.lt).trans J⟩
      have HW:Hid (Pk.places b p r=Pk.wN b p n c.2 (l++List.replicate y.1 (0,0,0)++[(d,t,s.1)])):=af;clear HF af H A f C J ab;go_upto_region 8 with fail
      refine(sq (n:=9)).1 ?_;refine qp 22 (by kernel_rfl) (by kernel_rfl) (by kernel_rfl) ?_
      dsimp only[List.take,List.drop,List.length]
      repeat (gi_big_quiet_step (fail))
      refine wpQuietIn_nil ?_;rintro _⟨KW,rfl⟩;refine wpAnyIn_ready (rs:=[22]) (by kernel_rfl) (by simp) (AllReadyIn.cons rfl (fun K a=>?_) AllReadyIn.nil)
      go_simp
      refine⟨trivial,(ij.2 (q8 _)).mono ?_⟩;rintro e O⟨rfl,F⟩;refine a _ _ ?_;clear a K;refine wpAnyIn_ready (rs:=[23]) (by kernel_rfl) (by simp) (AllReadyIn.cons rfl (fun K a=>?_) AllReadyIn.nil)
      go_simp
      refine a _ _ ?_;clear a K;refine wpAnyIn_ready (rs:=[24]) (by kernel_rfl) (by simp) (AllReadyIn.cons rfl (fun K a=>?_) AllReadyIn.nil)
      go_simp
      refine a _ _ (wpAnyIn_done (by kernel_rfl) ?_ _);clear a K;obtain⟨A,f,C,J⟩:=H6.out _ (⟨F.1,F.2,F.3,F.4,F.5⟩:Below E.heap.size E O);clear H6 q8 F Y c1 VW x0 x1 cz;obtain⟨i0,ao,ad,aq,ac⟩:=ft Tryz.aci;have aw:B<=O.heap.size:=de hB C.bX;obtain⟨vq,W,El,sG,lX,Ch⟩:=XW (P:=prog) O B 74 3 74 138 i0 _ 3 24 .i64 .i64 Tryz.Ua Tryz.aeK ao ad aq ac rfl (by decide) D.vP l.length (l.flatMap bY) f.rP y.1 (by rw[M8];exact ade _) (by unfold maxLen;omega) (by omega) aw;rw[M8,<-gw,show l.length+y.1=(l++List.replicate y.1 ((0,0,0):Nat×Nat×Nat)).length by simp]at sG;obtain⟨q,R⟩:∃q,l++List.replicate y.1 ((0,0,0):Nat×Nat×Nat)=q:=⟨_,rfl⟩;have ap:Hid (q.length=l.length+y.1):=(by rw[<-R];simp:q.length=l.length+y.1);have Gq:q.length<=600000:=by have:=ap.out;omega
      rw[R]at sG HW;clear R;obtain⟨I,G,rfl,-⟩:=aC sG;have CQ:aj W pb D.cells 79:=(lX.block pb f.kp.lt fun e=>f.kp.ne (f.kP e.symm) (by decide) rfl).trans f.blk;have c1:O.cell? ⟨pb,1,none⟩=some D.vP:=f.blk.cell 1;have c7:W.cell? ⟨pb,1,none⟩=some D.vP:=CQ.cell 1;have f7:=CQ.frozen 1;have am:=f.JY lX sG;have JZ:(Value.slice I q.length G).ownBlock=D.vP.ownBlock\/∃g,(Value.slice I q.length G).ownBlock=some g/\O.heap.size<=g:=Ch.imp id fun e=>⟨_,e,zL0⟩
      have ag:=C.trans (gJ.JY (rb:=rb) (pb:=pb) lX JZ);have ax:W.grownBy (W.setCell ⟨pb,1,none⟩ (.slice I q.length G)) (some pb):=iM _ _ _ _;have al:fP (W.setCell ⟨pb,1,none⟩ (.slice I q.length G)) rb b c.2:=A.move ((fV _ _ fun e=>f.Ez A (.inl e)).trans (lX.block rb A.blk.lt fun e=>f.Ez A (.inr (.inr (.inl e.symm)))));have ah:aj (W.setCell ⟨pb,1,none⟩ (.slice I q.length G)) U #[.int .i64 (d:Int),.int .i64 (t:Int)] 42:=((fV _ _ ((show Kd O U 42 from ⟨_,J⟩).ne f.kp (by decide))).trans (lX.block U J.lt fun e=>(show Kd O U 42 from ⟨_,J⟩).ne (f.kP e.symm) (by decide) rfl)).trans J;have H8:Hid (fP (W.setCell ⟨pb,1,none⟩ (.slice I q.length G)) rb b c.2/\aT (W.setCell ⟨pb,1,none⟩ (.slice I q.length G)) B pb { D with vP:=(.slice I q.length G) } { p with ak:=q }/\gJ w rb pb v (W.setCell ⟨pb,1,none⟩ (.slice I q.length G)) { D with vP:=(.slice I q.length G) }/\aj (W.setCell ⟨pb,1,none⟩ (.slice I q.length G)) U #[.int .i64 (d:Int),.int .i64 (t:Int)] 42):=⟨al,am,ag,ah⟩;clear A f C J al am ag ah ax JZ Ch sG lX CQ;go_upto_region 11 with (at_builtin;refine Lib.wpList_append_run _ rfl _ _ _ _ rfl _ _ rfl rfl _ _ El ?_)
      generalize W.setCell ⟨pb,1,none⟩ (.slice I q.length G)=w8 at H8|-;obtain⟨A,f,C,J⟩:=H8.out;clear H8 c1 c7 f7 El;have c1:w8.cell? ⟨pb,1,none⟩=some (.slice I q.length G):=f.blk.cell 1;have x0:w8.cell? ⟨U,0,none⟩=some (.int .i64 (d:Int)):=J.cell 0;have x1:w8.cell? ⟨U,1,none⟩=some (.int .i64 (t:Int)):=J.cell 1;have a5:B<=w8.heap.size:=de hB C.bX;have lp:=f.kp.lt;have lx:=J.lt;have dA:∀o,(w8.alloc o).cell? ⟨pb,1,none⟩=some (.slice I q.length G):=fun o=>(cM (w:=w8) (dg _ _ _ lp)).trans c1
      have o3:(w8.alloc (.cells #[.int .i64 (d:Int),.int .i64 (t:Int),.int .i64 (s.1:Int)] 138)).drew.ownsRow B 138 3 (.slice I q.length G) q.length (q.flatMap bY):=aD (f.rP.alloc (.cells #[.int .i64 (d:Int),.int .i64 (t:Int),.int .i64 (s.1:Int)] 138)) fun _ _=>rfl
      have iK:aj (w8.alloc (.cells #[.int .i64 (d:Int),.int .i64 (t:Int),.int .i64 (s.1:Int)] 138)).drew pb (gG.cells { D with vP:=.slice I q.length G }) 79:=(f.blk.alloc _).drew;have a4:(Value.slice I q.length G).ownBlock≠some pb:=fun e=>(f.kP e).ne f.kp (by decide) rfl
      have az:B<=(w8.alloc (.cells #[.int .i64 (d:Int),.int .i64 (t:Int),.int .i64 (s.1:Int)] 138)).drew.heap.size:=de a5 (bJ w8 _ none).size;have H9:Hid (fP w8 rb b c.2/\aT w8 B pb { D with vP:=.slice I q.length G } { p with ak:=q }/\gJ w rb pb v w8 { D with vP:=.slice I q.length G }):=⟨A,f,C⟩;clear A f C J
      go_region_law (refine step_append_lies _ rfl (.tmp 105) (.tmp 109) 74 rfl B 138 i0 _ 3 24 Tryz.Ua ao ad aq ac rfl (by decide) (.slice I q.length G) q.length (q.flatMap bY) (by simp[Act.eval]) o3 ⟨w8.heap.size,0,none⟩ 1 1 [.int .i64 (d:Int),.int .i64 (t:Int),.int .i64 (s.1:Int)] (by simp[Act.eval]) rfl (eO (aj.new w8 _ 138).drew) (by simp[Value.oneCell']) (by decide) (by unfold maxLen;omega) (by omega) az _ rfl ?_;intro g9 dI w9 nL jw mh Gm;have jC:=iK.grown jw (fun e=>a4 e.symm);have c9:w9.cell? ⟨pb,1,none⟩=some (.slice I q.length G):=jC.cell 1;have f9:=jC.frozen 1)
      all_goals
       obtain⟨A,f,C⟩:=H9.out;have R:=ap.out;have lT:w8.grownBy w9 (Value.slice I q.length G).ownBlock:=aR (b:=(w8.alloc (.cells #[.int .i64 (d:Int),.int .i64 (t:Int),.int .i64 (s.1:Int)] 138)).drew) ⟨rfl,rfl,rfl,(bJ w8 _ none).size,fun i hi _=>dg _ _ _ hi⟩ jw;have oG:w9.ownsRow B 138 3 (.slice (some ⟨g9,0,none⟩) (q.length+1) dI) (q++[(d,t,s.1)]).length ((q++[(d,t,s.1)]).flatMap bY):=by
        rw[gw,cH];exact nL
       have Ci:(Value.slice (some ⟨g9,0,none⟩) (q.length+1) dI).ownBlock=(Value.slice I q.length G).ownBlock\/∃g,(Value.slice (some ⟨g9,0,none⟩) (q.length+1) dI).ownBlock=some g/\w8.heap.size<=g:=by
        rcases mh with e|e
        ·exact .inl e.symm
        ·exact .inr ⟨g9,rfl,by rw[e];exact(bJ w8 _ none).size⟩
       have HN:Hid (fP (w9.setCell ⟨pb,1,none⟩ (.slice (some ⟨g9,0,none⟩) (q.length+1) dI)) rb b c.2/\aT (w9.setCell ⟨pb,1,none⟩ (.slice (some ⟨g9,0,none⟩) (q.length+1) dI)) B pb { D with vP:=.slice (some ⟨g9,0,none⟩) (q.length+1) dI } { p with ak:=q++[(d,t,s.1)] }/\gJ w rb pb v (w9.setCell ⟨pb,1,none⟩ (.slice (some ⟨g9,0,none⟩) (q.length+1) dI)) { D with vP:=.slice (some ⟨g9,0,none⟩) (q.length+1) dI }/\(q++[(d,t,s.1)]).length<=M) :=
        ⟨A.move ((fV _ _ fun e=>f.Ez A (.inl e)).trans (lT.block rb A.blk.lt fun e=>f.Ez A (.inr (.inr (.inl e.symm))))),f.JY lT oG,C.trans (gJ.JY (v:={ D with vP:=.slice I q.length G }) lT Ci),by rw[cH];show q.length+1<=M;omega⟩
       clear A f C lT oG Ci R nL jw mh jC c9 f9 o3 iK dA H9;go_wp2_with fail;refine⟨⟨j+1,c.2,q++[(d,t,s.1)],_,by go_num,by omega,HN.out.1,HN.out.2.1,HN.out.2.2.1,HN.out.2.2.2,?_⟩,by simp[intOf];omega⟩;rw[show x.1 - (j+1)=n by omega];exact HW.out
  ·obtain rfl:j=x.1:=by omega
   rw[ib,Pk.wN]at H;rw[<-show (Pk.places b p r).2=r1 by rw[H]]at A;rw[<-show (Pk.places b p r).1=l by rw[H]]at f;clear H;go_wp2_with fail
   go_end0
   exact⟨rfl,D,A,f,C⟩
end
namespace Pk
def JF:List Nat:=[0,498536548,997073096,651767980,1994146192,1802195444,1303535960,1342533948,3988292384,4027552580,3604390888,3412177804,2607071920,2262029012,2685067896,3183342108]
def DY(i:Nat):Nat:=JF.getD i 0
def Cj(x:Nat):Nat:=x / 16 ^^^ DY (x % 16)
def sumTo(b:ByteArray):Nat->Nat
 |0=>4294967295
 |i+1=>Cj (Cj (sumTo b i ^^^ mF b i))
def sum(b:ByteArray)(n:Nat):Nat:=4294967295 ^^^ sumTo b n
theorem acj(i:Nat):DY i<4294967296:=by
 unfold DY;rcases pt i 16 with h|h
 ·have:∀i,i<16->JF.getD i 0<4294967296:=by decide
  exact this i h
 ·rw[ej,ju (by simp[JF];omega)]
  decide
theorem Js{a b:Nat}(d:a<4294967296)(c:b<4294967296):a ^^^ b<4294967296:=Nat.xor_lt_two_pow (n:=32) d c
theorem Ny{x:Nat}(h:x<4294967296):Cj x<4294967296:=Js (by omega) (acj _)
theorem FE(b:ByteArray):∀n,sumTo b n<4294967296
 |0=>by rw[sumTo];decide
 |n+1=>Ny (Ny (Js (FE b n) (by have:=Jp b n;omega)))
theorem sum_lt(b:ByteArray)(n:Nat):sum b n<4294967296:=Js (by decide) (FE b n)
theorem alN(b:ByteArray)(n i:Nat)(h:i<n):mF (b.extract 0 n) i=mF b i:=by
 unfold mF;rw[ByteArray.data_extract,mT,mT,Array.getElem?_extract];congr 2
 split
 ·rw[fk]
 ·rename_i h2
  rw[rt (by omega)]
theorem aaz(b:ByteArray)(n:Nat):∀i,i<=n->sumTo (b.extract 0 n) i=sumTo b i
 |0,_=>rfl
 |i+1,h=>by rw[sumTo,sumTo,aaz b n i (by omega),alN b n i (by omega)]
end Pk
def pE(w:World):Prop:=∀i,i<16->w.cell? ⟨0,i,none⟩=some (.int .u32 ((Pk.DY i:Nat):Int))
theorem Na{w:World}(b:pE w){a:Nat}(h:a<4294967296):bits BinOp.and IntKind.u32 (a:Int) 15=((a % 16:Nat):Int)/\((a:Int) % 16).toNat=a % 16/\w.cell? ⟨0,a % 16,none⟩=some (.int .u32 ((Pk.DY (a % 16):Nat):Int))/\bits BinOp.xor IntKind.u32 ((a:Int) / 16) ((Pk.DY (a % 16):Nat):Int)=((Pk.Cj a:Nat):Int):=by
 refine⟨?_,by omega,b _ (tU _ (by decide)),?_⟩
 ·have:=u32_and_nat a 15 h (by decide)
  rw[nat_mask4]at this;exact this
 ·have e:(a:Int) / 16=((a / 16:Nat):Int):=by omega
  rw[e,ur _ _ (by omega) (Pk.acj _)];rfl
theorem alQ{w:World}(l:pE w)(s:ByteArray)(F:s.size<=281474976710656):Calls prog 31 #[.string s] w fun e w'=>e=.returned (.int .u32 ((Pk.sum s s.size:Nat):Int))/\w'=w:=by
 have q:Hid (∀i(n:i<s.size),((s[i]).toNat:Int)=((Pk.mF s i:Nat):Int)):=fun i n=>by
  unfold Pk.mF;have t:i<s.data.size:=n;rw[mT,kk t];rfl
 go_enter func31,ntmps31;go_wp2_with fail
 go_loop [3,7] (fun v i=>∃j:Nat,j<=s.size/\i=.int .i64 (j:Int)/\v=.int .u32 ((Pk.sumTo s j:Nat):Int)) (fun _ i=>s.size - (intOf i).toNat)
 case atStart=>exact⟨0,by omega,rfl,rfl⟩
 case round=>
  obtain⟨j,x,rfl,rfl⟩:=hrel
  by_cases hjn:j<s.size
  ·have C:(j:Int)<(s.size:Int):=by omega
   have A:=q.out j hjn;have b:=Pk.FE s j;have m:=Pk.Jp s j;obtain⟨a,f⟩:∃a,Pk.sumTo s j ^^^ Pk.mF s j=a:=⟨_,rfl⟩;have d:a<4294967296:=by rw[<-f];exact Pk.Js b (by omega)
   have u:bits BinOp.xor IntKind.u32 (Pk.sumTo s j:Int) (Pk.mF s j:Int)=(a:Int):=by rw[ur _ _ b (by omega),f]
   obtain⟨c,g⟩:∃c,Pk.Cj a=c:=⟨_,rfl⟩;have k:c<4294967296:=by rw[<-g];exact Pk.Ny d
   have o:Pk.sumTo s (j+1)=Pk.Cj c:=by rw[Pk.sumTo,f,g]
   obtain⟨y,B,G,r⟩:=Na l d;obtain⟨H,E,z,p⟩:=Na l k;rw[g]at r;rw[<-o]at p;have D:(Pk.mF s j:Int) % 4294967296=(Pk.mF s j:Int):=by omega
   clear g f o b m l;go_wp2_with fail;exact⟨⟨j+1,by omega,by go_num,rfl⟩,by simp[intOf];omega⟩
  ·obtain rfl:j=s.size:=by omega
   go_wp2_with fail;go_ret;exact⟨DC (ur 4294967295 _ (by decide) (Pk.FE ..)),rfl⟩
theorem pE.move{w w':World}(h:pE w)(a:w'.heap[0]?=w.heap[0]?):pE w':=fun i b=>(cM (w:=w) a).trans (h i b)
theorem alR(b:ByteArray){k:Nat}(h:k<=b.size):Pk.sum (b.extract 0 k) (b.extract 0 k).size=Pk.sum b k:=by
 have e:(b.extract 0 k).size=k:=by simp;omega
 rw[e];unfold Pk.sum;rw[Pk.aaz b k k (zL0)]
namespace Pk
def uO(b:ByteArray)(nT nN:Nat):Nat->Rd->List (Nat×Nat)->List (Nat×Nat)×Rd
 |0,r,l=>(l,r)
 |n+1,r,l=>uO b nT nN n (below b 1001 2 (below b nN 2 r).2).2 (l++[(nT+(below b nN 2 r).1,(below b 1001 2 (below b nN 2 r).2).1)])
def qW(b:ByteArray)(nP:Nat):Nat->Rd->List Nat->List Nat->List Nat×List Nat×Rd
 |0,r,l,m=>(l,m,r)
 |n+1,r,l,m=>qW b nP n (num b 3 (below b nP 1 r).2).2 (l++[(below b nP 1 r).1]) (m++[(num b 3 (below b nP 1 r).2).1])
theorem YL(b:ByteArray)(nT nN:Nat):∀n r l,(uO b nT nN n r l).1.length=l.length+n
 |0,_,_=>rfl
 |n+1,r,l=>by rw[uO,YL b nT nN n];simp;omega
theorem RJ(b:ByteArray)(nP:Nat):∀n r l m,(qW b nP n r l m).1.length=l.length+n/\(qW b nP n r l m).2.1.length=m.length+n
 |0,_,_,_=>⟨rfl,rfl⟩
 |n+1,r,l,m=>by
  rw[qW];obtain⟨h1,h2⟩:=RJ b nP n (num b 3 (below b nP 1 r).2).2 (l++[(below b nP 1 r).1]) (m++[(num b 3 (below b nP 1 r).2).1]);rw[h1,h2];simp;omega
theorem abo(b:ByteArray)(nP:Nat):∀n r l m,(∀x∈m,x<16777216)->∀x∈(qW b nP n r l m).2.1,x<16777216
 |0,_,_,_,h=>h
 |n+1,r,l,m,h=>by
  rw[qW];refine abo b nP n _ _ _ fun x a=>?_
  rcases cY.1 a with a|a
  ·exact h x a
  ·rw[cN]at a
   subst a;exact FX b 3 _
end Pk
theorem Tryz.adf:(prog.info? 81).map (fun i=>(i.zero,i.size,i.bytes))=some (some (.agg #[.int .i64 0,.int .i64 0]),2,16):=by kernel_rfl
theorem Tryz.adW:prog.underlying 77=some (.slice 81):=by kernel_rfl
theorem Tryz.adg:prog.underlying 22=some (.slice 3):=by kernel_rfl
theorem BA{B:Nat}{w0 w w':World}{row:Option Nat}(h:Below B w0 w)(d:B<=w.heap.size)(a:w.grownBy w' row)(c:∀k,row=some k->B<=k):Below B w0 w' :=
 ⟨a.1.trans h.1,a.2.trans h.2,a.3.trans h.3,de h.4 a.size,fun k b=>(a.block k (by omega) fun e=>by have:=c k e.symm;omega).trans (h.block k b)⟩
theorem Bv{B:Nat}{w0 w:World}(h:Below B w0 w){pb i:Nat}{x:Value}(b:B<=pb):Below B w0 (w.setCell ⟨pb,i,none⟩ x) :=
 ⟨h.1,h.2,h.3,by simpa using h.4,fun k a=>(fV _ _ (by omega)).trans (h.block k a)⟩
namespace Pk
def h1(b:ByteArray):Nat×Rd:=size b 300 ⟨0,false⟩
def h2(b:ByteArray):Nat×Rd:=size b 1000 (h1 b).2
def h3(b:ByteArray):Nat×Rd:=size b 1000 (h2 b).2
def h4(b:ByteArray):Nat×Rd:=size b 200 (h3 b).2
def w1(b:ByteArray):List ByteArray×Rd:=words b (h2 b).1 (h4 b).2
def w2(b:ByteArray):List ByteArray×Rd:=words b (h3 b).1 (w1 b).2
def pr(b:ByteArray):List (Nat×Nat)×Rd:=uO b (h2 b).1 (h3 b).1 (h4 b).1 (w2 b).2 []
def st(b:ByteArray):List Nat×List Nat×Rd:=qW b (h4 b).1 (h1 b).1 (pr b).2 [] []
def p0(b:ByteArray):T:={ aB:=(st b).2.1,ak:=[],toks:=(w1 b).1,aN:=(w2 b).1,prods:=(pr b).1,aH:=(st b).1 }
def pl(b:ByteArray):List (Nat×Nat×Nat)×Rd:=places b (p0 b) (st b).2.2
def got(b:ByteArray):Nat×Rd:=num b 4 (pl b).2
def pack(b:ByteArray):T:={ p0 b with ak:=(pl b).1 }
def ok(b:ByteArray):Bool:=!(got b).2.bad && decide ((got b).1=sum b (pl b).2.k) && decide ((got b).2.k=b.size)
theorem BJ{b:ByteArray}{m:Nat}{r:Rd}(h:0<m):1<=(size b m r).1/\(size b m r).1<=m:=by
 have:=yL (b:=b) (n:=2) (r:=r) h;unfold size;exact⟨by show 1<=_+1;omega,by show _+1<=m;omega⟩
theorem aeL(b:ByteArray):(1<=(h1 b).1/\(h1 b).1<=300)/\(1<=(h2 b).1/\(h2 b).1<=1000)/\(1<=(h3 b).1/\(h3 b).1<=1000)/\(1<=(h4 b).1/\(h4 b).1<=200):=by
 unfold h4 h3 h2 h1;exact⟨BJ (by decide),BJ (by decide),BJ (by decide),BJ (by decide)⟩
theorem SL(b:ByteArray):(p0 b).aB.length=(h1 b).1:=by
 unfold p0 st;rw[(RJ ..).2];exact fk _
theorem alS(b:ByteArray):(p0 b).aH.length=(h1 b).1:=by
 unfold p0 st;rw[(RJ ..).1];exact fk _
theorem M6(b:ByteArray):(p0 b).toks.length=(h2 b).1:=by
 unfold p0 w1
 dsimp only
 rw[II]
theorem acn(b:ByteArray):(p0 b).aN.length=(h3 b).1:=by
 unfold p0 w2
 dsimp only
 rw[II]
theorem ai3(b:ByteArray):(p0 b).prods.length=(h4 b).1:=by
 unfold p0 pr;rw[YL];exact fk _
theorem adX(b:ByteArray):GJ (p0 b):=by
 obtain⟨a,c,d,-⟩:=aeL b;refine⟨by rw[SL];exact a.1,by rw[SL];exact a.2,by rw[M6];exact c.2,by rw[acn];exact d.2,?_⟩;unfold p0 st;exact abo _ _ _ _ _ _ (by simp)
end Pk
