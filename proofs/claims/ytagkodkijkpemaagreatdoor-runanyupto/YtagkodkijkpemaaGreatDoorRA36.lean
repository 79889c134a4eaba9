import Derived.Deep.DrawnRows
import Derived.Shelf.SlSortCmp.InsertionK
import Derived.Shelf.Small.Bits
import Derived.Test.YtagkodkijkpemaaGreatDoorRA35
set_option maxHeartbeats 8000000
set_option maxRecDepth 1000000
namespace Go.Proofs.YtagkodkijkpemaaGreatDoor
open Lx Go.Proofs.Tryz
open Go.RowKit Tr
def pQ(a b:Int):Int:=if a<b then -1 else if b<a then 1 else 0
theorem SC(a:Int)(w:World):Calls prog 173 #[.int .i64 a] w fun e w'=>e=.returned (.bool false)/\w'=w:=by
 go_enter func173,ntmps173;go_wp2_with fail;go_ret;exact⟨rfl,rfl⟩
theorem aly(a b:Int)(w:World):Calls prog 147 #[.int .i64 a,.int .i64 b] w fun e w'=>e=.returned (.int .i64 (pQ a b))/\w'=w:=by
 go_enter func147,ntmps147;unfold pQ
 by_cases h1:a<b
 ·rw[de h1]
  go_wp2_with (go_at_call 173;refine(SC _ _).mono ?_;rintro e w'⟨rfl,c⟩;obtain rfl:=c.symm)
  go_ret;exact⟨rfl,rfl⟩
 ·rw[dk h1]
  by_cases h2:b<a
  ·rw[de h2]
   go_wp2_with (go_at_call 173;refine(SC _ _).mono ?_;rintro e w'⟨rfl,c⟩;obtain rfl:=c.symm)
   go_ret;exact⟨rfl,rfl⟩
  ·rw[dk h2]
   go_wp2_with (go_at_call 173;refine(SC _ _).mono ?_;rintro e w'⟨rfl,c⟩;obtain rfl:=c.symm)
   go_ret;exact⟨rfl,rfl⟩
def yw(a b c:Int):Int:=if a=0 then (if b=0 then c else b) else a
theorem ame(a b c:Int)(g:Nat)(w:World)(s:w.cell? ⟨g,0,none⟩=some (.int .i64 a))(h1:w.cell? ⟨g,1,none⟩=some (.int .i64 b))(h2:w.cell? ⟨g,2,none⟩=some (.int .i64 c)):Calls prog 146 #[.slice (some ⟨g,0,none⟩) 3 3] w fun e w'=>e=.returned (.int .i64 (yw a b c))/\w'=w:=by
 have q:Hid (yw a b c=yw a b c):=rfl;generalize hr:yw a b c=r;have o:Hid (yw a b c=r):=hr;clear hr q;go_enter func146,ntmps146;go_wp2_with fail
 go_loopg [8] 3 (fun m i wr=>∃j:Nat,j+m=3/\i=.int .i64 (j:Int)/\wr=w/\Hid ((0<j->a=0)/\(1<j->b=0)/\(2<j->c=0)))
 case atStart=>exact⟨0,by omega,rfl,rfl,⟨by omega,by omega,by omega⟩⟩
 case round=>
  obtain⟨j,l,rfl,rfl,n⟩:=hrel;have d:=n.out
  match j,l,d with
  |0,l,d=>
   clear n d
   by_cases f:a=0
   ·go_wp2_with fail
    go_roundg 2
    case measure=>omega
    case rel=>exact⟨1,by omega,by go_num,rfl,⟨fun _=>f,by omega,by omega⟩⟩
   ·go_wp2_with fail
    go_ret;exact⟨by rw[<-o.out];unfold yw;rw[dk f];rfl,rfl⟩
  |1,l,d=>
   have f:=d.1 (by omega);clear n d
   by_cases k:b=0
   ·go_wp2_with fail
    go_roundg 1
    case measure=>omega
    case rel=>exact⟨2,by omega,by go_num,rfl,⟨fun _=>f,fun _=>k,by omega⟩⟩
   ·go_wp2_with fail
    go_ret;exact⟨by rw[<-o.out];unfold yw;rw[de f,dk k];rfl,rfl⟩
  |2,l,d=>
   have f:=d.1 (by omega);have k:=d.2.1 (by omega);clear n d
   by_cases p:c=0
   ·go_wp2_with fail
    go_roundg 0
    case measure=>omega
    case rel=>exact⟨3,by omega,by go_num,rfl,⟨fun _=>f,fun _=>k,fun _=>p⟩⟩
   ·go_wp2_with fail
    go_ret;exact⟨by rw[<-o.out];unfold yw;rw[de f,de k];rfl,rfl⟩
  |3,l,d=>
   have f:=d.1 (by omega);have k:=d.2.1 (by omega);have p:=d.2.2 (by omega);clear n d;go_wp2_with fail;go_ret;exact⟨by rw[<-o.out];unfold yw;rw[de f,de k,p];rfl,rfl⟩
  |j+4,l,d=>omega
attribute [local go_sem ↓] Go.wp_at_zero Go.wp_at_succ
def fM(m:Nat×(Nat×Nat)):List Value:=[.int .i64 (m.1:Int),.int .i64 (m.2.1:Int),.int .i64 (m.2.2:Int)]
def za(x y:Nat×(Nat×Nat)):Int:=yw (pQ (x.1:Int) (y.1:Int)) (pQ (x.2.1:Int) (y.2.1:Int)) (pQ (x.2.2:Int) (y.2.2:Int))
theorem aiL(x y:Nat×(Nat×Nat))(W:World):Calls prog 145 #[.agg (fM x).toArray,.agg (fM y).toArray] W fun e w'=>e=.returned (.int .i64 (za x y))/\∃q os',w'=Go.Sort.grow (W.drewN q) os':=by
 obtain⟨g,j,f⟩:=x;obtain⟨d,c,i⟩:=y;unfold za;simp only[fM];obtain⟨b,a⟩:∃V,V=(W.alloc (.cells #[.int .i64 (g:Int),.int .i64 (j:Int),.int .i64 (f:Int)] 238)).alloc (.cells #[.int .i64 (d:Int),.int .i64 (c:Int),.int .i64 (i:Int)] 238):=⟨_,rfl⟩;go_enter func145,ntmps145;have kA:aj b W.heap.size #[.int .i64 (g:Int),.int .i64 (j:Int),.int .i64 (f:Int)] 238:=by rw[a];exact(aj.new W _ 238).alloc _
 have kB:aj b (W.heap.size+1) #[.int .i64 (d:Int),.int .i64 (c:Int),.int .i64 (i:Int)] 238:=by rw[a];simpa using aj.new (W.alloc (.cells #[.int .i64 (g:Int),.int .i64 (j:Int),.int .i64 (f:Int)] 238)) #[.int .i64 (d:Int),.int .i64 (c:Int),.int .i64 (i:Int)] 238
 have r:b.cell? ⟨W.heap.size,0,none⟩=some (.int .i64 (g:Int)):=kA.cell 0;have s:b.cell? ⟨W.heap.size,1,none⟩=some (.int .i64 (j:Int)):=kA.cell 1;have n:b.cell? ⟨W.heap.size,2,none⟩=some (.int .i64 (f:Int)):=kA.cell 2;have t:b.cell? ⟨W.heap.size+1,0,none⟩=some (.int .i64 (d:Int)):=kB.cell 0;have p:b.cell? ⟨W.heap.size+1,1,none⟩=some (.int .i64 (c:Int)):=kB.cell 1;have o:b.cell? ⟨W.heap.size+1,2,none⟩=some (.int .i64 (i:Int)):=kB.cell 2;go_upto_region 1 with fail
 rw[<-a];have l:Hid (∃q os',b=Go.Sort.grow (W.drewN q) os'):=⟨0,_,by rw[a,Go.Sort.alloc_eq_grow,Go.Sort.alloc_eq_grow,Go.Sort.grow_grow];rfl⟩;clear a kA kB
 go_region_held3 (fun w'=>w'.cell? ⟨W.heap.size,0,none⟩=some (.int .i64 (g:Int))/\w'.cell? ⟨W.heap.size,1,none⟩=some (.int .i64 (j:Int))/\w'.cell? ⟨W.heap.size,2,none⟩=some (.int .i64 (f:Int))/\w'.cell? ⟨W.heap.size+1,0,none⟩=some (.int .i64 (d:Int))/\w'.cell? ⟨W.heap.size+1,1,none⟩=some (.int .i64 (c:Int))/\w'.cell? ⟨W.heap.size+1,2,none⟩=some (.int .i64 (i:Int))) (go_keep) (first
  | (go_at_call 147;refine(aly _ _ _).mono ?_;rintro e w'⟨rfl,k⟩;obtain rfl:=k.symm)
  | (go_at_call 146;refine(ame (pQ (g:Int) (d:Int)) (pQ (j:Int) (c:Int)) (pQ (f:Int) (i:Int)) _ _ (by simp) (by simp) (by simp)).mono ?_;rintro e w'⟨rfl,k⟩;obtain rfl:=k.symm))
 all_goals
  go_wp2_with fail;go_ret;obtain⟨q,os',m⟩:=l.out;refine⟨rfl,q+1,os'++#[.cells #[.int .i64 (pQ (g:Int) (d:Int)),.int .i64 (pQ (j:Int) (c:Int)),.int .i64 (pQ (f:Int) (i:Int))] 3],?_⟩;rw[m,<-Go.Sort.grow_grow,<-Go.Sort.alloc_eq_grow];rfl
theorem akn(a:Value)(w:World):Calls prog 182 #[.slice none 0 0,.int .i64 0,.int .i64 0,a] w fun e w'=>e=.returned (.tuple #[])/\w'=w:=by
 go_enter func182,ntmps182;go_wp2_with fail
 go_loopg [8] 0 (fun m i wr=>i=.int .i64 1/\wr=w)
 case atStart=>exact⟨rfl,rfl⟩
 case round=>
  obtain⟨rfl,rfl⟩:=hrel;go_wp2_with fail
  go_end0
  exact⟨rfl,rfl⟩
theorem ako(a:Value)(l:Int)(w:World):Calls prog 171 #[.slice none 0 0,.int .i64 0,.int .i64 0,.int .i64 l,a] w fun e w'=>e=.returned (.tuple #[])/\w'=w:=by
 go_enter func171,ntmps171;go_wp2_with fail;refine wp_loop_rounds 1 ?_;rw[rounds_succ]
 go_wp2_with (go_at_call 182;refine(akn _ _).mono ?_;rintro e w'⟨rfl,b⟩;obtain rfl:=b.symm)
 (try simp only[Exit.inBlock,Exit.then]);refine fx (oY rfl _ _ _) rfl ?_
 exact⟨rfl,rfl⟩
theorem aiM(c:Value)(w:World):Calls prog 144 #[.slice none 0 0,c] w fun e w'=>e=.returned (.tuple #[])/\w'=w:=by
 have b:∀W,Calls prog 172 #[.int .u64 0] W fun e w'=>e=.returned (.int .i64 (Lib.bitLen 0:Nat))/\w'=W:=fun W=>Any.bits_Len (SlLaysF0.n15.bits (P:=prog) (ρ:=Tryz.Y3) { Tryz.acu with }) 0 W (by omega) (by omega)
 go_enter func144,ntmps144
 go_wp2_with (first|(go_at_call 172;refine(b _).mono ?_;rintro e w'⟨rfl,a⟩;obtain rfl:=a.symm)|(go_at_call 171;refine(ako _ _ _).mono ?_;rintro e w'⟨rfl,a⟩;obtain rfl:=a.symm))
 go_end0
 exact⟨rfl,rfl⟩
theorem GX:uQ fM 3:=⟨fun _=>rfl,fun s u a=>by simp only[fM,ee,ph,or_false]at a;rcases a with rfl|rfl|rfl <;> rfl⟩
theorem SE{a b:Int}:pQ a b<0↔a<b:=by
 unfold pQ
 split
 ·simp[*]
 ·split
  ·simp[*]
  ·simp[*]
theorem MF{a b:Int}:pQ a b=0↔a=b:=by
 unfold pQ
 split
 ·simp;omega
 ·split
  ·simp;omega
  ·simp;omega
theorem alz{x y:Nat×au}:za x y<0↔oP x y:=by
 unfold za yw oP gX
 by_cases h1:pQ (x.1:Int) (y.1:Int)=0
 ·rw[de h1]
  have a:=MF.1 h1
  by_cases h2:pQ (x.2.1:Int) (y.2.1:Int)=0
  ·rw[de h2,SE]
   have b:=MF.1 h2;omega
  ·rw[dk h2,SE]
   have b:¬(x.2.1:Int)=(y.2.1:Int):=fun e=>h2 (MF.2 e)
   omega
 ·rw[dk h1,SE]
  have a:¬(x.1:Int)=(y.1:Int):=fun e=>h1 (MF.2 e)
  omega
theorem PW(x y:Nat×au):ltOf za x y=true↔oP x y:=by
 unfold ltOf;simp only[ii];exact alz
theorem Je(x y:Nat×au):ltOf za x y=false↔¬oP x y:=by rw[<-PW,ol]
theorem anL:Go.Sort.SWO (ltOf za) where
 irrefl x:=(Je _ _).2 (by unfold oP gX;omega)
 trans x y z h1 h2:=(PW _ _).2 (by have:=(PW _ _).1 h1;have:=(PW _ _).1 h2;unfold oP gX at *;omega)
 ntrans x y z h1 h2:=(Je _ _).2 (by have:=(Je _ _).1 h1;have:=(Je _ _).1 h2;unfold oP gX at *;omega)
theorem Zd{α:Type}[Inhabited α]{enc:α->List Value}{k:Nat}(hE:uQ enc k)(hk:0<k)(M:List α):(Go.Sort.flatK enc k M.toArray).toList=M.flatMap enc:=by
 apply pA;intro t
 by_cases ht:t<M.length*k
 ·have hd:t / k<M.length:=(Nat.div_lt_iff_lt_mul hk).2 ht
  have c:t % k<k:=tw _ hk;have e:t=t / k*k+t % k:=by rw[Nat.mul_comm];exact(Nat.div_add_mod t k).symm
  have h1:(M.flatMap enc)[t]?=(enc M[t / k])[t % k]?:=by
   conv=>lhs;rw[e]
   exact hE.Ur hd c
  have a:t % k<(enc M[t / k]).length:=by rw[hE.len];exact c
  have d:(Go.Sort.flatK enc k M.toArray).size=M.length*k:=by simp[Go.Sort.flatK]
  have b:t<(Go.Sort.flatK enc k M.toArray).size:=by rw[d];exact ht
  rw[h1,cF a,fW,j7 b];have h2:=Go.Sort.get_flatK enc k M.toArray t (by simpa using ht);rw[qv _ t b,qv M.toArray (t / k) (by simpa using hd)]at h2;simp only[List.getElem_toArray]at h2;rw[qv (enc M[t / k]) (t % k) a]at h2;rw[h2]
 ·have d:(Go.Sort.flatK enc k M.toArray).toList.length=M.length*k:=by rw[kh];simp[Go.Sort.flatK]
  have f:=hE.JR M;rw[ld (l:=(Go.Sort.flatK enc k M.toArray).toList) (by omega),ld (l:=M.flatMap enc) (by omega)]
theorem aiN{B:Nat}{w:World}{g b:Nat}{M:List (Nat×au)}(h:aN 238 3 fM B w (.slice (some ⟨g,0,none⟩) M.length b) M):Go.Sort.HoldsK fM 3 w g 0 M.toArray:=by
 have m:=ml h (g:=g) rfl;have l:=Zd GX (by decide) M;intro j f;have c:(M.flatMap fM)[j]?=some (Go.Sort.flatK fM 3 M.toArray)[j]!:=by
  rw[<-l,fW,j7 f,qv _ j f]
 refine⟨?_,?_⟩
 ·have:=m j _ c
  rw[show (⟨g,0,none⟩:Addr).add j=⟨g,0+j,none⟩ by unfold Addr.add;split <;> simp_all]at this;exact this
 ·rcases h.2 with ⟨a,-⟩ | ⟨n,i,d,a,-,k,-⟩
  ·cases a
  ·cases a
   exact aj.frozen (cs:=d) (e:=238) k _
theorem aiO{a:List (Nat×au)}(f:a.Nodup)(h:Go.Sort.SortedIn (ltOf za) 0 a.length a.toArray):a.Pairwise oP:=by
 rw[lr];intro i j d c b;have h1:=h i j (eR _) b c;rw[qv a.toArray j (by simpa using c),qv a.toArray i (by simpa using d)]at h1;simp only[List.getElem_toArray]at h1;have h2:=(Je _ _).1 h1;have h3:a[i]≠a[j]:=fun e=>absurd ((lj f).1 e) (by omega)
 generalize a[i]=x at h2 h3;generalize a[j]=y at h2 h3;have h4:¬(x.1=y.1/\x.2.1=y.2.1/\x.2.2=y.2.2):=fun e=>h3 (qS e.1 (qS e.2.1 e.2.2))
 unfold oP gX at *;omega
theorem heap_put{w:World}{g n:Nat}{d:Array (Nat×au)}{os:Array Obj}{cur:Array Value}(f:w.heap[g]?=some (.cells cur 238 (0,0))):(sortWorldK fM 3 w g 0 n d os).heap[g]?=some (.cells (Go.Sort.putCells id 0 (Go.Sort.flatK fM 3 d) cur) 238 (0,0))/\(∀b,b<w.heap.size->b≠g->(sortWorldK fM 3 w g 0 n d os).heap[b]?=w.heap[b]?)/\w.heap.size<=(sortWorldK fM 3 w g 0 n d os).heap.size:=by
 have a:=(dv.1 f).1;unfold sortWorldK Go.Sort.putRowK Go.Sort.putRow Go.Sort.mapBlock Go.Sort.ahead Go.Sort.grow;simp only;refine⟨?_,fun b i c=>?_,?_⟩
 ·rw[ox (by simpa using a),nj,de rfl,f]
  rfl
 ·rw[ox (by simpa using i),nj,dk (fun e=>c e.symm)]
 ·simp
theorem ae6{F cur:Array Value}(h:F.size<=cur.size):(Go.Sort.putCells id 0 F cur).toList.take F.size=F.toList/\(Go.Sort.putCells id 0 F cur).size=cur.size:=by
 refine⟨?_,by simp[Go.Sort.putCells]⟩;apply mi
 ·simp[Go.Sort.putCells];omega
 ·intro i h1 h2
  have a:i<F.size:=by simpa using h2
  simp only[List.getElem_take,Array.getElem_toList,Go.Sort.putCells,Array.getElem_mapIdx];rw[de ⟨eR _,by omega⟩,Nat.sub_zero,qv F i a];rfl
theorem akp{B:Nat}{w:World}{v:Value}{M:List (Nat×au)}(h:aN 238 3 fM B w v M)(T:M.length<=1000000)(u:M.Nodup):Calls prog 144 #[v,.func (.func 145) #[] #[]] w fun e w'=>e=.returned (.tuple #[])/\∃M':List (Nat×au),M'.Perm M/\M'.Pairwise oP/\aN 238 3 fM B w' v M'/\Below B w w':=by
 have D:=h;unfold aN at D;rcases D.2 with ⟨rfl,i⟩|⟨g,l,cur,rfl,r,A,o,s,j,Q⟩
 ·obtain rfl:M=[]:=fY i
  refine(aiM _ w).mono ?_;rintro e w'⟨rfl,rfl⟩;exact⟨rfl,[],.refl _,.nil,h,cV _ _⟩
 ·have K:∀args w,(callFunc 145 args).run prog w=.ok (.enter 145 args) w:=enters_of func145 (by kernel_rfl) rfl
  have O:=aiN h;have t:=(dv.1 A).1;have p:CmpLays prog 145 #[] fM 3 za g 0 M.toArray.size w:=fun _ _ _ _ x y=>aiL x y _
  have k:=AnyQ.slices_SortFunc Tryz.acu 3 Tryz.isAgg238 Tryz.sizeOf238 fM (fun _=>rfl) GX.one za anL 145 #[] g 0 l M.toArray w K p O t (by simp;omega);refine Calls.mono k ?_;rintro e w'⟨rfl,a,n,os,L,I,rfl⟩;obtain⟨z,-,C⟩:=L;have hsz:a.size=M.length:=by simpa using z
  have f:a.toList.Perm M:=by
   have H:a.extract 0 M.toArray.size=a:=by rw[<-z];simp
   have E:M.toArray.extract 0 M.toArray.size=M.toArray:=by simp
   rw[H,E]at C;exact C
  obtain⟨J,P,G⟩:=heap_put (n:=n) (d:=a) (os:=os) A;have q:(Go.Sort.flatK fM 3 a).toList=a.toList.flatMap fM:=by
   have:=Zd GX (by decide) a.toList;simpa using this
  have m:(Go.Sort.flatK fM 3 a).size=M.length*3:=by rw[<-kh,q,GX.JR,kh,hsz]
  obtain⟨R,N⟩:=ae6 (F:=Go.Sort.flatK fM 3 a) (cur:=cur) (by rw[m,j];exact j9 3 o);refine⟨rfl,a.toList,f,aiO (f.nodup_iff.2 u) ?_,?_,?_⟩
  ·rw[kh,hsz]
   simpa using I
  ·have c:a.toList.length=M.length:=by rw[kh,hsz]
   refine⟨GX.JR _,.inr ⟨g,l,_,by rw[c],r,J,by rw[c];exact o,s,by rw[N];exact j,?_⟩⟩;rw[c,<-m,R,q]
  ·exact⟨rfl,rfl,rfl,G,fun b S=>P b (by omega) (by omega)⟩
namespace Lx
structure jW(P:List Pd)(i n:Nat)(S:bX):Prop where
 nd:S.ks.Nodup
 zero:S.ks[0]?=some [(0,0)]
 kn:∀(j:Nat),j<S.ks.length->0<j->∃f m,f<j/\(f,m,j)∈S.es
 es:∀e∈S.es,(e.1<i\/(e.1=i/\e.2.1<n))/\0<e.2.2/\∃K,S.ks[e.1]?=some K/\S.ks[e.2.2]?=some (jl P K e.2.1)/\jl P K e.2.1≠[]
 pw:S.es.Pairwise fun a b=>a.1<b.1\/(a.1=b.1/\a.2.1<b.2.1)
 all:∀(j:Nat)(K:List au)(m:Nat),S.ks[j]?=some K->(j<i\/(j=i/\m<n))->jl P K m≠[]->∃t,(j,m,t)∈S.es
 rise:∀(j:Nat)(K:List au),S.ks[j]?=some K->K.Pairwise gX
theorem alA{P:List Pd}{K:List au}{n:Nat}{s:au}(h:s∈jl P K n):0<s.2:=by
 obtain⟨t,-,-,rfl⟩:=FB.1 h;exact Nat.succ_pos _
theorem acL{l:List (List au)}{k:List au}(h:jm l k<l.length):l[jm l k]?=some k:=by
 unfold jm at *;rw[cF h];have:=pC (w:=h);simpa using this
theorem acM{l:List (List au)}{k:List au}(h:¬jm l k<l.length):k∉l:=by
 intro a;apply h;unfold jm;rw[List.findIdx_lt_length];exact⟨k,a,by simp⟩
theorem jW.first(P:List Pd):jW P 0 0 ⟨[[(0,0)]],[]⟩:=by
 refine⟨by simp,rfl,fun j h1 h2=>?_,(fun e a=>by cases a),n9,(fun j K m _ h=>by omega),fun j K h=>?_⟩
 ·simp at h1;omega
 ·cases j with
  |zero=>cases h;simp
  |succ j=>simp at h
theorem jW.mono{P:List Pd}{i n:Nat}{S:bX}(h:jW P i n S){K:List au}(b:S.ks[i]?=some K)(a:jl P K n=[]):jW P i (n+1) S:=by
 refine⟨h.nd,h.zero,h.kn,fun e h1=>?_,h.pw,fun j c m h1 h2 h3=>?_,h.rise⟩
 ·obtain⟨h2,h3⟩:=h.es e h1
  exact⟨by omega,h3⟩
 ·by_cases e:j=i/\m=n
  ·obtain⟨rfl,rfl⟩:=e
   rw[b]at h1;cases h1;exact absurd a h3
  ·exact h.all j c m h1 (by omega) h3
theorem jW.edge{P:List Pd}{i n:Nat}{S:bX}(h:jW P i n S){K:List au}(u:S.ks[i]?=some K):jW P i (n+1) (edge P i K S n):=by
 unfold Lx.edge
 by_cases he:jl P K n=[]
 ·rw[de he];exact h.mono u he
 ·rw[dk he]
  have E:=(cG.1 u).1;have r:∀t:Nat,(S.es++[(i,n,t)]).Pairwise fun(a b:KW)=>a.1<b.1\/(a.1=b.1/\a.2.1<b.2.1):=fun t=>by
   rw[oS];refine⟨h.pw,by simp,fun a x b p=>?_⟩;rw[cM]at p;subst p;have:=(h.es a x).1;simp only;omega
  have F:jl P K n≠[(0,0)]:=fun e=>by
   have:=alA (P:=P) (K:=K) (n:=n) (s:=(0,0)) (by rw[e];simp);exact absurd this (by simp)
  by_cases hx:jm S.ks (jl P K n)<S.ks.length
  ·rw[de hx]
   have l:=acL hx;refine⟨h.nd,h.zero,fun j h1 h2=>?_,fun e k=>?_,r _,fun j c m h1 h2 h3=>?_,h.rise⟩
   ·obtain⟨f,m,y,h3⟩:=h.kn j h1 h2
    exact⟨f,m,y,cY.2 (.inl h3)⟩
   ·rcases cY.1 k with h1 | h1
    ·obtain⟨h2,h3⟩:=h.es e h1
     exact⟨by omega,h3⟩
    ·rw[cM]at h1
     subst h1;refine⟨.inr ⟨rfl,Nat.lt_succ_self _⟩,?_,K,u,l,he⟩;apply Nat.pos_of_ne_zero;intro D;have v:jm S.ks (jl P K n)=0:=D;rw[v,h.zero]at l;exact F (gh l).symm
   ·by_cases e:j=i/\m=n
    ·obtain⟨rfl,rfl⟩:=e
     exact⟨_,cY.2 (.inr eh)⟩
    ·obtain⟨t,z⟩:=h.all j c m h1 (by omega) h3
     exact⟨t,cY.2 (.inl z)⟩
  ·rw[dk hx]
   have q:=acM hx;have d:∀{j:Nat}{c:List au},S.ks[j]?=some c->(S.ks++[jl P K n])[j]?=some c:=fun{j c}h1=>by
    rw[eC (cG.1 h1).1];exact h1
   have g:∀{j:Nat}{c:List au},(S.ks++[jl P K n])[j]?=some c->S.ks[j]?=some c\/(j=S.ks.length/\c=jl P K n):=fun{j c}h1=>by
    rw[jj]at h1
    split at h1
    ·exact .inl h1
    ·rename_i B
     have G:j=S.ks.length:=by
      have:=(cG.1 h1).1;simp at this;omega
     subst G;simp at h1;exact .inr ⟨rfl,h1.symm⟩
   have o:(S.ks++[jl P K n])[S.ks.length]?=some (jl P K n):=by simp
   refine⟨?_,d h.zero,fun j h1 h2=>?_,fun e k=>?_,r _,fun j c m h1 h2 h3=>?_,fun j c h1=>?_⟩
   ·rw[ik]
    refine⟨h.nd,by simp,fun a x b p e=>?_⟩;rw[cM]at p;subst p;exact q (e▸x)
   ·simp only[cH,el,iu]at h1
    by_cases e:j=S.ks.length
    ·subst e
     exact⟨i,n,E,cY.2 (.inr eh)⟩
    ·obtain⟨f,m,y,h3⟩:=h.kn j (by omega) h2
     exact⟨f,m,y,cY.2 (.inl h3)⟩
   ·rcases cY.1 k with h1 | h1
    ·obtain⟨h2,h3,c,h4,A,C⟩:=h.es e h1
     exact⟨by omega,h3,c,d h4,d A,C⟩
    ·rw[cM]at h1
     subst h1;exact⟨.inr ⟨rfl,Nat.lt_succ_self _⟩,by show 0<S.ks.length;omega,K,d u,o,he⟩
   ·rcases g h1 with h1 | ⟨rfl,-⟩
    ·by_cases e:j=i/\m=n
     ·obtain⟨rfl,rfl⟩:=e
      exact⟨_,cY.2 (.inr eh)⟩
     ·obtain⟨t,z⟩:=h.all j c m h1 (by omega) h3
      exact⟨t,cY.2 (.inl z)⟩
    ·omega
   ·rcases g h1 with h1 | ⟨-,rfl⟩
    ·exact h.rise j c h1
    ·exact acw _ _ _
theorem jW.leave{P:List Pd}{i:Nat}{K:List au}:∀(q n:Nat)(S:bX),jW P i n S->S.ks[i]?=some K->jW P i (n+q) (leave P i K S (List.range' n q))/\(leave P i K S (List.range' n q)).ks[i]?=some K
 |0,n,S,h,hK=>⟨h,hK⟩
 |q+1,n,S,h,hK=>by
  rw[List.range'_succ];have:=jW.leave q (n+1) (Lx.edge P i K S n) (h.edge hK) (abW hK);rw[show n+1+q=n+(q+1) by omega]at this;exact this
theorem jW.next{P:List Pd}{sz st i:Nat}{S:bX}(b:om P sz st)(h:jW P i sz S):jW P (i+1) 0 S:=by
 refine⟨h.nd,h.zero,h.kn,fun e h1=>?_,h.pw,fun j d m h1 h2 h3=>?_,h.rise⟩
 ·obtain⟨h2,h3⟩:=h.es e h1
  exact⟨by omega,h3⟩
 ·refine h.all j d m h1 ?_ h3
  by_cases e:j=i
  ·refine .inr ⟨e,?_⟩
   obtain⟨s,c⟩:=List.exists_mem_of_ne_nil _ h3;obtain⟨t,-,a,-⟩:=FB.1 c;exact(Nu b a).1
  ·omega
end Lx
end Go.Proofs.YtagkodkijkpemaaGreatDoor
