import Derived.Deep.DrawnRows
import Derived.Test.YtagkodkijkpemaaGreatDoorQA11
set_option maxHeartbeats 8000000
set_option maxRecDepth 1000000
namespace Go.Proofs.YtagkodkijkpemaaGreatDoor
open Lx Go.Proofs.Tryz
open Go.RowKit Tr
def p8(a b:Int):Int:=if a<b then -1 else if b<a then 1 else 0
theorem Tj(a:Int)(w:World):Calls prog 173 #[.int .i64 a] w fun e w'=>e=.returned (.bool false)/\w'=w:=by
 go_enter func173,ntmps173;go_wp2_with fail;go_ret;exact⟨rfl,rfl⟩
theorem amq(a b:Int)(w:World):Calls prog 147 #[.int .i64 a,.int .i64 b] w fun e w'=>e=.returned (.int .i64 (p8 a b))/\w'=w:=by
 go_enter func147,ntmps147;unfold p8
 by_cases h1:a<b
 ·rw[dj h1]
  go_wp2_with (go_at_call 173;refine(Tj _ _).mono ?_;rintro e w'⟨rfl,c⟩;obtain rfl:=c.symm)
  go_ret;exact⟨rfl,rfl⟩
 ·rw[dt h1]
  by_cases h2:b<a
  ·rw[dj h2]
   go_wp2_with (go_at_call 173;refine(Tj _ _).mono ?_;rintro e w'⟨rfl,c⟩;obtain rfl:=c.symm)
   go_ret;exact⟨rfl,rfl⟩
  ·rw[dt h2]
   go_wp2_with (go_at_call 173;refine(Tj _ _).mono ?_;rintro e w'⟨rfl,c⟩;obtain rfl:=c.symm)
   go_ret;exact⟨rfl,rfl⟩
def yH(a b c:Int):Int:=if a=0 then (if b=0 then c else b) else a
theorem am5(a b c:Int)(g:Nat)(w:World)(s:w.cell? ⟨g,0,none⟩=some (.int .i64 a))(h1:w.cell? ⟨g,1,none⟩=some (.int .i64 b))(h2:w.cell? ⟨g,2,none⟩=some (.int .i64 c)):Calls prog 146 #[.slice (some ⟨g,0,none⟩) 3 3] w fun e w'=>e=.returned (.int .i64 (yH a b c))/\w'=w:=by
 have q:Hid (yH a b c=yH a b c):=rfl;generalize hr:yH a b c=r;have o:Hid (yH a b c=r):=hr;clear hr q;go_enter func146,ntmps146;go_wp2_with fail
 go_loopg [8] 3 (fun m i wr=>∃j:Nat,j+m=3/\i=.int .i64 (j:Int)/\wr=w/\Hid ((0<j->a=0)/\(1<j->b=0)/\(2<j->c=0)))
 case atStart=>exact⟨0,by omega,rfl,rfl,⟨by omega,by omega,by omega⟩⟩
 case round=>
  obtain⟨j,l,rfl,rfl,n⟩:=hrel;have d:=n.out
  match j,l,d with
  |0,l,d=>
   clear n d
   by_cases f:a=0
   ·go_wp2_with fail
    go_roundg 2
    case measure=>omega
    case rel=>exact⟨1,by omega,by go_num,rfl,⟨fun _=>f,by omega,by omega⟩⟩
   ·go_wp2_with fail
    go_ret;exact⟨by rw[<-o.out];unfold yH;rw[dt f];rfl,rfl⟩
  |1,l,d=>
   have f:=d.1 (by omega);clear n d
   by_cases k:b=0
   ·go_wp2_with fail
    go_roundg 1
    case measure=>omega
    case rel=>exact⟨2,by omega,by go_num,rfl,⟨fun _=>f,fun _=>k,by omega⟩⟩
   ·go_wp2_with fail
    go_ret;exact⟨by rw[<-o.out];unfold yH;rw[dj f,dt k];rfl,rfl⟩
  |2,l,d=>
   have f:=d.1 (by omega);have k:=d.2.1 (by omega);clear n d
   by_cases p:c=0
   ·go_wp2_with fail
    go_roundg 0
    case measure=>omega
    case rel=>exact⟨3,by omega,by go_num,rfl,⟨fun _=>f,fun _=>k,fun _=>p⟩⟩
   ·go_wp2_with fail
    go_ret;exact⟨by rw[<-o.out];unfold yH;rw[dj f,dj k];rfl,rfl⟩
  |3,l,d=>
   have f:=d.1 (by omega);have k:=d.2.1 (by omega);have p:=d.2.2 (by omega);clear n d;go_wp2_with fail;go_ret;exact⟨by rw[<-o.out];unfold yH;rw[dj f,dj k,p];rfl,rfl⟩
  |j+4,l,d=>omega
attribute [local go_sem ↓] Go.wp_at_zero Go.wp_at_succ
def fU(m:Nat×(Nat×Nat)):List Value:=[.int .i64 (m.1:Int),.int .i64 (m.2.1:Int),.int .i64 (m.2.2:Int)]
def zl(x y:Nat×(Nat×Nat)):Int:=yH (p8 (x.1:Int) (y.1:Int)) (p8 (x.2.1:Int) (y.2.1:Int)) (p8 (x.2.2:Int) (y.2.2:Int))
theorem ajn(x y:Nat×(Nat×Nat))(W:World):Calls prog 145 #[.agg (fU x).toArray,.agg (fU y).toArray] W fun e w'=>e=.returned (.int .i64 (zl x y))/\∃q os',w'=Go.Sort.grow (W.drewN q) os':=by
 obtain⟨c,j,f⟩:=x;obtain⟨d,g,i⟩:=y;unfold zl;simp only[fU];obtain⟨b,a⟩:∃V,V=(W.alloc (.cells #[.int .i64 (c:Int),.int .i64 (j:Int),.int .i64 (f:Int)] 238)).alloc (.cells #[.int .i64 (d:Int),.int .i64 (g:Int),.int .i64 (i:Int)] 238):=⟨_,rfl⟩;go_enter func145,ntmps145;have kA:aj b W.heap.size #[.int .i64 (c:Int),.int .i64 (j:Int),.int .i64 (f:Int)] 238:=by rw[a];exact(aj.new W _ 238).alloc _
 have kB:aj b (W.heap.size+1) #[.int .i64 (d:Int),.int .i64 (g:Int),.int .i64 (i:Int)] 238:=by rw[a];simpa using aj.new (W.alloc (.cells #[.int .i64 (c:Int),.int .i64 (j:Int),.int .i64 (f:Int)] 238)) #[.int .i64 (d:Int),.int .i64 (g:Int),.int .i64 (i:Int)] 238
 have t:b.cell? ⟨W.heap.size,0,none⟩=some (.int .i64 (c:Int)):=kA.cell 0;have n:b.cell? ⟨W.heap.size,1,none⟩=some (.int .i64 (j:Int)):=kA.cell 1;have o:b.cell? ⟨W.heap.size,2,none⟩=some (.int .i64 (f:Int)):=kA.cell 2;have p:b.cell? ⟨W.heap.size+1,0,none⟩=some (.int .i64 (d:Int)):=kB.cell 0;have r:b.cell? ⟨W.heap.size+1,1,none⟩=some (.int .i64 (g:Int)):=kB.cell 1;have s:b.cell? ⟨W.heap.size+1,2,none⟩=some (.int .i64 (i:Int)):=kB.cell 2;go_upto_region 1 with fail
 rw[<-a];have m:Hid (∃q os',b=Go.Sort.grow (W.drewN q) os'):=⟨0,_,by rw[a,Go.Sort.alloc_eq_grow,Go.Sort.alloc_eq_grow,Go.Sort.grow_grow];rfl⟩;clear a kA kB
 go_region_held3 (fun w'=>w'.cell? ⟨W.heap.size,0,none⟩=some (.int .i64 (c:Int))/\w'.cell? ⟨W.heap.size,1,none⟩=some (.int .i64 (j:Int))/\w'.cell? ⟨W.heap.size,2,none⟩=some (.int .i64 (f:Int))/\w'.cell? ⟨W.heap.size+1,0,none⟩=some (.int .i64 (d:Int))/\w'.cell? ⟨W.heap.size+1,1,none⟩=some (.int .i64 (g:Int))/\w'.cell? ⟨W.heap.size+1,2,none⟩=some (.int .i64 (i:Int))) (go_keep) (first
  | (go_at_call 147;refine(amq _ _ _).mono ?_;rintro e w'⟨rfl,k⟩;obtain rfl:=k.symm)
  | (go_at_call 146;refine(am5 (p8 (c:Int) (d:Int)) (p8 (j:Int) (g:Int)) (p8 (f:Int) (i:Int)) _ _ (by simp) (by simp) (by simp)).mono ?_;rintro e w'⟨rfl,k⟩;obtain rfl:=k.symm))
 all_goals
  go_wp2_with fail;go_ret;obtain⟨q,os',l⟩:=m.out;refine⟨rfl,q+1,os'++#[.cells #[.int .i64 (p8 (c:Int) (d:Int)),.int .i64 (p8 (j:Int) (g:Int)),.int .i64 (p8 (f:Int) (i:Int))] 3],?_⟩;rw[l,<-Go.Sort.grow_grow,<-Go.Sort.alloc_eq_grow];rfl
theorem ak0(a:Value)(w:World):Calls prog 182 #[.slice none 0 0,.int .i64 0,.int .i64 0,a] w fun e w'=>e=.returned (.tuple #[])/\w'=w:=by
 go_enter func182,ntmps182;go_wp2_with fail
 go_loopg [8] 0 (fun m i wr=>i=.int .i64 1/\wr=w)
 case atStart=>exact⟨rfl,rfl⟩
 case round=>
  obtain⟨rfl,rfl⟩:=hrel;go_wp2_with fail
  go_end0
  exact⟨rfl,rfl⟩
theorem ak1(a:Value)(l:Int)(w:World):Calls prog 171 #[.slice none 0 0,.int .i64 0,.int .i64 0,.int .i64 l,a] w fun e w'=>e=.returned (.tuple #[])/\w'=w:=by
 go_enter func171,ntmps171;go_wp2_with fail;refine wp_loop_rounds 1 ?_;rw[rounds_succ]
 go_wp2_with (go_at_call 182;refine(ak0 _ _).mono ?_;rintro e w'⟨rfl,b⟩;obtain rfl:=b.symm)
 (try simp only[Exit.inBlock,Exit.then]);refine fy (py rfl _ _ _) rfl ?_
 exact⟨rfl,rfl⟩
theorem ajo(b:Value)(w:World):Calls prog 144 #[.slice none 0 0,b] w fun e w'=>e=.returned (.tuple #[])/\w'=w:=by
 have c:∀W,Calls prog 172 #[.int .u64 0] W fun e w'=>e=.returned (.int .i64 (Lib.bitLen 0:Nat))/\w'=W:=fun W=>Any.bits_Len (SlLaysF0.n15.bits (P:=prog) (ρ:=Tryz.ZL) { Tryz.adB with }) 0 W (by omega) (by omega)
 go_enter func144,ntmps144
 go_wp2_with (first|(go_at_call 172;refine(c _).mono ?_;rintro e w'⟨rfl,a⟩;obtain rfl:=a.symm)|(go_at_call 171;refine(ak1 _ _ _).mono ?_;rintro e w'⟨rfl,a⟩;obtain rfl:=a.symm))
 go_end0
 exact⟨rfl,rfl⟩
theorem Hu:uR fU 3:=⟨fun _=>rfl,fun s u a=>by simp only[fU,List.mem_cons,List.not_mem_nil,or_false]at a;rcases a with rfl|rfl|rfl <;> rfl⟩
theorem Tn{a b:Int}:p8 a b<0↔a<b:=by
 unfold p8
 split
 ·simp[*]
 ·split
  ·simp[*]
  ·simp[*]
theorem MN{a b:Int}:p8 a b=0↔a=b:=by
 unfold p8
 split
 ·simp;omega
 ·split
  ·simp;omega
  ·simp;omega
theorem amr{x y:Nat×au}:zl x y<0↔pF x y:=by
 unfold zl yH pF gV
 by_cases h1:p8 (x.1:Int) (y.1:Int)=0
 ·rw[dj h1]
  have a:=MN.1 h1
  by_cases h2:p8 (x.2.1:Int) (y.2.1:Int)=0
  ·rw[dj h2,Tn]
   have b:=MN.1 h2;omega
  ·rw[dt h2,Tn]
   have b:¬(x.2.1:Int)=(y.2.1:Int):=fun e=>h2 (MN.2 e)
   omega
 ·rw[dt h1,Tn]
  have a:¬(x.1:Int)=(y.1:Int):=fun e=>h1 (MN.2 e)
  omega
theorem Ql(x y:Nat×au):ltOf zl x y=true↔pF x y:=by
 unfold ltOf;simp only[decide_eq_true_eq];exact amr
theorem Jm(x y:Nat×au):ltOf zl x y=false↔¬pF x y:=by rw[<-Ql,oY]
theorem aoz:Go.Sort.SWO (ltOf zl) where
 irrefl x:=(Jm _ _).2 (by unfold pF gV;omega)
 trans x y z h1 h2:=(Ql _ _).2 (by have:=(Ql _ _).1 h1;have:=(Ql _ _).1 h2;unfold pF gV at *;omega)
 ntrans x y z h1 h2:=(Jm _ _).2 (by have:=(Jm _ _).1 h1;have:=(Jm _ _).1 h2;unfold pF gV at *;omega)
theorem ZO{α:Type}[Inhabited α]{enc:α->List Value}{k:Nat}(hE:uR enc k)(hk:0<k)(M:List α):(Go.Sort.flatK enc k M.toArray).toList=M.flatMap enc:=by
 apply oy;intro t
 by_cases ht:t<M.length*k
 ·have hd:t / k<M.length:=(Nat.div_lt_iff_lt_mul hk).2 ht
  have d:t % k<k:=tU _ hk;have e:t=t / k*k+t % k:=by rw[yv];exact(Nat.div_add_mod t k).symm
  have h1:(M.flatMap enc)[t]?=(enc M[t / k])[t % k]?:=by
   conv=>lhs;rw[e]
   exact hE.UW hd d
  have b:t % k<(enc M[t / k]).length:=by rw[hE.len];exact d
  have c:(Go.Sort.flatK enc k M.toArray).size=M.length*k:=by simp[Go.Sort.flatK]
  have a:t<(Go.Sort.flatK enc k M.toArray).size:=by rw[c];exact ht
  rw[h1,cF b,gh,kk a];have h2:=Go.Sort.get_flatK enc k M.toArray t (by simpa using ht);rw[rg _ t a,rg M.toArray (t / k) (by simpa using hd)]at h2;simp only[List.getElem_toArray]at h2;rw[rg (enc M[t / k]) (t % k) b]at h2;rw[h2]
 ·have c:(Go.Sort.flatK enc k M.toArray).toList.length=M.length*k:=by rw[lj];simp[Go.Sort.flatK]
  have f:=hE.J8 M;rw[ju (l:=(Go.Sort.flatK enc k M.toArray).toList) (by omega),ju (l:=M.flatMap enc) (by omega)]
theorem ajp{B:Nat}{w:World}{g d:Nat}{M:List (Nat×au)}(h:aQ 238 3 fU B w (.slice (some ⟨g,0,none⟩) M.length d) M):Go.Sort.HoldsK fU 3 w g 0 M.toArray:=by
 have l:=mz h (g:=g) rfl;have m:=ZO Hu (by decide) M;intro j f;have c:(M.flatMap fU)[j]?=some (Go.Sort.flatK fU 3 M.toArray)[j]!:=by
  rw[<-m,gh,kk f,rg _ j f]
 refine⟨?_,?_⟩
 ·have:=l j _ c
  rw[show (⟨g,0,none⟩:Addr).add j=⟨g,0+j,none⟩ by unfold Addr.add;split <;> simp_all]at this;exact this
 ·rcases h.2 with ⟨a,-⟩ | ⟨n,i,b,a,-,k,-⟩
  ·cases a
  ·cases a
   exact aj.frozen (cs:=b) (e:=238) k _
theorem ajq{a:List (Nat×au)}(f:a.Nodup)(h:Go.Sort.SortedIn (ltOf zl) 0 a.length a.toArray):a.Pairwise pF:=by
 rw[me];intro i j d c b;have h1:=h i j (ff _) b c;rw[rg a.toArray j (by simpa using c),rg a.toArray i (by simpa using d)]at h1;simp only[List.getElem_toArray]at h1;have h2:=(Jm _ _).1 h1;have h3:a[i]≠a[j]:=fun e=>absurd ((lP f).1 e) (by omega)
 generalize a[i]=x at h2 h3;generalize a[j]=y at h2 h3;have h4:¬(x.1=y.1/\x.2.1=y.2.1/\x.2.2=y.2.2):=fun e=>h3 (qu e.1 (qu e.2.1 e.2.2))
 unfold pF gV at *;omega
theorem heap_put{w:World}{g n:Nat}{d:Array (Nat×au)}{os:Array Obj}{cur:Array Value}(f:w.heap[g]?=some (.cells cur 238 (0,0))):(sortWorldK fU 3 w g 0 n d os).heap[g]?=some (.cells (Go.Sort.putCells id 0 (Go.Sort.flatK fU 3 d) cur) 238 (0,0))/\(∀b,b<w.heap.size->b≠g->(sortWorldK fU 3 w g 0 n d os).heap[b]?=w.heap[b]?)/\w.heap.size<=(sortWorldK fU 3 w g 0 n d os).heap.size:=by
 have a:=(ek.1 f).1;unfold sortWorldK Go.Sort.putRowK Go.Sort.putRow Go.Sort.mapBlock Go.Sort.ahead Go.Sort.grow;simp only;refine⟨?_,fun b i c=>?_,?_⟩
 ·rw[pT (by simpa using a),n8,dj rfl,f]
  rfl
 ·rw[pT (by simpa using i),n8,dt (fun e=>c e.symm)]
 ·simp
theorem afO{F cur:Array Value}(h:F.size<=cur.size):(Go.Sort.putCells id 0 F cur).toList.take F.size=F.toList/\(Go.Sort.putCells id 0 F cur).size=cur.size:=by
 refine⟨?_,by simp[Go.Sort.putCells]⟩;apply ms
 ·simp[Go.Sort.putCells];omega
 ·intro i h1 h2
  have a:i<F.size:=by simpa using h2
  simp only[List.getElem_take,Array.getElem_toList,Go.Sort.putCells,Array.getElem_mapIdx];rw[dj ⟨ff _,by omega⟩,Nat.sub_zero,rg F i a];rfl
theorem ak2{B:Nat}{w:World}{v:Value}{M:List (Nat×au)}(h:aQ 238 3 fU B w v M)(T:M.length<=1000000)(s:M.Nodup):Calls prog 144 #[v,.func (.func 145) #[] #[]] w fun e w'=>e=.returned (.tuple #[])/\∃M':List (Nat×au),M'.Perm M/\M'.Pairwise pF/\aQ 238 3 fU B w' v M'/\Below B w w':=by
 have A:=h;unfold aQ at A;rcases A.2 with ⟨rfl,i⟩|⟨g,q,cur,rfl,r,z,l,t,j,L⟩
 ·obtain rfl:M=[]:=gz i
  refine(ajo _ w).mono ?_;rintro e w'⟨rfl,rfl⟩;exact⟨rfl,[],.refl _,.nil,h,cV _ _⟩
 ·have R:∀args w,(callFunc 145 args).run prog w=.ok (.enter 145 args) w:=enters_of func145 (by kernel_rfl) rfl
  have J:=ajp h;have u:=(ek.1 z).1;have k:CmpLays prog 145 #[] fU 3 zl g 0 M.toArray.size w:=fun _ _ _ _ x y=>ajn x y _
  have p:=AnyQ.slices_SortFunc Tryz.adB 3 Tryz.isAgg238 Tryz.sizeOf238 fU (fun _=>rfl) Hu.one zl aoz 145 #[] g 0 q M.toArray w R k J u (by simp;omega);refine Calls.mono p ?_;rintro e w'⟨rfl,a,n,os,O,Q,rfl⟩;obtain⟨C,-,D⟩:=O;have hsz:a.size=M.length:=by simpa using C
  have c:a.toList.Perm M:=by
   have E:a.extract 0 M.toArray.size=a:=by rw[<-C];simp
   have H:M.toArray.extract 0 M.toArray.size=M.toArray:=by simp
   rw[E,H]at D;exact D
  obtain⟨K,I,N⟩:=heap_put (n:=n) (d:=a) (os:=os) z;have o:(Go.Sort.flatK fU 3 a).toList=a.toList.flatMap fU:=by
   have:=ZO Hu (by decide) a.toList;simpa using this
  have m:(Go.Sort.flatK fU 3 a).size=M.length*3:=by rw[<-lj,o,Hu.J8,lj,hsz]
  obtain⟨G,P⟩:=afO (F:=Go.Sort.flatK fU 3 a) (cur:=cur) (by rw[m,j];exact jj 3 l);refine⟨rfl,a.toList,c,ajq (c.nodup_iff.2 s) ?_,?_,?_⟩
  ·rw[lj,hsz]
   simpa using Q
  ·have f:a.toList.length=M.length:=by rw[lj,hsz]
   refine⟨Hu.J8 _,.inr ⟨g,q,_,by rw[f],r,K,by rw[f];exact l,t,by rw[P];exact j,?_⟩⟩;rw[f,<-m,G,o]
  ·exact⟨rfl,rfl,rfl,N,fun b S=>I b (by omega) (by omega)⟩
namespace Lx
structure jf(P:List Pd)(i n:Nat)(S:bF):Prop where
 nd:S.ks.Nodup
 zero:S.ks[0]?=some [(0,0)]
 kn:∀(j:Nat),j<S.ks.length->0<j->∃f m,f<j/\(f,m,j)∈S.es
 es:∀e∈S.es,(e.1<i\/(e.1=i/\e.2.1<n))/\0<e.2.2/\∃K,S.ks[e.1]?=some K/\S.ks[e.2.2]?=some (jk P K e.2.1)/\jk P K e.2.1≠[]
 pw:S.es.Pairwise fun a b=>a.1<b.1\/(a.1=b.1/\a.2.1<b.2.1)
 all:∀(j:Nat)(K:List au)(m:Nat),S.ks[j]?=some K->(j<i\/(j=i/\m<n))->jk P K m≠[]->∃t,(j,m,t)∈S.es
 rise:∀(j:Nat)(K:List au),S.ks[j]?=some K->K.Pairwise gV
theorem ams{P:List Pd}{K:List au}{n:Nat}{s:au}(h:s∈jk P K n):0<s.2:=by
 obtain⟨t,-,-,rfl⟩:=DK.1 h;exact Nat.succ_pos _
theorem adD{l:List (List au)}{k:List au}(h:jl l k<l.length):l[jl l k]?=some k:=by
 unfold jl at *;rw[cF h];have:=pS (w:=h);simpa using this
theorem adE{l:List (List au)}{k:List au}(h:¬jl l k<l.length):k∉l:=by
 intro a;apply h;unfold jl;rw[zg];exact⟨k,a,by simp⟩
theorem jf.first(P:List Pd):jf P 0 0 ⟨[[(0,0)]],[]⟩:=by
 refine⟨by simp,rfl,fun j h1 h2=>?_,(fun e a=>by cases a),oE,(fun j K m _ h=>by omega),fun j K h=>?_⟩
 ·simp at h1;omega
 ·cases j with
  |zero=>cases h;simp
  |succ j=>simp at h
theorem jf.mono{P:List Pd}{i n:Nat}{S:bF}(h:jf P i n S){K:List au}(c:S.ks[i]?=some K)(b:jk P K n=[]):jf P i (n+1) S:=by
 refine⟨h.nd,h.zero,h.kn,fun e h1=>?_,h.pw,fun j a m h1 h2 h3=>?_,h.rise⟩
 ·obtain⟨h2,h3⟩:=h.es e h1
  exact⟨by omega,h3⟩
 ·by_cases e:j=i/\m=n
  ·obtain⟨rfl,rfl⟩:=e
   rw[c]at h1;cases h1;exact absurd b h3
  ·exact h.all j a m h1 (by omega) h3
theorem jf.edge{P:List Pd}{i n:Nat}{S:bF}(h:jf P i n S){K:List au}(u:S.ks[i]?=some K):jf P i (n+1) (edge P i K S n):=by
 unfold Lx.edge
 by_cases he:jk P K n=[]
 ·rw[dj he];exact h.mono u he
 ·rw[dt he]
  have F:=(cG.1 u).1;have q:∀t:Nat,(S.es++[(i,n,t)]).Pairwise fun(a b:Lj)=>a.1<b.1\/(a.1=b.1/\a.2.1<b.2.1):=fun t=>by
   rw[pj];refine⟨h.pw,by simp,fun a v b p=>?_⟩;rw[cN]at p;subst p;have:=(h.es a v).1;simp only;omega
  have A:jk P K n≠[(0,0)]:=fun e=>by
   have:=ams (P:=P) (K:=K) (n:=n) (s:=(0,0)) (by rw[e];simp);exact absurd this (by simp)
  by_cases hx:jl S.ks (jk P K n)<S.ks.length
  ·rw[dj hx]
   have k:=adD hx;refine⟨h.nd,h.zero,fun j h1 h2=>?_,fun e o=>?_,q _,fun j c m h1 h2 h3=>?_,h.rise⟩
   ·obtain⟨f,m,z,h3⟩:=h.kn j h1 h2
    exact⟨f,m,z,cY.2 (.inl h3)⟩
   ·rcases cY.1 o with h1 | h1
    ·obtain⟨h2,h3⟩:=h.es e h1
     exact⟨by omega,h3⟩
    ·rw[cN]at h1
     subst h1;refine⟨.inr ⟨rfl,rL _⟩,?_,K,u,k,he⟩;apply Nat.pos_of_ne_zero;intro C;have x:jl S.ks (jk P K n)=0:=C;rw[x,h.zero]at k;exact A (ie k).symm
   ·by_cases e:j=i/\m=n
    ·obtain⟨rfl,rfl⟩:=e
     exact⟨_,cY.2 (.inr ed)⟩
    ·obtain⟨t,y⟩:=h.all j c m h1 (by omega) h3
     exact⟨t,cY.2 (.inl y)⟩
  ·rw[dt hx]
   have r:=adE hx;have g:∀{j:Nat}{c:List au},S.ks[j]?=some c->(S.ks++[jk P K n])[j]?=some c:=fun{j c}h1=>by
    rw[eL (cG.1 h1).1];exact h1
   have d:∀{j:Nat}{c:List au},(S.ks++[jk P K n])[j]?=some c->S.ks[j]?=some c\/(j=S.ks.length/\c=jk P K n):=fun{j c}h1=>by
    rw[ir]at h1
    split at h1
    ·exact .inl h1
    ·rename_i D
     have G:j=S.ks.length:=by
      have:=(cG.1 h1).1;simp at this;omega
     subst G;simp at h1;exact .inr ⟨rfl,h1.symm⟩
   have l:(S.ks++[jk P K n])[S.ks.length]?=some (jk P K n):=by simp
   refine⟨?_,g h.zero,fun j h1 h2=>?_,fun e o=>?_,q _,fun j c m h1 h2 h3=>?_,fun j c h1=>?_⟩
   ·rw[ip]
    refine⟨h.nd,by simp,fun a v b p e=>?_⟩;rw[cN]at p;subst p;exact r (e▸v)
   ·simp only[List.length_append,List.length_cons,List.length_nil]at h1
    by_cases e:j=S.ks.length
    ·subst e
     exact⟨i,n,F,cY.2 (.inr ed)⟩
    ·obtain⟨f,m,z,h3⟩:=h.kn j (by omega) h2
     exact⟨f,m,z,cY.2 (.inl h3)⟩
   ·rcases cY.1 o with h1 | h1
    ·obtain⟨h2,h3,c,h4,B,E⟩:=h.es e h1
     exact⟨by omega,h3,c,g h4,g B,E⟩
    ·rw[cN]at h1
     subst h1;exact⟨.inr ⟨rfl,rL _⟩,by show 0<S.ks.length;omega,K,g u,l,he⟩
   ·rcases d h1 with h1 | ⟨rfl,-⟩
    ·by_cases e:j=i/\m=n
     ·obtain⟨rfl,rfl⟩:=e
      exact⟨_,cY.2 (.inr ed)⟩
     ·obtain⟨t,y⟩:=h.all j c m h1 (by omega) h3
      exact⟨t,cY.2 (.inl y)⟩
    ·omega
   ·rcases d h1 with h1 | ⟨-,rfl⟩
    ·exact h.rise j c h1
    ·exact ads _ _ _
theorem jf.leave{P:List Pd}{i:Nat}{K:List au}:∀(q n:Nat)(S:bF),jf P i n S->S.ks[i]?=some K->jf P i (n+q) (leave P i K S (List.range' n q))/\(leave P i K S (List.range' n q)).ks[i]?=some K
 |0,n,S,h,hK=>⟨h,hK⟩
 |q+1,n,S,h,hK=>by
  rw[List.range'_succ];have:=jf.leave q (n+1) (Lx.edge P i K S n) (h.edge hK) (acF hK);rw[show n+1+q=n+(q+1) by omega]at this;exact this
theorem jf.next{P:List Pd}{sz st i:Nat}{S:bF}(b:nV P sz st)(h:jf P i sz S):jf P (i+1) 0 S:=by
 refine⟨h.nd,h.zero,h.kn,fun e h1=>?_,h.pw,fun j c m h1 h2 h3=>?_,h.rise⟩
 ·obtain⟨h2,h3⟩:=h.es e h1
  exact⟨by omega,h3⟩
 ·refine h.all j c m h1 ?_ h3
  by_cases e:j=i
  ·refine .inr ⟨e,?_⟩
   obtain⟨s,d⟩:=xx _ h3;obtain⟨t,-,a,-⟩:=DK.1 d;exact(ND b a).1
  ·omega
end Lx
theorem Tryz.amt:(prog.info? 238).map (fun i=>(i.zero,i.size,i.bytes))=some (some (.agg #[.int .i64 0,.int .i64 0,.int .i64 0]),3,24):=by kernel_rfl
theorem Tryz.afx:prog.underlying 235=some (.slice 238):=by kernel_rfl
namespace Lx
theorem amu{P:List Pd}{C:List au}{j n:Nat}(a:j<C.length)(h:dQ P C[j]=some n):lD P (C.take (j+1))=lD P (C.take j)++[(n,(C[j].1,C[j].2+1))]:=by
 rw[fh a];unfold lD;rw[zz];simp[h]
theorem am6{P:List Pd}{C:List au}{j:Nat}(a:j<C.length)(h:dQ P C[j]=none):lD P (C.take (j+1))=lD P (C.take j):=by
 rw[fh a];unfold lD;rw[zz];simp[h]
theorem acO(P:List Pd)(C:List au):(lD P C).length<=C.length:=List.length_filterMap_le _ _
theorem NP(P:List Pd)(K:List au):pK P K (jE P K):=by
 have:∀{l r:List au}{i:Nat},tY P l i r->pK P K l->pK P K r:=by
  intro l r i hd
  induction hd with
  |done _=>exact id
  |step _ _ ih=>exact fun a=>ih (a.add _)
 exact this (TI P K) (pK.refl P K)
theorem ajr{P:List Pd}{K:List au}(g:K.Nodup):(jE P K).Nodup:=by
 obtain⟨Z,f,i,hd⟩:=NP P K;rw[f,ip];exact⟨g,i,fun a d b c e=>(hd b c).2.2 (e▸d)⟩
theorem ajs{P:List Pd}{C:List au}(h:C.Nodup):(lD P C).Nodup:=by
 unfold lD;rw[List.Nodup,List.pairwise_filterMap];refine h.imp fun{a b}c x d y f e=>c ?_
 obtain⟨n,-,rfl⟩:=m8.1 d;obtain⟨m,-,rfl⟩:=m8.1 f;simp only[Prod.mk.injEq]at e;exact qu e.2.1 (by omega)
theorem aib{K:List au}(h:K.Pairwise gV):K.Nodup:=h.imp fun{a b}c e=>by subst e;unfold gV at c;omega
end Lx
def anA(w:World)(P:List Lx.Pd)(K:List au)(e:Ending)(w':World):Prop:=∃v M,e=.returned v/\aQ 238 3 fU w.heap.size w' v M/\Below w.heap.size w w'/\M.Perm (lD P (jE P K))/\M.Pairwise pF
theorem aic{D:Nat->Prop}{w:World}{f:Nat}{ta na:Option Addr}{nT tc nN nc i st:Nat}{vP vB vQ vm vk ve vK:Value}{P:List Lx.Pd}{K:List au}{B0:Nat}(kF:aj w f #[.slice ta nT tc,.slice na nN nc,vP,vB,vQ,vm,vk,ve] 157)(hP:PP D w vP P)(hp:nV P (nT+nN) st)(hK:aQ 160 2 iI B0 w vK K)(y:sO P i K)(ad:K.length<=100000)(R:K.Pairwise gV):Calls prog 103 #[.pointer (some ⟨f,0,none⟩),vK] w (anA w P K):=by
 have q1:=agi kF hP hp hK y ad;obtain⟨pa,pc,rfl,-⟩:∃a c,vP=.slice a P.length c/\P.length<=maxLen:=by obtain⟨ps,h1,h2,-⟩:=hP;exact aC h2
 obtain⟨i1,am,af,ao,ab⟩:=ft Tryz.amt;have ae:=kF.lt;have S:=ajs (P:=P) (ajr (P:=P) (aib R));have az:=(NP P K).len;have aw:=hp.len;have l:∀s∈jE P K,s.1<P.length/\s.2<=(bM P s.1).length:=by
  intro s F;obtain⟨Z,hz,-,hd⟩:=NP P K;rw[hz]at F;rcases cY.1 F with F|F
  ·exact⟨(y.Bd s F).1,(y.Bd s F).2.1⟩
  ·exact⟨(hd s F).2.1,by rw[(hd s F).1];exact ff _⟩
 have HR:Hid (∀k,(bM P k).length<=2002):=acD hp;generalize hC:jE P K=C at *;have HC:Hid (jE P K=C):=hC;have HP:Hid (∀s∈C,s.1<P.length/\s.2<=(bM P s.1).length):=l;have Hw:Hid ((lD P C).Nodup):=S;clear hC l S hK y R hp;go_enter func103,ntmps103;go_upto_region 3 with (go_at_call 143;refine q1.mono ?_;rintro e w1⟨v1,rfl,q,p⟩;obtain⟨ca,cc,aa,-⟩:=aC q;subst aa)
 clear q1;have ah:=p.size
 go_loopg [5,13] C.length (fun m v iv wr=>∃j:Nat,j+m=C.length/\iv=.int .i64 (j:Int)/\aQ 238 3 fU w.heap.size wr v (lD P (C.take j))/\aQ 160 2 iI w.heap.size wr (.slice ca C.length cc) C/\Below w.heap.size w wr)
 case atStart=>exact⟨0,by omega,rfl,eQ _ _ _ _,q,p⟩
 case round=>
  clear q p ah;revert wr;intro z hrel;obtain⟨j,av,rfl,M,hL,L⟩:=hrel;have N:=acO P (C.take j);rw[j']at N;have hsz:=L.size
  by_cases hlt:j<C.length
  ·obtain⟨gL,a0,hv,-,ax,J⟩:=aQ.at Cn hL hlt
   cases hv;have c0:=J 0 _ (by decide) rfl;have c1:=J 1 _ (by decide) rfl;have l:=HP.out C[j] (du hlt);have U:Hid (∀n,dQ P C[j]=some n->lD P (C.take (j+1))=lD P (C.take j)++[(n,(C[j].1,C[j].2+1))]):=fun n h=>amu hlt h
   have Y:Hid (dQ P C[j]=none->lD P (C.take (j+1))=lD P (C.take j)):=am6 hlt;have o:dQ P C[j]=(bM P C[j].1)[C[j].2]?:=rfl;clear J;generalize C[j]=sp at c0 c1 l U Y o;obtain⟨g,d⟩:=sp;simp only[Nat.add_zero]at c0 c1 l o;have A:g<P.length:=l.1;have ap:d<=P[g].right.length:=by have:=l.2;rw[Jv A]at this;exact this
   have aq:P[g].right.length<=2002:=by have:=HR.out g;rw[Jv A]at this;exact this
   rw[Jv A]at o;clear l;generalize hX:lD P (C.take j)=X at M N U Y;clear hX;obtain⟨Q,mc,rfl,-⟩:∃a c,_=Value.slice a X.length c/\X.length<=maxLen:=aC M;obtain⟨x,B⟩:∃V,V=z.alloc (.cells #[.int .i64 (g:Int),.int .i64 (d:Int)] 160):=⟨_,rfl⟩;have p:Below z.heap.size z x:=by rw[B];exact(cV _ _).alloc (zL0) _
   have Hr:aj x z.heap.size #[.int .i64 (g:Int),.int .i64 (d:Int)] 160:=by rw[B];exact aj.new z _ 160
   have dY:Below w.heap.size w x:=L.trans (p.mono hsz);have s0:x.cell? ⟨z.heap.size,0,none⟩=some (.int .i64 (g:Int)):=Hr.cell 0;have s1:x.cell? ⟨z.heap.size,1,none⟩=some (.int .i64 (d:Int)):=Hr.cell 1;obtain⟨gP,a3,u,ai,hu,-,x1,-⟩:=(hP.below dY).at A;cases ai;obtain⟨ua,uc,rfl,-⟩:∃a c,u=Value.slice a P[g].right.length c/\P[g].right.length<=maxLen:=aC hu;generalize P[g].right=r at hu x1 ap aq o;have LM:aj x f _ 157:=(dY.block _ ae).trans kF;have d2:x.cell? ⟨f,2,none⟩=some (.slice (some ⟨gP,0,none⟩) P.length pc):=LM.cell 2;have i2:(0:Int)<=(j:Int):=by omega
   have i3:(j:Int)<(C.length:Int):=by omega
   have i4:(0:Int)<=(g:Int):=by omega
   have i5:(g:Int)<(P.length:Int):=by omega
   have T:aQ 238 3 fU w.heap.size x (.slice Q X.length mc) X:=M.below p;have q:aQ 160 2 iI w.heap.size x (.slice (some ⟨gL,0,none⟩) C.length cc) C:=hL.below p;go_upto_region 5 with fail
   rw[<-B];clear B c0 c1 M hL LM
   go_quiet (fail)
   obtain⟨t,E⟩:∃V,V=x.drewN nq:=⟨_,rfl⟩;have e0:t.cell? ⟨z.heap.size,0,none⟩=some (.int .i64 (g:Int)):=by rw[E];exact s0
   have e1:t.cell? ⟨z.heap.size,1,none⟩=some (.int .i64 (d:Int)):=by rw[E];exact s1
   have I:Below w.heap.size w t:=by rw[E];exact dY.trans ⟨rfl,rfl,rfl,zL0,fun _ _=>rfl⟩
   have xX:aQ 238 3 fU w.heap.size t (.slice Q X.length mc) X:=by rw[E];exact T
   have EW:aQ 160 2 iI w.heap.size t (.slice (some ⟨gL,0,none⟩) C.length cc) C:=by rw[E];exact q
   have Da:IR 0 t (.slice ua r.length uc) r:=by rw[E];exact hu
   rw[<-E];clear E s0 s1 T q hu x1 d2 Hr;have ar:=I.size
   by_cases hd:d<r.length
   ·obtain⟨gU,a1,ac,-,cU⟩:=Da.at hd
    cases ac;have HE:Hid (lD P (C.take (j+1))=X++[(r[d],(g,d+1))]):=U.out r[d] (by rw[o,cF hd]);generalize r[d]=n at cU HE;have i6:(d:Int)<(r.length:Int):=by omega
    have i7:(0:Int)<=(d:Int):=by omega
    have a2:IntKind.i64.wrap ((d:Int)+1)=(d:Int)+1:=by rw[iz];omega
    have Qm:aQ 238 3 fU w.heap.size (t.alloc (.cells #[.int .i64 (n:Int),.int .i64 (g:Int),.int .i64 ((d:Int)+1)] 238)).drew (.slice Q X.length mc) X:=aQ.below xX (((cV _ _).alloc (zL0) _).drew);clear U Y Da o;go_upto_region 7 with fail
    go_region_law (go_loud (refine step_append_lies _ rfl (.tmp 32) (.tmp 45) 235 rfl w.heap.size 238 i1 _ 3 24 Tryz.afx am af ao ab rfl (by decide) (.slice Q X.length mc) X.length (X.flatMap fU) (by simp[Act.eval]) Qm ⟨t.heap.size,0,none⟩ 1 1 [.int .i64 (n:Int),.int .i64 (g:Int),.int .i64 ((d:Int)+1)] (by simp[Act.eval]) rfl (eO (aj.new t _ 238).drew) (by simp[Value.oneCell']) (by decide) (by unfold maxLen;omega) (by omega) (by simp;omega) _ rfl ?_;intro g5 W w5 G O jc JO))
    all_goals
     have Qm:aQ 238 3 fU w.heap.size (t.alloc (.cells #[.int .i64 (n:Int),.int .i64 (g:Int),.int .i64 ((d:Int)+1)] 238)).drew (.slice Q X.length mc) X:=aQ.below xX (((cV _ _).alloc (zL0) _).drew);have an:aQ 160 2 iI w.heap.size w5 (.slice (some ⟨gL,0,none⟩) C.length cc) C:=Fx (aQ.below EW (((cV _ _).alloc (zL0) (.cells #[.int .i64 (n:Int),.int .i64 (g:Int),.int .i64 ((d:Int)+1)] 238)).drew)) Qm (by decide) O;have ag:Below w.heap.size w w5:=I.trans ((((cV _ t).alloc ar _).drew).trans ⟨O.os,O.tape,O.output,O.size,fun b hb=>O.block b (by simp;omega) (fun e=>absurd (qt Qm b e.symm).1 (by omega))⟩);have dZ:aQ 238 3 fU w.heap.size w5 (.slice (some ⟨g5,0,none⟩) (X.length+1) W) (X++[(n,(g,d+1))]):=by
      have e:(X++[(n,(g,d+1))]).flatMap fU=X.flatMap fU++[.int .i64 (n:Int),.int .i64 (g:Int),.int .i64 ((d:Int)+1)]:=by simp[fU]
      unfold aQ;rw[e,cH];exact G
     go_wp2_with fail;go_roundg (C.length - (j+1))
     case measure=>omega
     case rel=>exact⟨j+1,by omega,by go_num,by rw[HE.out];exact dZ,an,ag⟩
   ·have HE:Hid (lD P (C.take (j+1))=X):=Y.out (by rw[o,ju (by omega)])
    have i6:¬(d:Int)<(r.length:Int):=by omega
    clear U Y Da o;go_wp2_with fail;go_roundg (C.length - (j+1))
    case measure=>omega
    case rel=>exact⟨j+1,by omega,by go_num,by rw[HE.out];exact xX,EW,I⟩
  ·obtain rfl:j=C.length:=by omega
   rw[fR]at M N;have q9:=ak2 M (by omega) Hw.out;have i3:¬(C.length:Int)<(C.length:Int):=by omega
   clear M
   go_wp2_with (go_at_call 144;refine q9.mono ?_;rintro e w9⟨rfl,M',H,ak,al,C9⟩)
   go_ret;exact⟨_,M',rfl,al,L.trans C9,by rw[HC.out];exact H,ak⟩
theorem Tryz.amv:(prog.info? 161).map (fun i=>(i.zero,i.size,i.bytes))=some (some (.slice none 0 0),1,24):=by kernel_rfl
theorem Tryz.afP:prog.underlying 92=some (.slice 161):=by kernel_rfl
theorem Tryz.amw:(prog.info? 173).map (fun i=>(i.zero,i.size,i.bytes))=some (some (.agg #[.int .i64 0,.int .i64 0,.int .i64 0]),3,24):=by kernel_rfl
theorem Tryz.afQ:prog.underlying 93=some (.slice 173):=by kernel_rfl
theorem FV{w w':World}{B e z:Nat}{v:Value}{n:Nat}{a:List Value}(h:w.ownsRow B e z v n a){b:Nat}(d:∀g,v.ownBlock=some g->g≠b)(f:∀g,g<w.heap.size->g≠b->w'.heap[g]?=w.heap[g]?):w'.ownsRow B e z v n a:=aD h fun g c=>f g (qt h g c).2 (d g c)
theorem Jo{w:World}{B e z:Nat}{v:Value}{n:Nat}{j:List Value}(h:w.ownsRow B e z v n j){b:Nat}{es:Array MapEntry}{c:Nat}(f:w.heap[b]?=some (.map es c)):∀g,v.ownBlock=some g->g≠b:=by
 intro g k i;obtain⟨d,a⟩:=gQ h k;rw[i,f]at a;cases a
theorem jA.but{S T B:Nat}{w w':World}{v:Value}{ks:List (List au)}(h:jA S T B w v ks){b:Nat}(a:∀(e:Nat)(z:Nat)(u:Value)(n:Nat)(xs:List Value),(e=S\/e=T)->w.ownsRow B e z u n xs->∀g,u.ownBlock=some g->g≠b)(c:∀g,g<w.heap.size->g≠b->w'.heap[g]?=w.heap[g]?):jA S T B w' v ks:=by
 obtain⟨xs,h1,h2,h3⟩:=h;exact⟨xs,h1,FV h2 (a S 1 v _ _ (.inl rfl) h2) c,fun x d=>FV (h3 x d) (a T 2 _ _ _ (.inr rfl) (h3 x d)) c⟩
def oh(wB w:World)(f mb:Nat)(vT vN vP vB vQ ve:Value)(S:bF):Prop:=∃vk,aj w f #[vT,vN,vP,vB,vQ,.map (some mb),vk,ve] 157/\lV w mb (S.ks.map qo)/\jA 161 160 wB.heap.size w vk S.ks/\aQ 173 3 vE wB.heap.size w ve S.es/\wB.heap.size<=f/\wB.heap.size<=mb/\Below wB.heap.size wB w
theorem oh.below{j w w':World}{f d:Nat}{i b vP vB k g:Value}{S:bF}(h:oh j w f d i b vP vB k g S)(a:Below w.heap.size w w'):oh j w' f d i b vP vB k g S:=by
 obtain⟨n,h1,h2,h3,h4,l,m,c⟩:=h;exact⟨n,(a.block _ h1.lt).trans h1,h2.move (a.block _ h2.lt),h3.below a,h4.below a,l,m,c.trans (a.mono c.size)⟩
def lJ(w w':World):Prop:=∀(g:Nat)(cs:Array Value),aj w g cs 238->aj w' g cs 238
theorem lJ.trans{a b c:World}(h:lJ a b)(k:lJ b c):lJ a c:=fun g d f=>k g d (h g d f)
theorem lJ.below{w w':World}(b:Below w.heap.size w w'):lJ w w':=fun g _ a=>(b.block g a.lt).trans a
theorem lJ.but{w w':World}{b:Nat}(d:∀g,g<w.heap.size->g≠b->w'.heap[g]?=w.heap[g]?)(c:∀cs,¬aj w b cs 238):lJ w w':=fun g cs a=>(d g a.lt (fun e=>c cs (e▸a))).trans a
theorem lJ.row{w w':World}(h:lJ w w'){B z:Nat}{v:Value}{n:Nat}{c:List Value}(b:w.ownsRow B 238 z v n c):w'.ownsRow B 238 z v n c:=aD b fun g f=>by
 obtain⟨a,d⟩:=gQ b f;exact(h g a d).trans d.symm
theorem oh.put{a w:World}{f b:Nat}{o m vP vB r x i k:Value}{ks:List (List au)}{es:List Lj}(c:aj w f #[o,m,vP,vB,r,.map (some b),x,k] 157)(l:lV w b (ks.map qo))(A:jA 161 160 a.heap.size w i ks)(q:aQ 173 3 vE a.heap.size w k es)(h1:a.heap.size<=f)(h2:a.heap.size<=b)(y:Below a.heap.size a w):oh a (w.setCell ⟨f,6,none⟩ i) f b o m vP vB r k ⟨ks,es⟩:=by
 have j:∀g,g<w.heap.size->g≠f->(w.setCell ⟨f,6,none⟩ i).heap[g]?=w.heap[g]?:=fun g _ B=>zS0 B
 have s:b≠f:=fun e=>by
  obtain⟨t,D,d,-⟩:=l;unfold aj at c;rw[e,c]at d;cases d
 refine⟨i,c.set 6 _,l.move (j b l.lt s),A.but (fun e z u n C v h=>own_ne h c (by rcases v with rfl | rfl <;> decide)) j,FV q (own_ne q c (by decide)) j,h1,h2,y.setCell (p:=⟨f,6,none⟩) h1 _⟩
def Lx.vI(ks:List (List au))(F:List au):List (List au):=if jl ks F<ks.length then ks else ks++[F]
def aoA(wB w:World)(f mb:Nat)(vT vN vP vB vQ ve:Value)(S:bF)(F:List au)(e:Ending)(w':World):Prop:=e=.returned (.int .i64 (jl S.ks F:Int))/\oh wB w' f mb vT vN vP vB vQ ve ⟨vI S.ks F,S.es⟩/\lJ w w'/\w.heap.size<=w'.heap.size
theorem Lx.acP{ks:List (List au)}{F:List au}(h:F∈ks):jl ks F<ks.length:=by
 unfold jl;rw[zg];exact⟨F,h,by simp⟩
theorem Lx.abJ{ks:List (List au)}{F:List au}(h:F∉ks):jl ks F=ks.length:=akL fun _ _ hx e=>h (e▸cJ hx)
theorem Lx.amx{ks:List (List au)}{F:List au}:qo F∈ks.map qo↔F∈ks:=by
 constructor
 ·intro h
  obtain⟨x,a,e⟩:=ee.1 h;rw[<-acL e];exact a
 ·exact fun h=>ee.2 ⟨F,h,rfl⟩
theorem Lx.ajt{ks:List (List au)}(h:ks.Nodup):(ks.map qo).Nodup:=by
 rw[List.Nodup,pC];exact h.imp fun{a b}c e=>c (acL e)
theorem ZP{k w:World}{f A:Nat}{vT vN vP vB vQ T vF:Value}{S:bF}{F:List au}(hf:oh k w f A vT vN vP vB vQ T S)(U:aQ 160 2 iI k.heap.size w vF F)(az:F≠[])(hl:F.length<=1000000)(hs:∀s∈F,s.1<=1000000/\s.2<=1000000)(ar:S.ks.Nodup)(a4:S.ks.length<=1000000)(ht:dM k):Calls prog 65 #[.pointer (some ⟨f,0,none⟩),vF] w (aoA k w f A vT vN vP vB vQ T S F):=by
 obtain⟨vk,kF,hm,hk,hE,Qo,P,E⟩:=hf;have af:dM w:=((Lib.tabBelow_of_tabIs ht).on E).here;have Z:=ah9 U az hl hs af;obtain⟨Y,V,rfl,-⟩:=hk.len;obtain⟨p,q,rfl,-⟩:∃a c,vF=.slice a F.length c/\F.length<=maxLen:=aC U;have o:F∈S.ks->∃i:Nat,jl S.ks F=i/\i<S.ks.length/\(S.ks.map qo)[i]?=some (qo F):=fun h=>⟨_,rfl,acP h,by rw[di,adD (acP h)];rfl⟩
 have I:=amx (ks:=S.ks) (F:=F);have Xb:=ajt ar;generalize htx:qo F=t at Z o I;have al:Hid (qo F=t):=htx;clear htx;go_enter func65,ntmps65;go_upto_region 2 with (go_at_call 102;refine Z.mono ?_;rintro e w1⟨rfl,d⟩)
 clear Z;have ao:=d.size;have B:aj w1 f _ 157:=(d.block _ kF.lt).trans kF;have r:=hm.move (d.block _ hm.lt);have d5:w1.cell? ⟨f,5,none⟩=some (.map (some A)):=B.cell 5;have d6:w1.cell? ⟨f,6,none⟩=some (.slice Y S.ks.length V):=B.cell 6
 by_cases hin:F∈S.ks
 ·obtain⟨i,D,aw,L⟩:=o hin
  have ah:=r.hit Xb L;have HI:Hid (jl S.ks F=i):=D;have HA:Hid (vI S.ks F=S.ks):=dj (by rw[D];exact aw);clear o I Xb D L hin d6;go_wp2_with fail;go_ret;exact⟨by rw[HI.out];rfl,by rw[HA.out];exact oh.below ⟨_,kF,hm,hk,hE,Qo,P,E⟩ d,lJ.below d,ao⟩
 ·have ah:=r.miss (fun h=>hin (I.1 h))
  obtain⟨w2,ap,J,l,ac⟩:=r.put (fun h=>hin (I.1 h));have HI:Hid (jl S.ks F=S.ks.length):=abJ hin;have HA:Hid (vI S.ks F=S.ks++[F]):=dt (by rw[abJ hin];omega);rw[dk]at ap;obtain⟨es,a6,m,-⟩:=id r;have j:∀g,g<w1.heap.size->g≠A->w2.heap[g]?=w1.heap[g]?:=fun g H hn=>l.block g H (fun e=>hn (by injection e))
  have ax:f≠A:=fun e=>by unfold aj at B;rw[e,m]at B;cases B
  have W:aj w2 f _ 157:=(j f B.lt ax).trans B;have av:jA 161 160 k.heap.size w2 (.slice Y S.ks.length V) S.ks:=(hk.below d).but (fun e z u n G _ h=>Jo h m) j;have aa:aQ 173 3 vE k.heap.size w2 T S.es:=FV (hE.below d) (Jo (hE.below d) m) j;have ab:aQ 160 2 iI k.heap.size w2 (.slice p F.length q) F:=FV (aQ.below U d) (Jo (aQ.below U d) m) j;have ae:lJ w w2:=(lJ.below d).trans (lJ.but j fun cs h=>by unfold aj at h;rw[m]at h;cases h);have am:Below k.heap.size k w2:=E.trans ((d.mono E.size).trans ⟨l.os,l.tape,l.output,l.size,fun b hb=>j b (by have:=E.size;omega) (by omega)⟩);have a2:w2.cell? ⟨f,6,none⟩=some (.slice Y S.ks.length V):=W.cell 6;have a7:w2.frozen? ⟨f,6,none⟩=false:=W.frozen 6;obtain⟨G,R,C,an⟩:=av;have O:G.length=S.ks.length:=by rw[<-R,dk]
  have Q:Hid (G.length=S.ks.length):=O;have a3:=E.size;have a8:w1.heap.size<=w2.heap.size:=by omega
  clear o I Xb hin l O j ac;go_upto_region 6 with fail
  go_wp2_with (at_builtin;go_loud (refine Nf Tryz.amv Tryz.afP rfl (by decide) adw rfl _ _ rfl k.heap.size (by simp;omega) _ G rfl (aQ.below C ((cV _ _).alloc (zL0) _)) ((p,F.length,q),F) _ 1 rfl (eO (aj.new _ _ 161)) (by have:=Q.out;unfold maxLen;omega) (by have:=Q.out;omega) ?_;intro v8 v Dc l7 K GN;have N:aj v f _ 157:=(W.alloc (.cells #[.slice p F.length q] 161)).grown K (fun e=>own_ne (aQ.below C ((cV _ _).alloc (zL0) (.cells #[.slice p F.length q] 161))) (W.alloc _) (by decide) f e.symm rfl);have a1:v.cell? ⟨f,6,none⟩=some (.slice Y S.ks.length V):=N.cell 6;have a5:v.frozen? ⟨f,6,none⟩=false:=N.frozen 6;obtain⟨ya,yc,M,-⟩:=aC Dc;rw[cH,gd]at M;subst M))
  go_ret;have X:=aQ.below C ((cV _ w2).alloc (zL0) (.cells #[.slice p F.length q] 161));have ak:jA 161 160 k.heap.size v (.slice ya (G.length+1) yc) (S.ks++[F]):=by
   rw[<-R];exact jA.push (x:=((p,F.length,q),F)) X (fun y hy=>aQ.below (an y hy) ((cV _ _).alloc (zL0) _)) (aQ.below ab ((cV _ _).alloc (zL0) _)) (by decide) K Dc
  have ad:aQ 173 3 vE k.heap.size v T S.es:=Fx (aQ.below aa ((cV _ w2).alloc (zL0) (.cells #[.slice p F.length q] 161))) X (by decide) K;have zH:=J.move (w':=w2.alloc (.cells #[.slice p F.length q] 161)) (dg _ _ _ J.lt);have ag:lV v A ((S.ks++[F]).map qo):=by
   rw[eJ,List.map_singleton,al.out];obtain⟨a0,U6,U7,-⟩:=id zH;exact zH.move (K.block A zH.lt (fun e=>Jo X U7 A e.symm rfl))
  have aq:lJ w v:=ae.trans ((lJ.below ((cV _ w2).alloc (zL0) (.cells #[.slice p F.length q] 161))).trans fun g cs H=>(K.block g H.lt (fun e=>own_ne X H (by decide) g e.symm rfl)).trans H);have ai:Below k.heap.size k v:=am.trans (((cV _ w2).alloc (by omega) _).trans l7);exact⟨by rw[HI.out];rfl,by rw[HA.out];exact oh.put N ag ak ad Qo P ai,aq.trans (lJ.but (b:=f) (fun g _ hn=>zS0 hn) (fun cs h=>by unfold aj at h N;rw[N]at h;cases h)),by have:=l7.size;simp at this|-;omega⟩
namespace Lx
theorem adF{n:Nat}:∀{T D:List (Nat×au)},(∀m∈T,m.1=n)->(∀m,D.head?=some m->m.1≠n)->(T++D).takeWhile (fun m=>decide (m.1=n))=T/\(T++D).dropWhile (fun m=>decide (m.1=n))=D
 | [],[],_,_=>⟨rfl,rfl⟩
 | [],d::D,_,h2=>by
  have:=h2 d rfl;simp[this]
 |t::T,D,h1,h2=>by
  obtain⟨b,c⟩:=adF (T:=T) (D:=D) (fun m a=>h1 m (ei _ a)) h2;have h3:=h1 t ed;simp only[List.cons_append];rw[ul,um];simp only[h3,decide_true,if_true];rw[b,c];exact⟨rfl,rfl⟩
theorem sK.step{i:Nat}{M:List (Nat×au)}{j q n:Nat}{S R:bF}(d:j<q)(k:q<=M.length)(b:∀m∈(M.drop j).take (q-j),m.1=n)(hd:∀m,M[q]?=some m->m.1≠n)(h:sK i (M.drop q) (JI i S n (((M.drop j).take (q-j)).map Prod.snd)) R):sK i (M.drop j) S R:=by
 have e:M.drop j=(M.drop j).take (q-j)++M.drop q:=by
  have:=mA (q-j) (M.drop j);rw[List.drop_drop,show j+(q-j)=q by omega]at this;exact this.symm
 cases hT:(M.drop j).take (q-j) with
 |nil=>
  have:=fb List.length hT;simp only[List.length_take,List.length_drop,List.length_nil]at this;omega
 |cons t T=>
  rw[hT]at e b h;have h3:=b t ed;obtain⟨c,f⟩:=adF (n:=n) (T:=T) (D:=M.drop q) (fun m a=>b m (ei _ a)) (fun m a=>hd m (by rw[List.head?_drop]at a;exact a));obtain⟨l,g⟩:=t;simp only at h3;subst h3;rw[e];simp only[List.cons_append];refine .aF ?_;rw[c,f];exact h
theorem ak3{i n:Nat}{S:bF}{F:List au}:JI i S n F=⟨vI S.ks F,S.es++[(i,n,jl S.ks F)]⟩:=by
 unfold JI vI
 by_cases h:jl S.ks F<S.ks.length
 ·rw[dj h,dj h]
 ·rw[dt h,dt h]
  have:jl S.ks F<=S.ks.length:=zj;have e:jl S.ks F=S.ks.length:=by omega
  rw[e]
theorem aie{ks:List (List au)}{F:List au}(h:ks.Nodup):(vI ks F).Nodup:=by
 unfold vI
 split
 ·exact h
 ·rename_i d
  rw[ip];refine⟨h,by simp,fun a f b c e=>?_⟩;rw[cN]at c;subst c;exact adE d (e▸f)
theorem ak4{ks:List (List au)}{F:List au}:(vI ks F).length<=ks.length+1:=by
 unfold vI
 split
 ·omega
 ·simp
end Lx
theorem oh.aoF{b w:World}{f c:Nat}{o m vP vB r k s a:Value}{ks:List (List au)}{es:List Lj}(d:aj w f #[o,m,vP,vB,r,.map (some c),k,s] 157)(l:lV w c (ks.map qo))(A:jA 161 160 b.heap.size w k ks)(q:aQ 173 3 vE b.heap.size w a es)(h1:b.heap.size<=f)(h2:b.heap.size<=c)(y:Below b.heap.size b w):oh b (w.setCell ⟨f,7,none⟩ a) f c o m vP vB r a ⟨ks,es⟩:=by
 have j:∀g,g<w.heap.size->g≠f->(w.setCell ⟨f,7,none⟩ a).heap[g]?=w.heap[g]?:=fun g _ B=>zS0 B
 have t:c≠f:=fun e=>by
  obtain⟨v,D,i,-⟩:=l;unfold aj at d;rw[e,d]at i;cases i
 refine⟨k,d.set 7 _,l.move (j c l.lt t),A.but (fun e z u n C x h=>own_ne h d (by rcases x with rfl | rfl <;> decide)) j,FV q (own_ne q d (by decide)) j,h1,h2,y.setCell (p:=⟨f,7,none⟩) h1 _⟩
def LvE(wB:World)(f mb:Nat)(vT vN vP vB vQ:Value)(R:bF)(e:Ending)(w':World):Prop:=e=.returned (.tuple #[])/\∃ve,oh wB w' f mb vT vN vP vB vQ ve R
theorem aaQ{M:List (Nat×au)}{j q:Nat}(a:j<=q)(b:q<M.length):(M.drop j).take (q+1-j)=(M.drop j).take (q-j)++[M[q]]:=by
  rw[show q+1-j=(q-j)+1 by omega,fh (by rw[pn];omega)];congr 2;rw[List.getElem_drop];congr 1;omega
theorem aju{D:Nat->Prop}{o w:World}{f G:Nat}{ta na:Option Addr}{nT tc nN nc i st:Nat}{vP vB vQ ak:Value}{P:List Lx.Pd}{K:List au}{S:bF}(C:oh o w f G (.slice ta nT tc) (.slice na nN nc) vP vB vQ ak S)(Xc:PP D o vP P)(u:nV P (nT+nN) st)(hK:S.ks[i]?=some K)(ag:sO P i K)(a9:K.length<=100000)(aw:K.Pairwise gV)(A:S.ks.Nodup)(ar:S.ks.length<=300)(al:S.es.length<=40000000)(ht:dM o):Calls prog 66 #[.pointer (some ⟨f,0,none⟩),.int .i64 (i:Int)] w (LvE o f G (.slice ta nT tc) (.slice na nN nc) vP vB vQ (Lx.leave P i K S (List.range (nT+nN)))):=by
  have b9:=(NP P K).len;have b7:=acO P (jE P K);have bx:=u.len;have b2:i<S.ks.length:=(cG.1 hK).1;have Xd:Hid (∀m∈lD P (jE P K),m.1<nT+nN/\m.2.1<=1000000/\m.2.2<=1000000):=by
    intro m j;obtain⟨s,-,h1,h2⟩:=NC.1 j;have h3:=ND u h1;have h4:=TK h1;have h5:=acD u s.1;rw[h2];exact⟨h3.1,by simp only;omega,by simp only;omega⟩
  obtain⟨vk,kF,j,hk,hE,Qo,bU,qd⟩:=id C;obtain⟨gk,aH,ka,kc,bu,b4,ck,rk⟩:=hk.at hK;subst bu;have q0:=aic kF (Xc.below qd) u rk ag a9 aw;have d6:w.cell? ⟨f,6,none⟩=some (.slice (some ⟨gk,0,none⟩) S.ks.length aH):=kF.cell 6;have i1:(0:Int)<=(i:Int):=by omega
  have i2:(i:Int)<(S.ks.length:Int):=by omega
  have Xe:Hid (∀(M:List (Nat×au))(R:bF),M.Perm (lD P (jE P K))->M.Pairwise pF->sK i M S R->R=Lx.leave P i K S (List.range (nT+nN))):=by
    intro M R h1 h2 h3;have:=h3.leave (P:=P) (K:=K) (sz:=nT+nN) 0 (ff _) h2 (fun m=>by rw[h1.mem_iff];simp) (fun m j=>(Xd.out m (h1.mem_iff.1 j)).1);rw[this,Nat.sub_zero,<-List.range_eq_range']
  generalize Lx.leave P i K S (List.range (nT+nN))=RR at Xe|-;clear kF j hk hE rk u ag aw hK;go_enter func66,ntmps66;go_upto_region 1 with (go_at_call 103;refine q0.mono ?_;rintro e w1⟨v1,M,rfl,a0,Y,E,a1⟩)
  clear q0 d6 ck;have ae:oh o w1 f G _ _ _ _ _ _ S:=C.below Y;have aF:=qd.size;have bp:=Y.size;have H:aQ 238 3 fU o.heap.size w1 v1 M:=jb a0 aF;obtain⟨U,mc,g,bo,V,bs⟩:∃U mc g,v1=.slice U M.length mc/\(0<M.length->U=some ⟨g,0,none⟩)/\M.length<=mc:=by
    rcases H.2 with ⟨hv,h0⟩|⟨g,bl,b6,hv,-,-,hc,-⟩
    · exact⟨none,0,0,by rw[hv,h0],fun h=>by omega,by omega⟩
    · exact⟨_,bl,g,hv,fun _=>rfl,hc⟩
  subst bo;have bT:M.length<=200000:=by have:=E.length_eq;omega
  have ax:Hid (∀R,sK i M S R->R=RR):=fun R h=>Xe.out M R E a1 h
  have bh:Hid (∀m∈M,m.1<nT+nN/\m.2.1<=1000000/\m.2.2<=1000000):=fun m j=>Xd.out m (E.mem_iff.1 j)
  have a7:Hid (∀R,sK i (M.drop 0) S R->R=RR):=ax.out;clear Xe Xd E a1 a0 C ax;have az:0<M.length->U=some ⟨g,0*3,none⟩:=by simpa using V
  generalize Xf:Value.slice U M.length mc=vM at H|-;obtain⟨a5⟩:Nonempty (∃c,M.length<=c/\vM=.slice U M.length c):=⟨⟨mc,bs,Xf.symm⟩⟩;have U8:0<M.length->∃c,vM=.slice (some ⟨g,0,none⟩) M.length c:=fun h=>⟨mc,by rw[<-Xf,V h]⟩
  have b5:Hid (0<M.length->∃c,vM=.slice (some ⟨g,0,none⟩) M.length c):=U8;have Uh:Hid (∀(wx:World)(p:Nat)(u:p<M.length),aQ 238 3 fU o.heap.size wx vM M->wx.cell? ⟨g,p*3,none⟩=some (.int .i64 (M[p].1:Int))/\wx.cell? ⟨g,p*3+1,none⟩=some (.int .i64 (M[p].2.1:Int))/\wx.cell? ⟨g,p*3+2,none⟩=some (.int .i64 (M[p].2.2:Int))):=by
    intro wx p u hx;obtain⟨c,hc⟩:=U8 (by omega);obtain⟨g',bv,hv,-,-,X⟩:=aQ.at Hu hx u;rw[hc]at hv;cases hv;exact⟨X 0 _ (by decide) rfl,X 1 _ (by decide) rfl,X 2 _ (by decide) rfl⟩
  obtain⟨aI,bc,aG,bt,a8⟩:=ft Tryz.amw;clear Xf U8 V
  go_loopg [4] M.length (fun m v wr=>∃(q L c:Nat)(a:Option Addr)(d:bF)(ve:Value),q+L=M.length/\L=m/\v=.slice a L c/\L<=c/\(0<L->a=some ⟨g,q*3,none⟩)/\oh o wr f G (.slice ta nT tc) (.slice na nN nc) vP vB vQ ve d/\aQ 238 3 fU o.heap.size wr vM M/\d.ks.Nodup/\d.ks.length<=300+q/\d.es.length<=40000000+q/\Hid (∀R,sK i (M.drop q) d R->R=RR))
  case atStart=>
    obtain⟨c,hc,rfl⟩:=a5;exact⟨0,M.length,c,U,S,ak,by omega,rfl,rfl,hc,az,ae,H,A,by omega,by omega,a7⟩
  case round=>
    clear a5 az ae H A ar al a7 Y bp;revert wr;intro J hrel;obtain⟨q,L,c,a,d,ve,bN,rfl,rfl,bd,ha,C,hM,A,ar,al,HL⟩:=hrel
    by_cases hL0:0<L
    · obtain rfl:=ha hL0
      have hq:q<M.length:=by omega
      have Z:=Uh.out J q hq hM;obtain⟨n,hn⟩:∃n,n=M[q].1:=⟨_,rfl⟩;rw[<-hn]at Z;have c0:=Z.1;have i3:(0:Int)<(L:Int):=by omega
      have LQ:Hid (∀m∈(M.drop q).take (q-q),m.1=n):=fun m j=>by rw[ib,List.take_zero]at j;cases j
      have HN:Hid (n=M[q].1):=hn;have ah:aQ 160 2 iI J.heap.size J (.slice none 0 0) (((M.drop q).take (q-q)).map Prod.snd):=by rw[ib,List.take_zero];exact eQ _ _ _ _
      clear Z hn ha;go_wp2_with fail;clear c0
      go_loopg [4,6] L (fun m v kv k=>∃(p r c':Nat)(a':Option Addr),p+r=M.length/\r=m/\q<=p/\v=.slice a' r c'/\r<=c'/\(0<r->a'=some ⟨g,p*3,none⟩)/\aQ 160 2 iI J.heap.size k kv (((M.drop q).take (p-q)).map Prod.snd)/\Below J.heap.size J k/\Hid (∀m∈(M.drop q).take (p-q),m.1=n))
      case atStart=>exact⟨q,L,c,_,by omega,rfl,zL0,rfl,bd,fun _=>rfl,ah,cV _ _,LQ⟩
      case round=>
        clear LQ ah i3;revert wr;intro k hrel;obtain⟨p,r,c',a',a6,rfl,ac,rfl,ap,ab,z,x,HA⟩:=hrel;have Qp:=x.size;have Xg:aQ 238 3 fU o.heap.size k vM M:=hM.below x;obtain⟨F,hF⟩:∃F,F=((M.drop q).take (p-q)).map Prod.snd:=⟨_,rfl⟩;rw[<-hF]at z;have bR:F.length<=200000:=by rw[hF,dk,j',pn];omega
        have HF:Hid (F=((M.drop q).take (p-q)).map Prod.snd):=hF;clear hF;obtain⟨fa,fc,rfl,-⟩:∃a c,_=Value.slice a F.length c/\F.length<=maxLen:=aC z
        by_cases hgo:∃h:p<M.length,M[p].1=n
        · obtain⟨u,W⟩:=hgo
          obtain rfl:=ab (by omega);obtain⟨c0,c1,c2⟩:=Uh.out k p u Xg;have uh:Hid (((M.drop q).take (p+1-q)).map Prod.snd=F++[M[p].2]):=by show _=_;rw[aaQ ac u,eJ,HF.out];rfl
          have a3:Hid (∀m∈(M.drop q).take (p+1-q),m.1=n):=fun m j=>by
            rw[aaQ ac u]at j;rcases cY.1 j with j|j
            · exact HA.out m j
            · rw[cN]at j;rw[j];exact W
          rw[W]at c0;generalize M[p].2=sp at c1 c2 uh;obtain⟨sk,sd⟩:=sp;simp only at c1 c2;have i3:(0:Int)<(r:Int):=by omega
          have i4:(1:Int)<=(r:Int):=by omega
          clear W HA HN HL C;rcases Classical.em (c'=1) with am|am
          · subst am
            go_wp2_with (at_builtin;go_loud (refine Nf Tryz.NN Tryz.Io rfl (by decide) Cn rfl _ _ rfl J.heap.size (by simp;omega) _ F rfl (aQ.below z ((cV _ _).alloc (zL0) _)) (sk,sd) _ 1 rfl (eO (aj.new _ _ 160)) (by unfold maxLen;omega) (by omega) ?_;intro v8 w8 Dc l7 Bq GN))
            go_roundg (r - 1)
            case measure=>omega
            case rel=>exact⟨p+1,0,0,_,by omega,by omega,by omega,rfl,by omega,fun h=>by omega,by rw[uh.out];exact Dc,x.trans (((cV _ k).alloc (by omega) _).trans l7),a3⟩
          · go_wp2_with (at_builtin;go_loud (refine Nf Tryz.NN Tryz.Io rfl (by decide) Cn rfl _ _ rfl J.heap.size (by simp;omega) _ F rfl (aQ.below z ((cV _ _).alloc (zL0) _)) (sk,sd) _ 1 rfl (eO (aj.new _ _ 160)) (by unfold maxLen;omega) (by omega) ?_;intro v8 w8 Dc l7 Bq GN))
            go_roundg (r - 1)
            case measure=>omega
            case rel=>exact⟨p+1,r - 1,_,_,by omega,rfl,by omega,rfl,by omega,fun _=>by simp[Nat.succ_mul],by rw[uh.out];exact Dc,x.trans (((cV _ k).alloc (by omega) _).trans l7),a3⟩
        · have aE:q<p:=by
            apply kj;intro b0;have e:p=q:=by omega
            subst e;exact hgo ⟨hq,HN.out.symm⟩
          have Dg:∀m,M[p]?=some m->m.1≠n:=fun m j e=>by
            obtain⟨h1,h2⟩:=cG.1 j;exact hgo ⟨h1,by rw[h2];exact e⟩
          have aa:Hid (∀R,sK i (M.drop p) ⟨vI d.ks F,d.es++[(i,n,jl d.ks F)]⟩ R->R=RR):=fun R h=>HL.out R (sK.step aE (by omega) HA.out Dg (by rw[<-HF.out,ak3];exact h))
          have an:F≠[]:=fun e=>by
            have:=fb List.length (e.symm.trans HF.out);simp only[List.length_nil,List.length_map,List.length_take,List.length_drop]at this;omega
          have Eo:∀s∈F,s.1<=1000000/\s.2<=1000000:=fun s hs=>by
            rw[HF.out]at hs;obtain⟨m,j,rfl⟩:=ee.1 hs;exact(bh.out m (ui (sn j))).2
          have aq:oh o k.drew f G (.slice ta nT tc) (.slice na nN nc) vP vB vQ ve d:=(C.below x).below (w':=k.drew) ⟨rfl,rfl,rfl,zL0,fun _ _=>rfl⟩;obtain⟨vk,ai,-,-,a2,bi,br,bD⟩:=C.below x;obtain⟨ea,ec,rfl,-⟩:∃a c,ve=Value.slice a d.es.length c/\d.es.length<=maxLen:=aC a2;have qN:=ZP aq (jb (aQ.below z (w':=k.drew) ⟨rfl,rfl,rfl,zL0,fun _ _=>rfl⟩) (by have:=C.choose_spec.2.2.2.2.2.2.size;omega)) an (by omega) Eo A (by omega) ht;have d7:k.cell? ⟨f,7,none⟩=some (.slice ea d.es.length ec):=ai.cell 7;have bq:lJ k k.drew:=fun _ _ h=>h
          have U9:=aie (F:=F) A;have bj:=ak4 (ks:=d.ks) (F:=F);have bg:jl d.ks F<=d.ks.length:=zj;clear HA HN HL C an Eo aq ai a2 Dg;have Va:∀h:p<M.length,¬M[p].1=n:=fun h e=>hgo ⟨h,e⟩
          obtain⟨t,OL⟩:∃t,t=jl d.ks F:=⟨_,rfl⟩;obtain⟨l,OM⟩:∃l,l=vI d.ks F:=⟨_,rfl⟩;rw[<-OL,<-OM]at aa;rw[<-OL]at bg;rw[<-OM]at U9 bj;have bb:Calls prog 65 #[.pointer (some ⟨f,0,none⟩),.slice fa F.length fc] k.drew (fun e w'=>e=.returned (.int .i64 (t:Int))/\oh o w' f G (.slice ta nT tc) (.slice na nN nc) vP vB vQ (.slice ea d.es.length ec) ⟨l,d.es⟩/\lJ k.drew w'/\k.drew.heap.size<=w'.heap.size):=by rw[OL,OM];exact qN
          clear qN OL OM hgo;rcases Nat.eq_zero_or_pos r with T|T
          case' inl=>
            subst T;clear Va;go_upto_region 7 with fail
          case' inr=>
            obtain rfl:=ab T;have u:p<M.length:=by omega
            have c0:=(Uh.out k p u Xg).1;have ao:=Va u;clear Va;generalize M[p].1=n2 at c0 ao;have j1:((n2:Int) == (n:Int))=false:=zB0 (by omega);have j2:¬(n2:Int)=(n:Int):=by omega
            have j3:(0:Int)<(r:Int):=by omega
            go_upto_region 7 with fail
          all_goals
            go_region_law (first
              | (refine jW rfl 65 #[.pointer (some ⟨f,0,none⟩),.slice fa F.length fc] (by go_simp) bb ?_;rintro e O⟨rfl,aY,aA,bz⟩;obtain⟨aP,zV,Bf,ad,Hy,-,-,a4⟩:=aY;have bw:O.cell? ⟨f,7,none⟩=some (.slice ea d.es.length ec):=zV.cell 7;have N:=uB Hy (.cells #[.int .i64 (i:Int),.int .i64 (n:Int),.int .i64 (t:Int)] 173);have bf:=a4.size;have bH:(O.alloc (.cells #[.int .i64 (i:Int),.int .i64 (n:Int),.int .i64 (t:Int)] 173)).cell? ⟨f,7,none⟩=some (.slice ea d.es.length ec):=(zV.alloc _).cell 7;refine⟨_,rfl,?_⟩)
              | (refine step_append_lies _ rfl (.tmp 47) (.tmp 54) 93 rfl o.heap.size 173 aI _ 3 24 Tryz.afQ bc aG bt a8 rfl (by decide) (.slice ea d.es.length ec) d.es.length (d.es.flatMap vE) (by simp[Act.eval]) N ⟨O.heap.size,0,none⟩ 1 1 [.int .i64 (i:Int),.int .i64 (n:Int),.int .i64 (t:Int)] (by simp[Act.eval]) rfl (eO (aj.new O _ 173)) (by simp[Value.oneCell']) (by decide) (by unfold maxLen;omega) (by omega) (by simp;omega) _ rfl ?_;intro g5 Q I y B jc JO;have Br:aj I f _ 157:=(zV.alloc (.cells #[.int .i64 (i:Int),.int .i64 (n:Int),.int .i64 (t:Int)] 173)).grown B (fun e=>own_ne N (zV.alloc _) (by decide) f e.symm rfl);have b1:I.cell? ⟨f,7,none⟩=some (.slice ea d.es.length ec):=Br.cell 7;have b3:∀i,I.frozen? ⟨f,i,none⟩=false:=Br.frozen))
            all_goals
              have N:=uB Hy (.cells #[.int .i64 (i:Int),.int .i64 (n:Int),.int .i64 (t:Int)] 173);have fu:Below O.heap.size O (O.alloc (.cells #[.int .i64 (i:Int),.int .i64 (n:Int),.int .i64 (t:Int)] 173)):=(cV _ O).alloc (zL0) _;have nR:aQ 173 3 vE o.heap.size I (.slice (some ⟨g5,0,none⟩) (d.es.length+1) Q) (d.es++[(i,n,t)]):=by
                have e:(d.es++[(i,n,t)]).flatMap vE=d.es.flatMap vE++[.int .i64 (i:Int),.int .i64 (n:Int),.int .i64 (t:Int)]:=by simp[vE]
                unfold aQ;rw[e,cH];exact y
              have uG:jA 161 160 o.heap.size I aP l:=jA.grown (ad.below fu) N (by decide) (by decide) B;have zH:=Bf.move (fu.block _ Bf.lt);have Qq:lV I G (l.map qo):=by
                obtain⟨b8,U6,U7,-⟩:=id zH;exact zH.move (B.block G zH.lt (fun e=>Jo N U7 G e.symm rfl))
              have bm:Below o.heap.size o I:=a4.trans ((fu.mono bf).trans ⟨B.os,B.tape,B.output,B.size,fun b hb=>B.block b (by simp;omega) (fun e=>absurd (qt N b e.symm).1 (by omega))⟩);have LU:=oh.aoF Br Qq uG nR bi br bm;have ba:lJ k (I.setCell ⟨f,7,none⟩ (.slice (some ⟨g5,0,none⟩) (d.es.length+1) Q)):=(bq.trans aA).trans ((lJ.below fu).trans (lJ.trans (b:=I) (fun b cs V=>(B.block b V.lt (fun e=>own_ne N V (by decide) b e.symm rfl)).trans V) (lJ.but (b:=f) (fun b _ hn=>zS0 hn) (fun cs h=>by unfold aj at h Br;rw[Br]at h;cases h))));have dZ:=ba.row Xg;have av:(d.es++[(i,n,t)]).length<=40000000+p:=by rw[cH,gd];omega
              have af:l.length<=300+p:=by omega
              clear Br zV Bf ad Hy zH Qq uG nR B y N;go_wp2_with fail
              first
                | (go_roundg r
                   case measure=>omega
                   case rel=>exact⟨p,r,c',some ⟨g,p*3,none⟩,⟨l,d.es++[(i,n,t)]⟩,_,a6,rfl,rfl,ap,fun _=>rfl,LU,dZ,U9,af,av,aa⟩)
                | (go_roundg 0
                   case measure=>omega
                   case rel=>exact⟨p,0,c',a',⟨l,d.es++[(i,n,t)]⟩,_,a6,rfl,rfl,ap,ab,LU,dZ,U9,af,av,aa⟩)
    · obtain rfl:L=0:=by omega
      have HR:Hid (d=RR):=HL.out d (by rw[show M.drop q=[] from t7 (by omega)];exact .nil);clear HL ha;go_wp2_with fail
      go_end0
      exact⟨rfl,ve,by rw[<-HR.out];exact C⟩
theorem Lx.NQ{s:ByteArray}{g:Lx.Gr}(h:eY s=.ok g):Lx.parse s=.ok g/\(kV g).1=0/\(aJ g).length<=200:=by
 cases hp:Lx.parse s with
 |error e=>rw[SV hp]at h;cases h
 |ok g' =>
  by_cases hc:(kV g').1=0
  ·by_cases hm:200<(aJ g').length
   ·rw[Sq hp hc hm]at h;cases h
   ·rw[TJ hp hc hm]at h;cases h;exact⟨rfl,hc,by omega⟩
  ·rw[SX hp hc]at h;cases h
theorem acQ{s:ByteArray}{g:Lx.Gr}(w:World)(h:eY s=.ok g):Lx.Fit g:=by
 obtain⟨a,n,-⟩:=NQ h;have u:s.size<=maxLen:=by
  by_cases hl:2000<s.size
  ·unfold Lx.parse at a
   rw[dj hl]at a;cases a
  ·unfold maxLen
   omega
 obtain⟨e,w1,-,c,-⟩:=Z9 s w u [];obtain⟨h1,h2,h3⟩:=FC a;obtain⟨h4,q⟩:=Rh a;have f:=abx n;unfold wK at c;rw[a]at c;obtain⟨-,y,o,-,m⟩:=c;have t:lY (In w.heap.size w1.heap.size) w1 o g.rules:=⟨fun b p=>p.2,dV.weak m.2 fun A v x d k=>eG.weak d k⟩;refine⟨h1,h2,h3,fun r j=>?_,h4,q,f.2,f.1⟩;obtain⟨i,l,rfl⟩:=pN.1 j;obtain⟨_,_,_,-,-,d,-⟩:=t.at l;exact Rz d
namespace Lx
def fQ(g:Gr):Nat:=(ay g).length+(aS g).length
def lK(s:ByteArray):Except (Nat×Nat) bF :=
 match eY s with
 |.error x=>.error x
 |.ok g=>match rU (aJ g) (fQ g) with
  |none=>.error (8,0)
  |some S=>.ok S
def EX(s:ByteArray):bF:=match lK s with
 |.ok S=>S
 |.error _=>⟨[],[]⟩
def Dh(s:ByteArray):Nat×Nat:=match lK s with
 |.ok _=>(0,0)
 |.error x=>x
theorem acR{s:ByteArray}{x:Nat×Nat}(h:eY s=.error x):lK s=.error x:=by unfold lK;rw[h]
theorem Nk{s:ByteArray}{g:Gr}(h:eY s=.ok g)(h2:rU (aJ g) (fQ g)=none):lK s=.error (8,0):=by unfold lK;rw[h];simp only;rw[h2]
theorem Jz{s:ByteArray}{g:Gr}{S:bF}(h:eY s=.ok g)(h2:rU (aJ g) (fQ g)=some S):lK s=.ok S:=by unfold lK;rw[h];simp only;rw[h2]
theorem NZ{s:ByteArray}{S:bF}(h:lK s=.ok S):EX s=S/\Dh s=(0,0):=by unfold EX Dh;rw[h];exact⟨rfl,rfl⟩
theorem NR{s:ByteArray}{x:Nat×Nat}(h:lK s=.error x):EX s=⟨[],[]⟩/\Dh s=x:=by unfold EX Dh;rw[h];exact⟨rfl,rfl⟩
theorem sP.leave{P:List Pd}{sz st:Nat}(a:nV P sz st){i:Nat}{K:List au}:∀(ns:List Nat)(S:bF),sP P S->S.ks[i]?=some K->sP P (leave P i K S ns)
 | [],_,h,_=>h
 |n::ns,S,h,hK=>sP.leave a ns (Lx.edge P i K S n) (h.edge a hK n) (acF hK)
theorem abK{P:List Pd}{i:Nat}{K:List au}:∀(ns:List Nat)(S:bF),(leave P i K S ns).es.length<=S.es.length+ns.length
 | [],_=>zL0
 |n::ns,S=>by
  have h1:=abK (P:=P) (i:=i) (K:=K) ns (edge P i K S n);have h2:=(akJ (P:=P) (i:=i) (K:=K) (S:=S) (n:=n)).2;have:leave P i K S (n::ns)=leave P i K (edge P i K S n) ns:=rfl;rw[this,ev];omega
theorem jf.all1{P:List Pd}{sz st:Nat}(a:nV P sz st){i:Nat}{K:List au}{S:bF}(h:jf P i 0 S)(b:S.ks[i]?=some K):jf P (i+1) 0 (Lx.leave P i K S (List.range sz)):=by
 have h1:=(jf.leave (K:=K) sz 0 S h b).1;rw[fk,<-List.range_eq_range']at h1;exact h1.next a
end Lx
def JJ(B:Nat)(w:World)(vl ve:Value)(S:bF):Prop:=jA 161 160 B w vl S.ks/\aQ 173 3 vE B w ve S.es
theorem JJ.none(B:Nat)(w:World):JJ B w (.slice none 0 0) (.slice none 0 0) ⟨[],[]⟩:=⟨⟨[],rfl,eQ _ _ _ _,fun x a=>by cases a⟩,eQ _ _ _ _⟩
def Ct(s:ByteArray)(w:World)(e:Ending)(w':World):Prop:=∃vl ve,e=.returned (.tuple #[vl,ve,.int .i64 ((Dh s).1:Int),.int .i64 ((Dh s).2:Int)])/\Below w.heap.size w w'/\JJ w.heap.size w' vl ve (EX s)/\((Dh s).1≠0->vl=.slice none 0 0/\ve=.slice none 0 0)
theorem Ct.err{s:ByteArray}{w:World}{w':World}{n a:Nat}(h:lK s=.error (n,a))(b:Below w.heap.size w w'):Ct s w (.returned (.tuple #[.slice none 0 0,.slice none 0 0,.int .i64 (n:Int),.int .i64 (a:Int)])) w':=by
 obtain⟨h1,h2⟩:=NR h;exact⟨_,_,by rw[h2],b,by rw[h1];exact JJ.none _ _,fun _=>⟨rfl,rfl⟩⟩
theorem Ct.ok{s:ByteArray}{w:World}{w':World}{S:bF}{a b:Value}(h:lK s=.ok S)(c:Below w.heap.size w w')(d:JJ w.heap.size w' a b S):Ct s w (.returned (.tuple #[a,b,.int .i64 0,.int .i64 0])) w':=by
 obtain⟨h1,h2⟩:=NZ h;exact⟨_,_,by rw[h2];rfl,c,by rw[h1];exact d,fun h=>by rw[h2]at h;exact absurd rfl h⟩
theorem YV(s:ByteArray)(w:World)(G:s.size<=maxLen)(ht:dM w):Calls prog 37 #[.string s] w (Ct s w):=by
 cases o:eY s with
 |error x=>
  have Q:=SY o;have HR:Hid (lK s=.error (x.1,x.2)):=acR o;have i1:((x.1:Int) == 0)=false:=zB0 (by omega);have i2:((x.1:Int) != 0)=true:=by simp;omega
  have i3:¬(x.1:Int)=0:=by omega
  have i4:¬x.1=0:=Q;have M:Hid (eY s=.error x):=o;clear o Q;go_enter func37,ntmps37
  go_wp2_with (go_at_call 21;refine(Sr s w G ht).mono ?_;rintro e w1⟨v,n,a,rfl,k,-,Z⟩;obtain⟨rfl,rfl,rfl⟩:=Z x M.out;unfold xq;clear Z)
  exact fy (v:=.tuple #[.slice none 0 0,.slice none 0 0,.int .i64 (x.1:Int),.int .i64 (x.2:Int)]) (by simp[results,results37,go_sem]) rfl (Ct.err HR.out (k.trans ((cV _ w1).alloc (by have:=k.size;omega) _)))
 |ok g=>
  have F:=acQ w o;have l:=adv F (NQ o).2.2;have M:Hid (eY s=.ok g):=o;clear o;go_enter func37,ntmps37;go_upto_region 2 with (go_at_call 21;refine(Sr s w G ht).mono ?_;rintro e w1⟨v,n,a,rfl,k,aa,-⟩;obtain⟨rfl,rfl,vT,vN,vP,vB,vK,rfl,h1,h2,h3,h4,h5⟩:=aa g M.out;clear aa;obtain⟨D,B,rfl,-⟩:=aC h1;obtain⟨y,z,rfl,-⟩:=aC h2;obtain⟨C,A,rfl,-⟩:=aC h4;obtain⟨r,p,rfl,-⟩:=aC h5;obtain⟨q,t,rfl,-⟩:∃a c,vP=.slice a (aJ g).length c/\(aJ g).length<=maxLen:=by (obtain⟨ps,h1,h2,-⟩:=h3;exact aC h2))
  have az:=k.size;obtain⟨b,Qr⟩:∃W,W=w1.alloc (.cells #[.slice D (ay g).length B,.slice y (aS g).length z,.slice q (aJ g).length t,.slice C (ay g).length A,.slice r (ay g).length p] 56):=⟨_,rfl⟩;have N:Below w1.heap.size w1 b:=by rw[Qr];exact(cV _ _).alloc (zL0) _
  have kA:aj b w1.heap.size #[.slice D (ay g).length B,.slice y (aS g).length z,.slice q (aJ g).length t,.slice C (ay g).length A,.slice r (ay g).length p] 56:=by rw[Qr];exact aj.new w1 _ 56
  rw[<-Qr];clear Qr h1 h2 h4 h5;have OO:Below w.heap.size w b:=k.trans (N.mono (by omega));have av:=OO.size;have Xc:=h3.below N;have O:dM b:=((Lib.tabBelow_of_tabIs ht).on OO).here;have a0:=kA.cell 0;have a1:=kA.cell 1;have a2:=kA.cell 2;have a3:=kA.cell 3;have a4:=kA.cell 4;simp only[List.getElem?_toArray,List.getElem?_cons_zero,List.getElem?_cons_succ]at a0 a1 a2 a3 a4;have ad:Hid (rU (aJ g) (fQ g)=none->lK s=.error (8,0)):=Nk M.out;have ah:Hid (∀S,rU (aJ g) (fQ g)=some S->lK s=.ok S):=fun S h=>Jz M.out h
  have hsz:fQ g=(ay g).length+(aS g).length:=rfl;rw[hsz]at ad ah;clear kA M F h3 hsz;generalize (ay g).length=nT at *;generalize (aS g).length=nN at *;generalize aJ g=P at *;have ao:=@sr prog;obtain⟨L,j⟩:∃W,W=((b.alloc (.map #[] 0)).alloc (.cells #[.slice D nT B,.slice y nN z,.slice q P.length t,.slice C nT A,.slice r nT p,.map (some b.heap.size),.slice none 0 0,.slice none 0 0] 157)).alloc (.cells #[.int .i64 0,.int .i64 0] 160):=⟨_,rfl⟩;have ag:Below b.heap.size b L:=by rw[j];exact(((cV _ _).alloc (zL0) _).alloc (by simp) _).alloc (by simp;omega) _
  have zV:aj L (b.heap.size+1) #[.slice D nT B,.slice y nN z,.slice q P.length t,.slice C nT A,.slice r nT p,.map (some b.heap.size),.slice none 0 0,.slice none 0 0] 157:=by rw[j];simpa using (aj.new (b.alloc (.map #[] 0)) #[.slice D nT B,.slice y nN z,.slice q P.length t,.slice C nT A,.slice r nT p,.map (some b.heap.size),.slice none 0 0,.slice none 0 0] 157).alloc (.cells #[.int .i64 0,.int .i64 0] 160)
  have Qi:aj L (b.heap.size+1+1) #[.int .i64 0,.int .i64 0] 160:=by rw[j];simpa using aj.new ((b.alloc (.map #[] 0)).alloc (.cells #[.slice D nT B,.slice y nN z,.slice q P.length t,.slice C nT A,.slice r nT p,.map (some b.heap.size),.slice none 0 0,.slice none 0 0] 157)) #[.int .i64 0,.int .i64 0] 160
  have Bf:lV L b.heap.size []:=by
   have h0:=lV.made b;have h1:=h0.move (w':=(b.alloc (.map #[] 0)).alloc (.cells #[.slice D nT B,.slice y nN z,.slice q P.length t,.slice C nT A,.slice r nT p,.map (some b.heap.size),.slice none 0 0,.slice none 0 0] 157)) (dg _ _ _ h0.lt);rw[j];exact h1.move (dg _ _ _ h1.lt)
  have V:oh b L (b.heap.size+1) b.heap.size (.slice D nT B) (.slice y nN z) (.slice q P.length t) (.slice C nT A) (.slice r nT p) (.slice none 0 0) ⟨[],[]⟩:=⟨_,zV,Bf,⟨[],rfl,eQ _ _ _ _,fun x hx=>by cases hx⟩,eQ _ _ _ _,by omega,by omega,ag⟩;have T:aQ 160 2 iI b.heap.size L (.slice (some ⟨b.heap.size+1+1,0,none⟩) 1 1) [(0,0)]:=al8 Qi (by omega) rfl;have q5:=ZP V T (by simp) (by simp) (fun s hs=>by rw[cN]at hs;subst hs;exact⟨by omega,by omega⟩) (by simp) (by simp) O;have ab:Hid (jf P 0 0 ⟨[[(0,0)]],[]⟩):=jf.first P;have ae:Hid (sP P ⟨[[(0,0)]],[]⟩):=sP.first l;have LQ:Hid (rU P (nT+nN)=tZ P (nT+nN) (302-0) 0 ⟨[[(0,0)]],[]⟩):=rfl;have E:(⟨vI [] [(0,0)],[]⟩:bF)=⟨[[(0,0)]],[]⟩:=rfl;clear Qi T V Bf zV;go_upto_region 5 with fail
  go_upto_region 6 with (go_at_call 65;go_loud (rw[<-j];refine q5.mono ?_;rintro e w4⟨rfl,Qs,-,an⟩))
  rw[E]at Qs;clear j ag q5 E an ao a0 a1 a2 a3 a4;generalize hf:b.heap.size+1=f at *;generalize hmb:b.heap.size=mb at Qs;clear hf hmb;go_wp2_with fail
  go_loopg [10] 301 (fun m iv wr=>∃(i:Nat)(S:bF)(ve:Value),i+m=301/\i<=300/\iv=.int .i64 (i:Int)/\oh b wr f mb (.slice D nT B) (.slice y nN z) (.slice q P.length t) (.slice C nT A) (.slice r nT p) ve S/\S.ks.length<=300/\S.es.length<=i*100000/\Hid (jf P i 0 S)/\Hid (sP P S)/\Hid (rU P (nT+nN)=tZ P (nT+nN) (302-i) i S))
  case atStart=>exact⟨0,_,_,by omega,by omega,rfl,Qs,by simp,by simp,ab,ae,LQ⟩
  case round=>
   clear Qs ab ae LQ;revert wr;intro J hrel;obtain⟨i,S,ve,ar,a5,rfl,hf,ap,ax,HI,HO,HA⟩:=hrel;obtain⟨vk,kF,o,hK,hE,Qo,a6,qd⟩:=id hf;obtain⟨va,vc,rfl,-⟩:=hK.len;have d6:J.cell? ⟨f,6,none⟩=some (.slice va S.ks.length vc):=kF.cell 6;have d7:J.cell? ⟨f,7,none⟩=some ve:=kF.cell 7;have U:Below w.heap.size w J:=OO.trans (qd.mono (by omega))
   by_cases hlt:i<S.ks.length
   ·obtain⟨u,d⟩:∃K,S.ks[i]?=some K:=⟨_,cF hlt⟩
    have H:=HO.out i u d;have q9:=aju hf Xc l d H (by have:=H.len;omega) (HI.out.rise i u d) HI.out.nd ap (by omega) O;have ac:Hid (jf P (i+1) 0 (Lx.leave P i u S (List.range (nT+nN)))):=jf.all1 l HI.out d;have af:Hid (sP P (Lx.leave P i u S (List.range (nT+nN)))):=sP.leave l _ S HO.out d;have ai:=abK (P:=P) (i:=i) (K:=u) (List.range (nT+nN)) S;rw[pD]at ai;have U5:=l.szm;have Y:Hid (rU P (nT+nN)=if 300<(Lx.leave P i u S (List.range (nT+nN))).ks.length then none else tZ P (nT+nN) (302 - (i+1)) (i+1) (Lx.leave P i u S (List.range (nT+nN)))):=by
     show _=_;rw[HA.out,ajj (by omega) d]
    have X:(Lx.leave P i u S (List.range (nT+nN))).es.length<=(i+1)*100000:=by omega
    have i1:(i:Int)<(S.ks.length:Int):=by omega
    clear HA HI HO H d kF o hK hE hf ai d7;generalize Lx.leave P i u S (List.range (nT+nN))=R at q9 ac af Y X;go_upto_region 10 with (go_at_call 66;go_loud (refine q9.mono ?_;rintro e w5⟨rfl,am,LU⟩))
    obtain⟨aw,Br,Qq,uG,nR,-,-,al⟩:=id LU;obtain⟨aq,ak,rfl,-⟩:=uG.len;have e6:w5.cell? ⟨f,6,none⟩=some (.slice aq R.ks.length ak):=Br.cell 6;have Eg:Below w.heap.size w w5:=OO.trans (al.mono (by omega));clear q9 d6 Br Qq uG nR
    by_cases h3:300<R.ks.length
    ·have HR:Hid (lK s=.error (8,0)):=ad.out (by rw[Y.out,dj h3])
     have j1:(300:Int)<(R.ks.length:Int):=by omega
     clear Y;go_wp2_with fail;exact fy (v:=.tuple #[.slice none 0 0,.slice none 0 0,.int .i64 8,.int .i64 0]) (by simp[results,results37,go_sem]) rfl (Ct.err HR.out Eg)
    ·have ED:Hid (rU P (nT+nN)=tZ P (nT+nN) (302 - (i+1)) (i+1) R):=by show _=_;rw[Y.out,dt h3]
     have j1:¬(300:Int)<(R.ks.length:Int):=by omega
     clear Y;go_wp2_with fail;go_roundg (301 - (i+1))
     case measure=>omega
     case rel=>exact⟨i+1,R,am,by omega,by omega,by go_num,LU,by omega,X,ac,af,ED⟩
   ·have HR:Hid (lK s=.ok S):=ah.out S (by rw[HA.out,akK (by omega) (by omega)])
    have i1:¬(i:Int)<(S.ks.length:Int):=by omega
    clear HA HI HO;go_wp2_with fail
    go_quiet (fail)
    have I:Below J.heap.size J (J.drewN nq):=⟨rfl,rfl,rfl,zL0,fun _ _=>rfl⟩;go_wp2_with fail;exact fy (v:=.tuple #[.slice va S.ks.length vc,ve,.int .i64 0,.int .i64 0]) (by simp[results,results37,go_sem]) rfl (Ct.ok HR.out (U.trans (I.mono (by have:=U.size;omega))) ⟨(hK.below I).le (by omega),jb (aQ.below hE I) (by omega)⟩)
def Di:Tb.CH:=[[(2,[0])],[(2,[0])],[(0,[0])],[(1,[0])]]
def Hz:List (Nat×Nat×Nat):=[(0,1,1),(0,3,2),(1,1,1),(1,3,3)]
def OP:List ByteArray:=[⟨#[36]⟩,⟨#[65]⟩]
def Vb:List ByteArray:=[⟨#[36,115,116,97,114,116]⟩,⟨#[115]⟩]
def pkP:List (Nat×Nat):=[(2,1),(3,2),(3,0)]
def pkC:List (List (Nat×Nat)):=(Tb.choices Di Hz 2).map (List.map Tb.nQ)
def pkG:List (List Nat):=Tb.gotos 4 2 2 Hz 4
theorem acS:∀r∈Tb.choices Di Hz 2,∀x∈r,Tb.lone x=true:=by decide +kernel
theorem aoQ:Pk.written OP Vb pkP (Pk.mk 3 pkC pkG 4)=nZ:=by decide +kernel
theorem ad6:(Dh Bp)=(0,0)/\(EX Bp).ks.length=4/\(EX Bp).es=Hz:=by
 refine⟨by kernel_rfl,by kernel_rfl,by kernel_rfl⟩
def Kb:List (Nat×List Nat):=[(2,[3]),(3,[1,3]),(3,[])]
def aff:Bool:=match eY Bp with
 |.ok g=>decide (ay g=OP) && decide (aS g=Vb) && decide ((aJ g).map (fun p=>(p.left,p.right))=Kb)
 |.error _=>false
theorem am7:aff=true:=by kernel_rfl
theorem ad7:∃g,eY Bp=.ok g/\ay g=OP/\aS g=Vb/\(aJ g).map (fun p=>(p.left,p.right))=Kb:=by
 have h:=am7;unfold aff at h
 split at h
 ·rename_i g a
  simp only[Bool.and_eq_true,decide_eq_true_eq]at h;exact⟨g,a,h.1.1,h.1.2,h.2⟩
 ·cases h
theorem am8{P:List Lx.Pd}(h:P.map (fun p=>(p.left,p.right))=Kb):Pk.dP P=pkP/\P.length=3:=by
 have b:Pk.dP P=(P.map (fun p=>(p.left,p.right))).map fun x=>(x.1,x.2.length):=by
  unfold Pk.dP;rw[th];rfl
 have a:=fb List.length h;rw[dk]at a;exact⟨by rw[b,h];rfl,a⟩
def LkE(w:World)(e:Ending)(w':World):Prop:=∃v,e=.returned (.tuple #[v,.int .i64 0,.int .i64 0])/\qL w' v Di/\Below w.heap.size w w'
theorem lZ.edg{w:World}{B e:Nat}{v:Value}{l:List (Nat×Nat×Nat)}(h:aQ e 3 vE B w v l):lZ w v l:=lZ.own (B:=B) (e:=e) h
def Bt(s:Nat×Nat):Prop:=s=(0,2)\/s=(0,3)\/s=(1,3)
structure jq(c:aZ):Prop where
 P:∃a b d,c.P=[⟨2,[3],a⟩,⟨3,[1,3],b⟩,⟨3,[],d⟩]
 f:c.f=lG Hz 4
 nT:c.nT=2
section
variable{c:aZ}{S:bL}
theorem jq.nw(h:jq c):c.nw=1:=by unfold aZ.nw;rw[h.nT];rfl
theorem jq.nm(h:jq c):c.rG (0,2)=[((0,0),0)]/\c.rG (0,3)=[((1,1),1)]/\c.rG (1,3)=[((1,1),1)]:=by
 obtain⟨a,b,d,g⟩:=h.P;unfold aZ.rG;rw[g,h.f,h.nT];exact⟨rfl,rfl,rfl⟩
theorem jq.en(h:jq c):c.yF (0,2)=[((0,1),2)]/\c.yF (0,3)=[((1,2),3),((2,0),0)]/\c.yF (1,3)=[((1,2),3),((2,0),1)]:=by
 obtain⟨a,b,d,g⟩:=h.P;unfold aZ.yF;rw[g,h.f];exact⟨rfl,rfl,rfl⟩
theorem jq.inn(h:jq c):c.inn ((0,0),0)=(0,3)/\c.inn ((1,1),1)=(1,3):=by
 obtain⟨a,b,d,f⟩:=h.P;unfold aZ.inn;rw[f];exact⟨rfl,rfl⟩
theorem jq.nU(h:jq c):nU c.P (0,0)=[]/\nU c.P (1,1)=[]:=by
 obtain⟨a,b,d,f⟩:=h.P;rw[f];exact⟨rfl,rfl⟩
theorem jq.st0(h:jq c):c.st0 2:=by
 obtain⟨a,b,d,f⟩:=h.P;unfold aZ.st0;rw[f];rfl
theorem jq.len(h:jq c):c.P.length=3:=by
 obtain⟨a,b,d,f⟩:=h.P;rw[f];rfl
theorem jq.on(h:jq c){s:Nat×Nat}{x:au×Nat}(i:Bt s)(a:x∈c.rG s):Bt (c.inn x)/\Lx.nU c.P x.1=[]:=by
 obtain⟨k,j,g⟩:=h.nm;obtain⟨l,b⟩:=h.inn;obtain⟨f,d⟩:=h.nU;rcases i with rfl|rfl|rfl
 ·rw[k,cN]at a
  subst a;exact⟨.inr (.inl l),f⟩
 ·rw[j,cN]at a
  subst a;exact⟨.inr (.inr b),d⟩
 ·rw[g,cN]at a
  subst a;exact⟨.inr (.inr b),d⟩
theorem jq.G(h:jq c):C8 c 2 8 Bt (fun _ t=>t=0) where
 r0:=.inl rfl
 r1 _ _ d hx:=(h.on d hx).1
 rn l hn hl:=Mi (a:=2) (b:=4) hn fun s d=>by
  rcases hl s d with rfl|rfl|rfl <;> decide
 g0:=rfl
 g1 s x t d hx hp:=by
  rw[(h.on d hx).2]at hp;exact hp
theorem aif{x y:List Nat}(h:dL y x=y)(a:x.length=y.length){t:Nat}(k:bP x t=true):bP y t=true:=by
 rw[<-h,RL a,k,Bool.or_true]
theorem jq.all(h:jq c)(f:jU c Bt (fun _ t=>t=0) (fun _ _=>True) S)(n:S.wq=[])(I:∀ws∈S.ss,ws.length=1)(C:(0,2)∈S.st):(∀p s,S.st[p]?=some s->Bt s/\∀t,bP (S.ss.getD p []) t=true↔t=0)/\(0,3)∈S.st/\(1,3)∈S.st:=by
 obtain⟨A,D,N⟩:=h.nm;obtain⟨E,G⟩:=h.inn;obtain⟨F,M⟩:=h.nU;have b:∀p s,S.st[p]?=some s->(S.ss.getD p []).length=1:=fun p s a=>by
  have k:p<S.ss.length:=by rw[f.ls];exact(cG.1 a).1
  rw[ej,cF k];exact I _ (du k)
 have o:∀p s,S.st[p]?=some s->S.ws[p]?=some false:=fun p s a=>by
  have k:p<S.ws.length:=by rw[f.lw];exact(cG.1 a).1
  have e:=cF k;cases hb:S.ws[p] with
  |false=>rw[e,hb]
  |true=>
   rw[hb]at e;have:=(f.q p).2 e;rw[n]at this;cases this
 have i:∀p s j x,S.st[p]?=some s->(c.rG s)[j]?=some x->Lx.nU c.P x.1=[]->bP (S.ss.getD p []) 0=true->∃q,S.st[q]?=some (c.inn x)/\bP (S.ss.getD q []) 0=true:=fun p s j x a L y H=>by
  obtain⟨q,l,m⟩:=f.cls p s j x a (o p s a) trivial L;rw[y]at m;exact⟨q,l,aif m (by rw[b p s a,b q _ l]) H⟩
 have d:∀p q s,S.st[p]?=some s->S.st[q]?=some s->p=q:=fun p q s a n=>by
  obtain⟨h1,z⟩:=cG.1 a;obtain⟨h2,B⟩:=cG.1 n;exact(lP f.nd).1 (z.trans B.symm)
 obtain⟨p0,g⟩:=eS.1 C;have v:=f.G8 p0 2 h.st0 g;obtain⟨u,hp1,r⟩:=i p0 (0,2) 0 _ g (by rw[A];rfl) F v;rw[E]at hp1;obtain⟨J,hp2,K⟩:=i u (0,3) 0 _ hp1 (by rw[D];rfl) M r;rw[G]at hp2;refine⟨fun p s a=>?_,cJ hp1,cJ hp2⟩;obtain⟨l,m⟩:=f.snd p s a;refine⟨l,fun t=>⟨m t,?_⟩⟩;rintro rfl;rcases l with rfl|rfl|rfl
 ·rw[d p p0 _ a g];exact v
 ·rw[d p u _ a hp1];exact r
 ·rw[d p J _ a hp2];exact K
theorem one_set{ws:List Nat}(d:ws.length=1)(f:jD ws)(a:∀t,bP ws t=true↔t=0):ws=[1]:=by
 match ws,d with
 | [x],_=>
  have b:x<2 ^ 64:=f x (by simp);have:x=1:=by
   apply ue;intro i
   by_cases hi:i<64
   ·have:=a i
    unfold bP at this;rw[tB hi,wi hi]at this;simp only[List.getD_cons_zero]at this;cases i with
    |zero=>simpa using this.2 rfl
    |succ j=>
     have e:x.testBit (j+1)=false:=by
      cases e:x.testBit (j+1) with
      |false=>rfl
      |true=>exact absurd (this.1 e) (by omega)
     rw[e];simp[Nat.testBit_succ]
   ·rw[yr (dd b (sf (by omega) (by omega)))]
    cases i with
    |zero=>omega
    |succ j=>simp[Nat.testBit_succ]
  rw[this]
def LV:List (Nat×Nat):=[(2,0),(3,1),(0,2),(1,2)]
theorem jq.ends(h:jq c)(f:(∀p s,S.st[p]?=some s->Bt s/\∀t,bP (S.ss.getD p []) t=true↔t=0)/\(0,3)∈S.st/\(1,3)∈S.st)(q:(0,2)∈S.st):(∀e,(∃i,c.zS S i e)↔e∈LV):=by
 obtain⟨m,j,l⟩:=h.en;obtain⟨f,h1,h2⟩:=f;intro e;constructor
 ·rintro⟨i,s,x,r,a,rfl⟩
  rcases (f i s r).1 with rfl|rfl|rfl
  ·rw[m,cN]at a
   subst a;decide
  ·rw[j]at a
   rcases eC.1 a with rfl|a
   ·decide
   ·rw[cN]at a
    subst a;decide
  ·rw[l]at a
   rcases eC.1 a with rfl|a
   ·decide
   ·rw[cN]at a
    subst a;decide
 ·intro b
  obtain⟨p0,k⟩:=eS.1 q;obtain⟨n,d⟩:=eS.1 h1;obtain⟨o,g⟩:=eS.1 h2;unfold LV at b;rcases eC.1 b with rfl|b
  ·exact⟨p0,_,((0,1),2),k,by rw[m];simp,rfl⟩
  rcases eC.1 b with rfl|b
  ·exact⟨n,_,((1,2),3),d,by rw[j];simp,rfl⟩
  rcases eC.1 b with rfl|b
  ·exact⟨n,_,((2,0),0),d,by rw[j];simp,rfl⟩
  rcases eC.1 b with rfl|b
  ·exact⟨o,_,((2,0),1),g,by rw[l];simp,rfl⟩
  ·cases b
theorem jq.sets(h:jq c)(g:(∀p s,S.st[p]?=some s->Bt s/\∀t,bP (S.ss.getD p []) t=true↔t=0)/\(0,3)∈S.st/\(1,3)∈S.st){K:List (Nat×Nat)}{ss:List (List Nat)}(f:ng S (c.zS S) K ss)(a:∀ws∈ss,ws.length=c.nw/\jD ws):∀p,p<K.length->ss.getD p []=[1]:=fun p d=>by
 have b:p<ss.length:=by rw[f.len];exact d
 have e:ss.getD p []=ss[p]:=by rw[ej,cF b];rfl
 obtain⟨j,m⟩:=a ss[p] (du b);rw[h.nw]at j;rw[e];refine one_set j m fun t=>?_
 rw[<-e,f.has p K[p] t (cF d)];constructor
 ·rintro⟨i,⟨s,x,a,-,-⟩,k⟩
  exact((g.1 i s a).2 t).1 k
 ·rintro rfl
  obtain⟨i,l⟩:=(f.mem _).1 (du d);obtain⟨s,x,a,o,n⟩:=l;exact⟨i,⟨s,x,a,o,n⟩,((g.1 i s a).2 0).2 rfl⟩
theorem am9:jm [1] 1=[0]:=by
 unfold jm jm;rw[List.getD_cons_zero,Jk (by decide),show (1 &&& (1-1))=0 from rfl,NH];rfl
theorem jq.ans(h:jq c)(g:(∀p s,S.st[p]?=some s->Bt s/\∀t,bP (S.ss.getD p []) t=true↔t=0)/\(0,3)∈S.st/\(1,3)∈S.st)(m:(0,2)∈S.st){K:List (Nat×Nat)}{ss:List (List Nat)}(j:ng S (c.zS S) K ss)(n:∀ws∈ss,ws.length=c.nw/\jD ws):((List.range 4).map fun i=>fq c.nw K ss i c.P.length)=Di:=by
 have l:∀e,e∈K↔e∈LV:=fun e=>(j.mem e).trans (h.ends g m e)
 have o:=h.sets g j n;have b:∀i k,(i,k)∈LV->fq 1 K ss i (k+1)=fq 1 K ss i k++[(k,[0])]:=fun i k f=>by
  have:=(l _).2 f;have e:vG K (i,k)=some (K.idxOf (i,k)):=by unfold vG;rw[dj this]
  rw[fq,e];show _++[(k,jm (ss.getD (K.idxOf (i,k)) []) 1)]=_;rw[o _ (xF.2 this),am9]
 have a:∀i k,(i,k)∉LV->fq 1 K ss i (k+1)=fq 1 K ss i k:=fun i k f=>by
  have e:vG K (i,k)=none:=by unfold vG;rw[dt fun d=>f ((l _).1 d)]
  rw[fq,e];exact eV _
 rw[h.nw,h.len];show [fq 1 K ss 0 3,fq 1 K ss 1 3,fq 1 K ss 2 3,fq 1 K ss 3 3]=Di;rw[b 0 2 (by decide),a 0 1 (by decide),a 0 0 (by decide),b 1 2 (by decide),a 1 1 (by decide),a 1 0 (by decide),a 2 2 (by decide),a 2 1 (by decide),b 2 0 (by decide),a 3 2 (by decide),b 3 1 (by decide),a 3 0 (by decide)];rfl
end
namespace Lx
theorem ag5{nT n l s:Nat}{B:List (List Bool)}(h:B.length=n/\∀r∈B,r.length=nT):(pV l B s).length=n/\∀r∈pV l B s,r.length=nT:=by
 unfold pV;refine⟨by rw[ii];exact h.1,fun r a=>?_⟩
 by_cases hl:l<B.length
 ·rcases mw a with a | rfl
  ·exact h.2 r a
  ·rw[acv,FI hl]
   exact h.2 _ (du hl)
 ·rw[List.set_eq_of_length_le (by omega)]at a
  exact h.2 r a
theorem Ro{nT n:Nat}{α:Type}{f:List (List Bool)->α->List (List Bool)}(b:∀B a,(B.length=n/\∀r∈B,r.length=nT)->((f B a).length=n/\∀r∈f B a,r.length=nT)):∀(l:List α)(B:List (List Bool)),(B.length=n/\∀r∈B,r.length=nT)->((l.foldl f B).length=n/\∀r∈l.foldl f B,r.length=nT)
 | [],_,h=>h
 |a::l,B,h=>Ro b l (f B a) (b B a h)
theorem ag6{nT n:Nat}{P:List Pd}{E:List Bool}{B:List (List Bool)}(h:B.length=n/\∀r∈B,r.length=nT):(gI P E B).length=n/\∀r∈gI P E B,r.length=nT :=
 Ro (fun _ _ a=>Ro (fun _ _ b=>ag5 b) _ _ a) P B h
theorem Yp{nT n:Nat}{P:List Pd}{E:List Bool}:∀m,(rE (gI P E) m (alone nT n)).length=n/\∀r∈rE (gI P E) m (alone nT n),r.length=nT
 |0=>⟨by simp[rE,alone],fun r a=>by
   unfold rE alone at a;obtain⟨i,-,rfl⟩:=ee.1 a;unfold yN
   split <;> simp⟩
 |m+1=>ag6 (Yp m)
theorem afR{nT:Nat}{A:List Bool}(h:A.length=nT):(jF A).length<=nT/\∀t∈jF A,t<nT:=by
 unfold jF;refine⟨de (rI ..) (by rw[pD,h];exact zL0),fun t a=>?_⟩;rw[<-h];exact pM.1 (hU.1 a).1
end Lx
theorem GV.inr{B:Nat}{w:World}{v:Value}{b:List (List Nat)}(h:GV B w v b):yw w v b:=by
 obtain⟨f,⟨h1,h2,h3,-⟩,-⟩:=h;obtain⟨a,c,rfl,-⟩:=aC h2;refine⟨a,c,rfl,fun i x d=>?_⟩;rw[<-h1,di]at d;obtain⟨q,hq,rfl⟩:=m8.1 d;obtain⟨g,l,e,k⟩:=pQ h2 (j:=i) (u:=q.1) (by rw[di,hq];rfl);cases e;exact⟨g,rfl,q.1,by rw[j9];exact k i _ (by rw[di,hq];rfl),bQ.own (h3 q (cJ hq))⟩
theorem PP.pdc{D:Nat->Prop}{w:World}{pa:Option Addr}{pc:Nat}{P:List Lx.Pd}(h:PP D w (.slice pa P.length pc) P)(q:0<P.length):∃gP,pa=some ⟨gP,0,none⟩/\mX w (fun k=>k<w.heap.size) gP P:=by
 obtain⟨g,a,u,f,i,c,d,l⟩:=PP.at h q;cases f;refine⟨g,rfl,Jj c,fun k p r=>?_⟩;obtain⟨o,rfl⟩:=cG.1 r;obtain⟨v,m,u,f,i,c,d,l⟩:=PP.at h o;cases f;rcases i.2 with ⟨rfl,e⟩|⟨b,a,s,rfl,-,t,h1,h2,-⟩
 ·refine⟨none,0,c,by rw[e];exact d,l,by omega,.inl ⟨rfl,gz e,rfl⟩⟩
 ·refine⟨_,a,c,d,l,h1,.inr ⟨b,rfl,(ek.1 t).1,fun j x n=>?_⟩⟩
  obtain⟨y,z,e,k⟩:=pQ i (j:=j) (u:=.int .i64 (x:Int)) (by unfold dK;rw[di,n];rfl);cases e;exact k j _ (by unfold dK;rw[di,n];rfl)
theorem mX.imp{w:World}{F c:Nat->Prop}{g:Nat}{P:List Lx.Pd}(h:mX w F g P)(a:∀k,F k->c k):mX w c g P:=⟨a _ h.own,fun k p f=>by
 obtain⟨l,m,h1,h2,h3,h4,i⟩:=h.row k p f;exact⟨l,m,h1,h2,h3,h4,i.imp id fun⟨b,e,d,j⟩=>⟨b,e,a b d,j⟩⟩⟩
def l8(w:World)(db:Nat)(P:List Lx.Pd)(bs ks:List Nat)(v0 v1 v5:Value)(st:Int):Prop:=∃w0 gP pc ba bc ka kc,w0.heap.size=db/\Below db w0 w/\aj w db #[v0,v1,.slice (some ⟨gP,0,none⟩) P.length pc,.slice ba bs.length bc,.slice ka ks.length kc,v5,.int .i64 st] 97/\mX w0 (fun k=>k<w0.heap.size) gP P/\bQ w0 (.slice ba bs.length bc) bs/\bQ w0 (.slice ka ks.length kc) ks
section
variable{w w':World}{db:Nat}{P:List Lx.Pd}{bs ks:List Nat}{v0 v1 v5:Value}{st:Int}
theorem l8.ex(h:l8 w db P bs ks v0 v1 v5 st):∃gP pc ba bc ka kc,aj w db #[v0,v1,.slice (some ⟨gP,0,none⟩) P.length pc,.slice ba bs.length bc,.slice ka ks.length kc,v5,.int .i64 st] 97/\mX w (fun k=>k<w.heap.size) gP P/\bQ w (.slice ba bs.length bc) bs/\bQ w (.slice ka ks.length kc) ks:=by
 obtain⟨f,gP,pc,ba,bc,ka,kc,rfl,a,h1,h2,h3,h4⟩:=h;exact⟨gP,pc,ba,bc,ka,kc,h1,(h2.move fun b c=>a.block b c).imp fun k d=>dd d a.size,h3.keep a,h4.keep a⟩
theorem l8.lt(h:l8 w db P bs ks v0 v1 v5 st):db<w.heap.size:=by
 obtain⟨j,c,b,d,i,f,g,rfl,a,h1,h2,h3,h4⟩:=h;exact h1.lt
theorem l8.grow(h:l8 w db P bs ks v0 v1 v5 st)(b:Below db w w')(hd:w'.heap[db]?=w.heap[db]?):l8 w' db P bs ks v0 v1 v5 st:=by
 obtain⟨k,d,c,f,j,g,i,rfl,a,h1,h2,h3,h4⟩:=h;exact⟨k,d,c,f,j,g,i,rfl,a.trans b,hd.trans h1,h2,h3,h4⟩
theorem l8.keep(a:Below w.heap.size w w')(h:l8 w db P bs ks v0 v1 v5 st):l8 w' db P bs ks v0 v1 v5 st:=h.grow (a.mono (mi h.lt)) (a.block _ h.lt)
theorem l8.aoR(h:l8 w db P bs ks v0 v1 v5 st)(v:Value):l8 (w.setCell ⟨db,5,none⟩ v) db P bs ks v0 v1 v st:=by
 obtain⟨b,d,c,f,j,g,i,rfl,a,h1,h2,h3,h4⟩:=h;exact⟨b,d,c,f,j,g,i,rfl,a.setCell (p:=⟨b.heap.size,5,none⟩) (zL0) v,h1.set 5 v,h2,h3,h4⟩
theorem l8.aoS(h:l8 w db P bs ks v0 v1 v5 st)(s:Int):l8 (w.setCell ⟨db,6,none⟩ (.int .i64 s)) db P bs ks v0 v1 v5 s:=by
 obtain⟨b,d,c,f,j,g,i,rfl,a,h1,h2,h3,h4⟩:=h;exact⟨b,d,c,f,j,g,i,rfl,a.setCell (p:=⟨b.heap.size,6,none⟩) (zL0) _,h1.set 6 _,h2,h3,h4⟩
end
theorem abL{w:World}{l:Nat}{P:List Lx.Pd}{bs ks:List Nat}{v0 v1 v5:Value}{st:Int}(h:l8 w l P bs ks v0 v1 v5 st){s:Nat}{v:Value}{p:Nat}{tl:List Nat}{x:Lx.Pd}(E:bQ w v (p::tl))(m:P[p]?=some x):Calls prog 148 #[.pointer (some ⟨l,0,none⟩),.agg #[.int .i64 (s:Int),v]] w fun e w'=>e=.returned (.int .i64 x.prec)/\Below w.heap.size w w':=by
 obtain⟨N,d,rfl,u⟩:=E;obtain⟨A,B,L,K,I,M,kD,o,-,-⟩:=h.ex;obtain⟨i,rfl,g⟩:=u 0 p rfl;unfold iQ at g;rw[pZ]at g;obtain⟨Q,J,-,-,r,-⟩:=o.row p x m;have j:=(cG.1 m).1;obtain⟨w2,c⟩:∃V,V=w.alloc (.cells #[.int .i64 (s:Int),.slice (some ⟨i,0,none⟩) (p::tl).length d] 166):=⟨_,rfl⟩;obtain⟨q,f⟩:∃b,w.heap.size=b:=⟨_,rfl⟩;have a:Below w.heap.size w w2:=by rw[c];exact(cV _ _).alloc (zL0) _
 have kC:aj w2 q #[.int .i64 (s:Int),.slice (some ⟨i,0,none⟩) (p::tl).length d] 166:=by rw[c,<-f];exact aj.new ..
 have D:w2.cell? ⟨q,1,none⟩=some (.slice (some ⟨i,0,none⟩) (p::tl).length d):=kC.cell 1;have C:w2.cell? ⟨l,2,none⟩=some (.slice (some ⟨A,0,none⟩) P.length B):=aM a (kD.cell 2);have F:=aM a g;have z:=aM a r;have G:(0:Int)<((p::tl).length:Int):=by rw[ev];omega
 have H:(p:Int)<(P.length:Int):=by omega
 have O:(0:Int)<=(p:Int):=by omega
 obtain⟨n,t⟩:∃n,(p::tl).length=n:=⟨_,rfl⟩;rw[t]at G D c|-;have y:Hid (∀k,Below w.heap.size w (w2.drewN k)):=fun k=>⟨a.1,a.2,a.3,a.4,a.5⟩
 clear t u kC a g r kD o m j h;go_enter func148,ntmps148;go_upto_region 1 with fail
 rw[<-c];clear c f
 go_quiet (fail)
 go_wp2_with fail;go_ret;exact⟨rfl,y.out _⟩
theorem ag7{w:World}{s n pc:Nat}{pa:Option Addr}(h:1<n\/(n=1/\s≠0)):Calls prog 104 #[.agg #[.int .i64 (s:Int),.slice pa n pc]] w fun e w'=>e=.returned (.bool true)/\Below w.heap.size w w':=by
 have a:Below w.heap.size w (w.alloc (.cells #[.int .i64 (s:Int),.slice pa n pc] 166)):=(cV _ _).alloc (zL0) _
 by_cases h1:1<n
 ·have b:decide ((1:Int)<(n:Int))=true:=fi (by omega)
  have c:(1:Int)<(n:Int):=by omega
  clear h;go_enter func104,ntmps104;go_wp2_with fail;go_ret;exact⟨rfl,a⟩
 ·obtain⟨rfl,d⟩:n=1/\s≠0:=by omega
  have b:decide ((1:Int)<((1:Nat):Int))=false:=eE (by omega);have f:((s:Int) != 0)=true:=by simp;omega
  clear d h h1;go_enter func104,ntmps104;go_wp2_with fail;go_ret;exact⟨rfl,a⟩
theorem ag8{w:World}{G:Nat}{P:List Lx.Pd}{bs ks:List Nat}{v0 v1 v5:Value}{st:Int}(h:l8 w G P bs ks v0 v1 v5 st){s:Nat}{v:Value}{p r:Nat}{tl:List Nat}{x:Lx.Pd}(u:bQ w v (p::tl))(L:P[p]?=some x)(m:x.prec<(bs.length:Int))(t:r<bs.length):Calls prog 106 #[.pointer (some ⟨G,0,none⟩),.int .i64 (r:Int),.agg #[.int .i64 (s:Int),v]] w fun e w'=>∃b:Bool,e=.returned (.bool b)/\(b=true->tl=[]/\0<=x.prec)/\Below w.heap.size w w':=by
 obtain⟨B,f,rfl,H⟩:=u;have u:bQ w (.slice B (p::tl).length f) (p::tl):=⟨B,f,rfl,H⟩;obtain⟨w2,a⟩:∃V,V=w.alloc (.cells #[.int .i64 (s:Int),.slice B (p::tl).length f] 166):=⟨_,rfl⟩;obtain⟨I,j⟩:∃b,w.heap.size=b:=⟨_,rfl⟩;have c:Below w.heap.size w w2:=by rw[a];exact(cV _ _).alloc (zL0) _
 have kC:aj w2 I #[.int .i64 (s:Int),.slice B (p::tl).length f] 166:=by rw[a,<-j];exact aj.new ..
 have x0:w2.cell? ⟨I,0,none⟩=some (.int .i64 (s:Int)):=kC.cell 0;have S:w2.cell? ⟨I,1,none⟩=some (.slice B (p::tl).length f):=kC.cell 1;cases tl with
 |cons y tl=>
  have Y:(((p::y::tl).length:Int) != 1)=true:=by simp;omega
  have W:Hid (Below w.heap.size w w2):=c;obtain⟨n,T⟩:∃n,(p::y::tl).length=n:=⟨_,rfl⟩;rw[T]at S a Y|-;clear T H u kC c;go_enter func106,ntmps106;go_upto_region 1 with fail
  rw[<-a];clear a j;go_wp2_with fail;go_ret;exact⟨false,rfl,(fun e=>by cases e),W.out⟩
 |nil=>
  have h2:=h.keep c;have q:=abL (s:=s) h2 (u.keep c) L;obtain⟨gP,pc,ba,Q,ka,kc,kD,-,hB,-⟩:=h2.ex;obtain⟨_,_,e,i⟩:=hB;cases e;obtain⟨R,l⟩:∃y,bs[r]?=some y:=⟨_,cF t⟩;obtain⟨D,rfl,cT⟩:=i r R l;unfold iQ at cT;rw[j9]at cT;have K:w2.cell? ⟨G,3,none⟩=some (.slice (some ⟨D,0,none⟩) bs.length Q):=kD.cell 3;have l1:(r:Int)<(bs.length:Int):=by omega
  have l0:(0:Int)<=(r:Int):=by omega
  have F:Hid (∀d,Below w2.heap.size w2 d->d.cell? ⟨G,3,none⟩=some (.slice (some ⟨D,0,none⟩) bs.length Q)/\d.cell? ⟨D,r,none⟩=some (.int .i64 (R:Int))/\Below w.heap.size w d):=fun d z=>⟨aM z K,aM z cT,c.trans (z.mono c.size)⟩
  have M:([p]:List Nat).length=1:=rfl;rw[M]at a S q|-;clear M;obtain⟨pr,J⟩:∃y,x.prec=y:=⟨_,rfl⟩;rw[J]at q m|-
  by_cases hneg:0<=pr
  ·obtain⟨k,rfl⟩:=tP hneg
   have A:k<bs.length:=by omega
   obtain⟨U,C⟩:∃y,bs[k]?=some y:=⟨_,cF A⟩;obtain⟨X,e,E⟩:=i k U C;cases e;unfold iQ at E;rw[j9]at E;have O:Hid (∀d,Below w2.heap.size w2 d->d.cell? ⟨D,k,none⟩=some (.int .i64 (U:Int))):=fun d z=>aM z E
   have d0:decide ((0:Int)<=(k:Int))=true:=fi (by omega);have N:(0:Int)<=(k:Int):=by omega
   have d2:(k:Int)<(bs.length:Int):=by omega
   clear J hneg i l C E cT K kD h2 h u H kC c L m t A;go_enter func106,ntmps106;go_upto_region 1 with fail
   rw[<-a];clear a j;go_upto_region 4 with (go_at_call 148;refine q.mono ?_;rintro e d⟨rfl,g⟩;obtain⟨y3,Z,o⟩:=F.out d g;have yQ:=O.out d g;clear F O q)
   go_wp2_with fail
   all_goals
    go_ret;exact⟨_,rfl,(fun _=>⟨by trivial,N⟩),o⟩
  ·have d0:decide ((0:Int)<=pr)=false:=eE hneg
   have N:¬(0:Int)<=pr:=hneg;clear J hneg i l cT K kD h2 h u H kC c L m t;go_enter func106,ntmps106;go_upto_region 1 with fail
   rw[<-a];clear a j;go_upto_region 4 with (go_at_call 148;refine q.mono ?_;rintro e d⟨rfl,g⟩;obtain⟨y3,Z,o⟩:=F.out d g;clear F q)
   go_wp2_with fail;go_ret;exact⟨_,rfl,(fun e=>by cases e),o⟩
namespace Lx
theorem ajv{K:List (Nat×Nat)}{e:Nat×Nat}{p:Nat}(h:vG K e=some p):K[p]?=some e:=by
 unfold vG at h
 split at h
 ·rename_i b
  cases h;have a:=List.idxOf_lt_length_of_mem b;rw[cF a,List.getElem_idxOf a]
 ·cases h
theorem ajw{K:List (Nat×Nat)}{e:Nat×Nat}(h:vG K e=none):e∉K:=by
 unfold vG at h
 split at h
 ·cases h
 ·assumption
end Lx
def Xh(c:aZ)(W:World)(S:bL)(N:Nat)(e:Ending)(W':World):Prop:=∃(v:Value)(K:List (Nat×Nat))(ss:List (List Nat)),e=.returned v/\Below W.heap.size W W'/\ng S (c.zS S) K ss/\(∀ws∈ss,ws.length=c.nw/\jD ws)/\qL W' v ((List.range N).map fun i=>fq c.nw K ss i c.P.length)
theorem aii{c:aZ}{W:World}{S:bL}{N:Nat}(kb:aj W c.lb (c.cells S) 153)(Qt:Calls prog 99 #[.pointer (some ⟨c.lb,0,none⟩)] W (LC c W S))(hT:TabAt 2 Lib.deBruijn64tab W)(hN:N<=100000)(hP:c.P.length<=100000)(az:c.nw<=1000)(Bl:∀K ss,ng S (c.zS S) K ss->(∀ws∈ss,ws.length=c.nw/\jD ws)->∀ws∈ss,(jm ws c.nw).length<=1000000):Calls prog 64 #[.pointer (some ⟨c.lb,0,none⟩),.int .i64 (N:Int)] W (Xh c W S N):=by
 obtain⟨i0,aq,al,ar,ah⟩:=ft Tryz.amf;have aa:=fun w=>akR (n:=N) hN w
 go_enter func64,ntmps64;go_upto_region 2 with (go_at_call 99;refine Qt.mono ?_;rintro e w1⟨gm,vA,K,Y,ss,rfl,J,hK,Lf,hS,L,hI⟩)
 have O:∀ws∈ss,ws.length=c.nw/\jD ws:=fun ws hws=>by
  obtain⟨i,X⟩:=eS.1 hws;obtain⟨g,C⟩:∃g,Y[i]?=some g:=⟨_,cF (by rw[L,<-hI.len];exact(cG.1 X).1)⟩;obtain⟨ax,h1,h2,h3⟩:=hS i g C;rw[X]at h1;cases h1;exact⟨h3,h2.wd⟩
 have ab:=Bl K ss hI O;obtain⟨aA,cA,rfl,-⟩:=aC Lf;obtain⟨d,iC⟩:∃b,w1.heap.size=b:=⟨_,rfl⟩;obtain⟨w2,G⟩:∃V,V=w1.alloc (.cells (vA (List.replicate N (Value.slice none 0 0))) 168):=⟨_,rfl⟩;have ae:jN w1 d d w2 (List.replicate N (.slice none 0 0)) (List.replicate N []):=by
  refine⟨by rw[G,<-iC];exact aj.new ..,by simp,fun i v l hv hl=>?_,fun i l x hl hx=>?_,fun i j v v' _ hv _ g C=>?_,zL0,by rw[G,<-iC];exact(cV _ _).alloc (zL0) _⟩
  ·rw[iu (cJ hv),iu (cJ hl)]
   exact eQ _ _ _ _
  ·rw[iu (cJ hl)]at hx
   cases hx
  ·rw[iu (cJ hv)]at C
   cases C
 have HL:Hid (∀wr,Below d w1 wr->wr.cell? ⟨c.lb,2,none⟩=some (.slice (some ⟨c.gP,0,none⟩) c.P.length c.pc)/\iy bE wr gm K/\TabAt 2 Lib.deBruijn64tab wr/\∀(p g:Nat),Y[p]?=some g->∃h,aA=some ⟨h,0,none⟩/\wr.cell? ⟨h,p,none⟩=some (.slice (some ⟨g,0,none⟩) c.nw c.nw)/\∃ws,ss[p]?=some ws/\TS wr g ws/\ws.length=c.nw):=fun wr B=>by
  rw[<-iC]at B;have af:aj w1 c.lb (c.cells S) 153:=(J.block _ kb.lt).trans kb;have LG:aj wr c.lb (c.cells S) 153:=(B.block _ af.lt).trans af;refine⟨LG.cell 2,hK.move (B.block _ hK.lt),fun j hj=>aM B (aM J (hT j hj)),fun p g C=>?_⟩;obtain⟨ws,h1,h2,h3⟩:=hS p g C;obtain⟨h,cp,e,hc⟩:=pQ Lf (j:=p) (u:=gX c.nw g) (by rw[di,C];rfl);cases e;exact⟨h,rfl,aM B (hc p _ (by rw[di,C];rfl)),ws,h1,h2.move (B.block _ h2.blk.lt),h3⟩
 have H0:Hid (∃f D,f.length=N/\jN w1 d d w2 f D/\D.map (List.map iR)=(List.range N).map fun i=>if i<0 then fq c.nw K ss i c.P.length else []):=⟨_,_,by simp,ae,by
  apply ms
  ·simp
  ·intro i h1 h2
   simp⟩
 have HF:Hid (∀v W',qL W' v ((List.range N).map fun i=>fq c.nw K ss i c.P.length)->Below d w1 W'->Xh c W S N (.returned v) W'):=fun v W' hr B=>⟨v,K,ss,rfl,J.trans (B.mono (by rw[<-iC];exact J.size)),hI,O,hr⟩
 have ai:Y.length=K.length:=L;have Hw:Hid (K.Nodup/\Y.length=K.length):=⟨hI.nd,L⟩;have ad:Hid (∀ws∈ss,(jm ws c.nw).length<=1000000):=ab;clear hI L ai hS Lf hK ae O Bl ab Qt kb hT;go_upto_region 3 with (simp only[aa])
 rw[<-G];clear G iC aa;go_wp2_with fail
 go_loopw [21] (fun i wr=>∃j:Nat,j<=N/\i=.int .i64 (j:Int)/\Hid (∃f D,f.length=N/\jN w1 d d wr f D/\D.map (List.map iR)=(List.range N).map fun i=>if i<j then fq c.nw K ss i c.P.length else [])) (fun i _=>N - (intOf i).toNat)
 case atStart=>exact⟨0,by omega,rfl,H0⟩
 case round=>
  clear H0;obtain⟨j,hj,rfl,HI⟩:=hrel;obtain⟨f,D,m,r,t⟩:=HI.out;clear HI
  by_cases hjn:j<N
  ·have j1:(j:Int)<(N:Int):=by omega
   obtain⟨c2,-⟩:=HL.out wr r.b;have H1:Hid (∃f D,f.length=N/\jN w1 d d wr f D/\D.map (List.map iR)=(List.range N).map fun i=>if i<j then fq c.nw K ss i c.P.length else if i=j then fq c.nw K ss i 0 else []):=⟨f,D,m,r,by
    rw[t];refine ml fun i _=>?_
    by_cases h1:i<j
    ·rw[dj h1,dj h1]
    ·rw[dt h1,dt h1]
     by_cases h2:i=j
     ·rw[dj h2];rfl
     ·rw[dt h2]⟩
   clear r t m;go_wp2_with fail;clear c2
   go_loopw [31] (fun i wr=>∃k:Nat,k<=c.P.length/\i=.int .i64 (k:Int)/\Hid (∃f D,f.length=N/\jN w1 d d wr f D/\D.map (List.map iR)=(List.range N).map fun i=>if i<j then fq c.nw K ss i c.P.length else if i=j then fq c.nw K ss i k else [])) (fun i _=>c.P.length - (intOf i).toNat)
   case atStart=>exact⟨0,by omega,rfl,H1⟩
   case round=>
    clear H1;revert wr;intro y hrel;obtain⟨k,hk,rfl,HI⟩:=hrel;obtain⟨f,D,m,r,t⟩:=HI.out;clear HI
    by_cases hkn:k<c.P.length
    ·have k1:(k:Int)<(c.P.length:Int):=by omega
     obtain⟨-,Hl,Xi,Ui⟩:=HL.out y r.b;cases hf:vG K (j,k) with
     |none=>
      have Q:=iy.miss Tryz.J4 Tryz.Ju Tryz.F5 Hl (ajw hf);simp only[bE]at Q;have HN:Hid (∃f D,f.length=N/\jN w1 d d y f D/\D.map (List.map iR)=(List.range N).map fun i=>if i<j then fq c.nw K ss i c.P.length else if i=j then fq c.nw K ss i (k+1) else []):=⟨f,D,m,r,by
       rw[t];refine ml fun i _=>?_
       split
       ·rfl
       ·split
        ·rename_i e
         rw[e,fq,hf,eV]
        ·rfl⟩
      clear r t m Hl Xi Ui hf;go_wp2_with fail;exact⟨⟨k+1,by omega,by go_num,HN⟩,by simp[intOf];omega⟩
     |some p=>
      have Xj:=ajv hf;have Q:=iy.hit Tryz.J4 Tryz.Ju Hl Hw.out.1 Xj;simp only[bE]at Q;have Z:=(cG.1 Xj).1;obtain⟨g,C⟩:∃g,Y[p]?=some g:=⟨_,cF (by rw[Hw.out.2];exact Z)⟩;obtain⟨h,rfl,cA,ws,hws,yG,ac⟩:=Ui p g C;obtain⟨v,hv⟩:∃v,f[j]?=some v:=⟨_,cF (by omega)⟩;obtain⟨l,hl,ho⟩:=r.at hv;obtain⟨M,E,rfl,-⟩:=aC ho;have aw:l.length<=k:=by
       have e:=fb (fun z=>z[j]?) t;simp only[List.getElem?_map,hl,List.getElem?_range hjn]at e;have e2:=ie e;simp only[Nat.lt_irrefl,if_false,if_true]at e2;have e3:=fb List.length e2;rw[dk]at e3;rw[e3];exact Sy ..
      have c0:y.cell? ⟨d,j,none⟩=some (.slice M l.length E):=by rw[r.out.cell,ge];exact hv
      have lo:=r.out.lt;have cO:∀o,(y.alloc o).cell? ⟨d,j,none⟩=some (.slice M l.length E):=fun o=>(cM (w:=y) (dg _ _ _ lo)).trans c0
      have av:=ad.out ws (cJ hws);have Qp:=ah4 (bx:=y.heap.size) (g:=g) (c:=c.nw) (ws:=ws) (by omega);rw[ac]at Qp;have Ve:=ah5 (w:=y.drew) (a:=some ⟨g,0,none⟩) (n:=c.nw) (c:=c.nw);obtain⟨F,H⟩:∃V,V=y.drew.alloc (.cells #[.slice (some ⟨g,0,none⟩) c.nw c.nw] 214):=⟨_,rfl⟩;have kC:aj F y.heap.size #[.slice (some ⟨g,0,none⟩) c.nw c.nw] 214:=by rw[H];exact aj.new ..
      have A:Below y.heap.size y F:=by
       rw[H];have:=(cV y.heap.size y.drew).alloc (zL0) (.cells #[.slice (some ⟨g,0,none⟩) c.nw c.nw] 214);exact⟨this.1,this.2,this.3,this.4,this.5⟩
      have Vf:=ag0 (w:=F) Qp (fun W' B=>⟨(B.block _ kC.lt).trans kC,yG.move ((B.block _ (dd yG.blk.lt A.size)).trans (A.block _ yG.blk.lt)),fun i X=>aM B (aM A (Xi i X))⟩) (by omega);rw[<-H]at Ve;have cX:F.cell? ⟨d,j,none⟩=some (.slice M l.length E):=aM A c0;have H5:Hid (∀s,Below F.heap.size F s->jN w1 d d s f D):=fun s B=>(r.move A).move B
      have an:Hid (F.heap.size=F.heap.size/\d<=F.heap.size):=⟨rfl,de r.size A.size⟩;have HD:Hid (fq c.nw K ss j (k+1)=fq c.nw K ss j k++[(k,jm ws c.nw)]):=by
       show _=_;rw[fq,hf];simp only;rw[ej,hws];rfl
      have R:Hid (f[j]?=some (.slice M l.length E)/\D[j]?=some l/\f.length=N/\D.map (List.map iR)=(List.range N).map fun i=>if i<j then fq c.nw K ss i c.P.length else if i=j then fq c.nw K ss i k else []):=⟨hv,hl,m,t⟩;have d0:(0:Int)<=(j:Int):=by omega
      have d1:(0:Int)<=(p:Int):=by omega
      have d2:(p:Int)<(Y.length:Int):=by have:=Hw.out.2;omega
      clear r t m Hl Xi Ui hf Xj Z C hws yG ac hv hl ho Qp H kC A;generalize jm ws c.nw=xs at Vf HD av;go_upto_region 11 with fail
      go_region_law (first
       | (refine jW rfl 101 #[.slice (some ⟨g,0,none⟩) c.nw c.nw] (by go_simp) Ve ?_;rintro e wq⟨rfl,am⟩;subst am;refine⟨_,rfl,?_⟩;clear Ve)
       | (refine jW rfl 100 #[.func (.func 140) #[] #[.pointer (some ⟨y.heap.size,0,none⟩)]] (by go_simp) Vf ?_;rintro e s⟨v5,rfl,uF,ag⟩;obtain⟨U,T,rfl,-⟩:=aC uF;refine⟨_,rfl,?_⟩;have I:=H5.out s ag;have c5:s.cell? ⟨d,j,none⟩=some (.slice M l.length E):=(by rw[I.out.cell,ge];exact R.out.1);have c6:∀o,(s.alloc o).cell? ⟨d,j,none⟩=some (.slice M l.length E):=(fun o=>(cM (w:=s) (dg _ _ _ I.out.lt)).trans c5);have o6:=(I.row j _ l R.out.1 R.out.2.1).alloc (.cells #[.int .i64 (k:Int),.slice U xs.length T] 170);have AZ:=I.out.alloc (.cells #[.int .i64 (k:Int),.slice U xs.length T] 170);have ap:(Value.slice M l.length E).ownBlock≠some d:=(fun e=>(I.kv R.out.1 e).ne I.ko (by decide) rfl);have ao:d<=(s.alloc (.cells #[.int .i64 (k:Int),.slice U xs.length T] 170)).heap.size:=de I.size (bJ s _ none).size;have H6:Hid (jN w1 d d s f D/\s.ownsRow d 3 1 (.slice U xs.length T) xs.length (xs.map fG)):=⟨I,jb uF an.out.2⟩;clear I uF ag Vf H5)
       | (refine step_append_lies _ rfl (.tmp 48) (.tmp 57) 168 rfl d 170 i0 _ 2 32 Tryz.am3 aq al ar ah rfl (by decide) (.slice M l.length E) l.length (l.flatMap mZ) (by simp[Act.eval]) o6 ⟨s.heap.size,0,none⟩ 1 1 [.int .i64 (k:Int),.slice U xs.length T] (by simp[Act.eval]) rfl (eO (aj.new s _ 170)) (by simp[Value.oneCell']) (by decide) (by unfold maxLen;omega) (by omega) ao _ rfl ?_;intro g9 dI w9 nL jw mh Gm;have jC:=AZ.grown jw (fun e=>ap e.symm);have c9:w9.cell? ⟨d,j,none⟩=some (.slice M l.length E):=(by rw[jC.cell,ge];exact R.out.1);have f9:=jC.frozen j))
      all_goals
       have HN:Hid (∃f D,f.length=N/\jN w1 d d (w9.setCell ⟨d,j,none⟩ (.slice (some ⟨g9,0,none⟩) (l.length+1) dI)) f D/\D.map (List.map iR)=(List.range N).map fun i=>if i<j then fq c.nw K ss i c.P.length else if i=j then fq c.nw K ss i (k+1) else []):=by
        obtain⟨hv,hl,m,t⟩:=R.out;refine⟨_,_,by rw[ii];exact m,H6.out.1.app (x:=(k,xs,.slice U xs.length T)) hv hl (aR (bJ s _ _) jw) (by rw[cH,gw];exact nL) H6.out.2 (by
         rcases mh with e|e
         ·exact .inl e.symm
         ·exact .inr ⟨g9,rfl,by rw[e];exact(bJ s _ none).size⟩),?_⟩
        rw[oj,t,eJ];apply oy;intro i;rw[fx];have ak:l.map iR=fq c.nw K ss j k:=by
         have e:=fb (fun z=>z[j]?) t;simp only[List.getElem?_map,hl,List.getElem?_range hjn]at e;have e2:=ie e;simpa using e2
        by_cases e:j=i
        ·subst e
         rw[dj rfl,dj (by simp;exact hjn),di,sY hjn,ak];simp only[Option.map_some,Nat.lt_irrefl,if_false,if_true,HD.out];rfl
        ·rw[dt e,di,di]
         cases hr:(List.range N)[i]? with
         |none=>rfl
         |some q=>
          have hq:q=i:=by
           obtain⟨h1,h2⟩:=cG.1 hr;rw[<-h2,uu]
          simp only[Option.map_some,hq,if_neg (fun h=>e h.symm:¬i=j)]
       clear nL jw mh jC c9 f9 o6 AZ c5 c6 H6 R HD;go_wp2_with fail;exact⟨⟨k+1,by omega,by go_num,HN⟩,by simp[intOf];omega⟩
    ·obtain rfl:k=c.P.length:=by omega
     have HE:Hid (∃f D,f.length=N/\jN w1 d d y f D/\D.map (List.map iR)=(List.range N).map fun i=>if i<j+1 then fq c.nw K ss i c.P.length else []):=⟨f,D,m,r,by
      rw[t];refine ml fun i _=>?_
      by_cases h1:i<j
      ·rw[dj h1,dj (by omega)]
      ·rw[dt h1]
       by_cases h2:i=j
       ·rw[dj h2,dj (by omega)]
       ·rw[dt h2,dt (by omega)]⟩
     clear r t m;go_wp2_with fail;exact⟨⟨j+1,by omega,by go_num,HE⟩,by simp[intOf];omega⟩
  ·obtain rfl:j=N:=by omega
   have HR:Hid (Xh c W S j (.returned (.slice (some ⟨d,0,none⟩) j j)) wr):=HF.out _ _ (by
    have:=r.rows;rw[m,t]at this;have e:((List.range j).map fun i=>if i<j then fq c.nw K ss i c.P.length else [])=(List.range j).map fun i=>fq c.nw K ss i c.P.length:=ml fun i X=>dj (pM.1 X)
    rw[e]at this;exact this) r.b
   clear r t m HL Hw ad;go_wp2_with fail;go_ret;exact HR.out
