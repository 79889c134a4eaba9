import Derived.Deep.DrawnRows
import Derived.Shelf.SlSortCmp.InsertionK
import Derived.Test.YtfpjphhnjegnjaaGreatDoorCL08
import Derived.Shelf.Small.Bits
set_option maxHeartbeats 8000000
set_option maxRecDepth 1000000
namespace Go.Proofs.YtfpjphhnjegnjaaGreatDoor
open Lx Go.Proofs.Tryz
open Go.RowKit Tr
open Go.Value renaming slice→ς,int→ι,string→τ,pointer→π,bool→μ,agg→γ,tuple→θ
open Go.IntKind renaming i64→ξ
open Option renaming none→ν,some→ο
open Go.Ending renaming returned→δ
open Go.Obj renaming cells→ζ
open Bool renaming true→η,false→ε
open Go renaming World→ω,Value→υ,Calls→χ
open Go.RowKit renaming Below→φ
open List renaming replicate→ψ
variable{B b c e f i j n nN nT nc r sz tc z:Nat}{C F K k:List au}{D:Nat->Prop}{N:List ByteArray}{P:List Pd}{a w w':ω}{cur:Array υ}{ks l:List (List au)}{na ta:Option Addr}{o q v vB vP vQ:υ}{s:ByteArray}
def pu(a b:Int):Int:=if a<b then -1 else if b<a then 1 else 0
theorem TT(a:Int)(w:ω):χ prog 190 #[ι ξ a] w fun e w'=>e=δ (μ ε)/\w'=w:=by
 go_enter func190,ntmps190;go_wp2_with fail;go_ret;exact⟨rfl,rfl⟩
theorem alW(a b:Int)(w:ω):χ prog 152 #[ι ξ a,ι ξ b] w fun e w'=>e=δ (ι ξ (pu a b))/\w'=w:=by
 go_enter func152,ntmps152;unfold pu
 by_cases h1:a<b
 ·rw[du h1]
  go_wp2_with (go_at_call 190;refine(TT _ _).mono ?_;rintro e w'⟨rfl,c⟩;obtain rfl:=c.symm)
  go_ret;exact⟨rfl,rfl⟩
 ·rw[dt h1]
  by_cases h2:b<a
  ·rw[du h2]
   go_wp2_with (go_at_call 190;refine(TT _ _).mono ?_;rintro e w'⟨rfl,c⟩;obtain rfl:=c.symm)
   go_ret;exact⟨rfl,rfl⟩
  ·rw[dt h2]
   go_wp2_with (go_at_call 190;refine(TT _ _).mono ?_;rintro e w'⟨rfl,c⟩;obtain rfl:=c.symm)
   go_ret;exact⟨rfl,rfl⟩
def zZ(a b c:Int):Int:=if a=0 then (if b=0 then c else b) else a
theorem amL(a b c:Int)(g:Nat)(w:ω)(s:w.cell? ⟨g,0,ν⟩=ο (ι ξ a))(h1:w.cell? ⟨g,1,ν⟩=ο (ι ξ b))(h2:w.cell? ⟨g,2,ν⟩=ο (ι ξ c)):χ prog 151 #[ς (ο ⟨g,0,ν⟩) 3 3] w fun e w'=>e=δ (ι ξ (zZ a b c))/\w'=w:=by
 have q:Hid (zZ a b c=zZ a b c):=rfl;generalize hr:zZ a b c=r;have o:Hid _:=hr;clear hr q;go_enter func151,ntmps151;go_wp2_with fail
 go_loopg [8] 3 (fun m i wr=>∃j:Nat,j+m=3/\i=ι ξ (j:Int)/\wr=w/\Hid ((0<j->a=0)/\(1<j->b=0)/\(2<j->c=0)))
 case atStart=>exact⟨0,by omega,rfl,rfl,⟨by omega,by omega,by omega⟩⟩
 case round=>
  obtain⟨j,l,rfl,rfl,n⟩:=hrel;have d:=n.out
  match j,l,d with
  |0,l,d=>
   clear n d
   by_cases f:a=0
   ·go_wp2_with fail
    go_roundg 2
    case measure=>omega
    case rel=>exact⟨1,by omega,by go_num,rfl,⟨fun _=>f,by omega,by omega⟩⟩
   ·go_wp2_with fail
    go_ret;exact⟨by rw[<-o.out];unfold zZ;rw[dt f];rfl,rfl⟩
  |1,l,d=>
   have f:=d.1 (by omega);clear n d
   by_cases k:b=0
   ·go_wp2_with fail
    go_roundg 1
    case measure=>omega
    case rel=>exact⟨2,by omega,by go_num,rfl,⟨fun _=>f,fun _=>k,by omega⟩⟩
   ·go_wp2_with fail
    go_ret;exact⟨by rw[<-o.out];unfold zZ;rw[du f,dt k];rfl,rfl⟩
  |2,l,d=>
   have f:=d.1 (by omega);have k:=d.2.1 (by omega);clear n d
   by_cases p:c=0
   ·go_wp2_with fail
    go_roundg 0
    case measure=>omega
    case rel=>exact⟨3,by omega,by go_num,rfl,⟨fun _=>f,fun _=>k,fun _=>p⟩⟩
   ·go_wp2_with fail
    go_ret;exact⟨by rw[<-o.out];unfold zZ;rw[du f,du k];rfl,rfl⟩
  |3,l,d=>
   have f:=d.1 (by omega);have k:=d.2.1 (by omega);have p:=d.2.2 (by omega);clear n d;go_wp2_with fail;go_ret;exact⟨by rw[<-o.out];unfold zZ;rw[du f,du k,p];rfl,rfl⟩
  |j+4,l,d=>omega
attribute [local go_sem ↓] Go.wp_at_zero Go.wp_at_succ
def gZ(m:Nat×(Nat×Nat)):List υ:=[ι ξ (m.1:Int),ι ξ (m.2.1:Int),ι ξ (m.2.2:Int)]
def zA(x y:Nat×(Nat×Nat)):Int:=zZ (pu (x.1:Int) (y.1:Int)) (pu (x.2.1:Int) (y.2.1:Int)) (pu (x.2.2:Int) (y.2.2:Int))
theorem ai5(x y:Nat×(Nat×Nat))(W:ω):χ prog 150 #[γ (gZ x).toArray,γ (gZ y).toArray] W fun e w'=>e=δ (ι ξ (zA x y))/\∃q os',w'=Go.Sort.grow (W.drewN q) os':=by
 obtain⟨b,x1,x2⟩:=x;obtain⟨d,c,f⟩:=y;unfold zA;simp only[gZ];obtain⟨i,a⟩:=aC ((W.alloc (ζ #[ι ξ (b:Int),ι ξ (x1:Int),ι ξ (x2:Int)] 225)).alloc (ζ #[ι ξ (d:Int),ι ξ (c:Int),ι ξ (f:Int)] 225));go_enter func150,ntmps150;have kA:aj i W.heap.size #[ι ξ (b:Int),ι ξ (x1:Int),ι ξ (x2:Int)] 225:=by rw[a];exact(aj.new W _ 225).alloc _
 have kB:aj i (W.heap.size+1) #[ι ξ (d:Int),ι ξ (c:Int),ι ξ (f:Int)] 225:=by rw[a];simpa using aj.new (W.alloc (ζ #[ι ξ (b:Int),ι ξ (x1:Int),ι ξ (x2:Int)] 225)) #[ι ξ (d:Int),ι ξ (c:Int),ι ξ (f:Int)] 225
 have a0:=kA.a0;have a1:=kA.a1;have a2:=kA.a2;have n:=kB.a0;have l:=kB.a1;have m:=kB.a2;go_upto_region 1 with fail
 rw[<-a];have j:Hid (∃q os',i=Go.Sort.grow (W.drewN q) os'):=⟨0,_,by rw[a,Go.Sort.alloc_eq_grow,Go.Sort.alloc_eq_grow,Go.Sort.grow_grow];rfl⟩;clear a kA kB
 go_region_held3 (fun w'=>w'.cell? ⟨W.heap.size,0,ν⟩=ο (ι ξ (b:Int))/\w'.cell? ⟨W.heap.size,1,ν⟩=ο (ι ξ (x1:Int))/\w'.cell? ⟨W.heap.size,2,ν⟩=ο (ι ξ (x2:Int))/\w'.cell? ⟨W.heap.size+1,0,ν⟩=ο (ι ξ (d:Int))/\w'.cell? ⟨W.heap.size+1,1,ν⟩=ο (ι ξ (c:Int))/\w'.cell? ⟨W.heap.size+1,2,ν⟩=ο (ι ξ (f:Int))) (go_keep) (first
  | (go_at_call 152;refine(alW _ _ _).mono ?_;rintro e w'⟨rfl,g⟩;obtain rfl:=g.symm)
  | (go_at_call 151;refine(amL (pu (b:Int) (d:Int)) (pu (x1:Int) (c:Int)) (pu (x2:Int) (f:Int)) _ _ (by simp) (by simp) (by simp)).mono ?_;rintro e w'⟨rfl,g⟩;obtain rfl:=g.symm))
 all_goals
  go_wp2_with fail;go_ret;obtain⟨q,os',k⟩:=j.out;refine⟨rfl,q+1,os'++#[ζ #[ι ξ (pu (b:Int) (d:Int)),ι ξ (pu (x1:Int) (c:Int)),ι ξ (pu (x2:Int) (f:Int))] 3],?_⟩;rw[k,<-Go.Sort.grow_grow,<-Go.Sort.alloc_eq_grow];rfl
theorem akA(a:υ)(w:ω):χ prog 201 #[ς ν 0 0,ι ξ 0,ι ξ 0,a] w fun e w'=>e=δ (θ #[])/\w'=w:=by
 go_enter func201,ntmps201;go_wp2_with fail
 go_loopg [8] 0 (fun m i wr=>i=ι ξ 1/\wr=w)
 case atStart=>exact⟨rfl,rfl⟩
 case round=>
  obtain⟨rfl,rfl⟩:=hrel;go_wp2_with fail
  go_end0
  exact⟨rfl,rfl⟩
theorem akB(b:υ)(l:Int)(w:ω):χ prog 188 #[ς ν 0 0,ι ξ 0,ι ξ 0,ι ξ l,b] w fun e w'=>e=δ (θ #[])/\w'=w:=by
 go_enter func188,ntmps188;go_wp2_with fail;refine wp_loop_rounds 1 ?_;rw[rounds_succ]
 go_wp2_with (go_at_call 201;refine(akA _ _).mono ?_;rintro e w'⟨rfl,a⟩;obtain rfl:=a.symm)
 (try simp only[Exit.inBlock,Exit.then]);refine iS (po rfl _ _ _) rfl ?_
 exact⟨rfl,rfl⟩
theorem ai6(b:υ)(w:ω):χ prog 149 #[ς ν 0 0,b] w fun e w'=>e=δ (θ #[])/\w'=w:=by
 have c:∀W,χ prog 189 #[ι .u64 0] W fun e w'=>e=δ (ι ξ (Lib.bitLen 0:Nat))/\w'=W:=fun W=>Any.bits_Len (SlLaysF0.n15.bits (P:=prog) (ρ:=Tryz.Zz) { Tryz.ac6 with }) 0 W (by omega) (by omega)
 go_enter func149,ntmps149
 go_wp2_with (first|(go_at_call 189;refine(c _).mono ?_;rintro e w'⟨rfl,a⟩;obtain rfl:=a.symm)|(go_at_call 188;refine(akB _ _ _).mono ?_;rintro e w'⟨rfl,a⟩;obtain rfl:=a.symm))
 go_end0
 exact⟨rfl,rfl⟩
theorem IJ:vz gZ 3:=⟨fun _=>rfl,fun s u a=>by simp only[gZ,List.mem_cons,List.not_mem_nil,or_false]at a;rcases a with rfl|rfl|rfl <;> rfl⟩
theorem TU{a b:Int}:pu a b<0↔a<b:=by
 unfold pu
 split
 ·simp[*]
 ·split
  ·simp[*]
  ·simp[*]
theorem Ny{a b:Int}:pu a b=0↔a=b:=by
 unfold pu
 split
 ·simp;omega
 ·split
  ·simp;omega
  ·simp;omega
theorem alX{x y:Nat×au}:zA x y<0↔ou x y:=by
 unfold zA zZ ou ig
 by_cases h1:pu (x.1:Int) (y.1:Int)=0
 ·rw[du h1]
  have b:=Ny.1 h1
  by_cases h2:pu (x.2.1:Int) (y.2.1:Int)=0
  ·rw[du h2,TU]
   have a:=Ny.1 h2;omega
  ·rw[dt h2,TU]
   have a:¬(x.2.1:Int)=(y.2.1:Int):=fun e=>h2 (Ny.2 e)
   omega
 ·rw[dt h1,TU]
  have b:¬(x.1:Int)=(y.1:Int):=fun e=>h1 (Ny.2 e)
  omega
theorem QZ(x y:Nat×au):ltOf zA x y=η↔ou x y:=by
 unfold ltOf;simp only[decide_eq_true_eq];exact alX
theorem JC(x y:Nat×au):ltOf zA x y=ε↔¬ou x y:=by rw[<-QZ,rI]
theorem aoq:Go.Sort.SWO (ltOf zA) where
 irrefl x:=(JC _ _).2 (by unfold ou ig;omega)
 trans x y z h1 h2:=(QZ _ _).2 (by have:=(QZ _ _).1 h1;have:=(QZ _ _).1 h2;unfold ou ig at *;omega)
 ntrans x y z h1 h2:=(JC _ _).2 (by have:=(JC _ _).1 h1;have:=(JC _ _).1 h2;unfold ou ig at *;omega)
theorem ZC{α:Type}[Inhabited α]{enc:α->List υ}{k:Nat}(hE:vz enc k)(hk:0<k)(M:List α):(Go.Sort.flatK enc k M.toArray).toList=M.flatMap enc:=by
 apply pS;intro t
 by_cases ht:t<M.length*k
 ·have hd:=(Nat.div_lt_iff_lt_mul hk).2 ht
  have c:t % k<k:=vj _ hk;have e:t=t / k*k+t % k:=by rw[BE];exact(Nat.div_add_mod t k).symm
  have h1:(M.flatMap enc)[t]?=(enc M[t / k])[t % k]?:=by
   conv=>lhs;rw[e]
   exact hE.Vr hd c
  have a:t % k<(enc M[t / k]).length:=by rw[hE.len];exact c
  have d:(Go.Sort.flatK enc k M.toArray).size=M.length*k:=by simp[Go.Sort.flatK]
  have b:t<(Go.Sort.flatK enc k M.toArray).size:=by rw[d];exact ht
  rw[h1,cG a,gz,lr b];have h2:=Go.Sort.get_flatK enc k M.toArray t (by simpa using ht);rw[sr _ t b,sr M.toArray (t / k) (by simpa using hd)]at h2;simp only[List.getElem_toArray]at h2;rw[sr (enc M[t / k]) (t % k) a]at h2;rw[h2]
 ·have d:(Go.Sort.flatK enc k M.toArray).toList.length=M.length*k:=by rw[jx];simp[Go.Sort.flatK]
  have f:=hE.Kt M;rw[kf (l:=(Go.Sort.flatK enc k M.toArray).toList) (by omega),kf (l:=M.flatMap enc) (by omega)]
theorem ai7{g:Nat}{M:List (Nat×au)}(h:aO 225 3 gZ B w (ς (ο ⟨g,0,ν⟩) M.length c) M):Go.Sort.HoldsK gZ 3 w g 0 M.toArray:=by
 have m:=oj h (g:=g) rfl;have k:=ZC IJ (by decide) M;intro j f;have d:(M.flatMap gZ)[j]?=ο (Go.Sort.flatK gZ 3 M.toArray)[j]!:=by
  rw[<-k,gz,lr f,sr _ j f]
 refine⟨?_,?_⟩
 ·have:=m j _ d
  rw[show (⟨g,0,ν⟩:Addr).add j=⟨g,0+j,ν⟩ by unfold Addr.add;split <;> simp_all]at this;exact this
 ·rcases h.2 with ⟨b,-⟩ | ⟨n,i,a,b,-,l,-⟩
  ·cases b
  ·cases b
   exact aj.frozen (cs:=a) (e:=225) l _
theorem ai8{a:List (Nat×au)}(f:a.Nodup)(h:Go.Sort.SortedIn (ltOf zA) 0 a.length a.toArray):a.Pairwise ou:=by
 rw[mN];intro i j d c b;have h1:=h i j (fi _) b c;rw[sr a.toArray j (by simpa using c),sr a.toArray i (by simpa using d)]at h1;simp only[List.getElem_toArray]at h1;have h2:=(JC _ _).1 h1;have h3:a[i]≠a[j]:=fun e=>absurd ((mC f).1 e) (by omega)
 generalize a[i]=x at h2 h3;generalize a[j]=y at h2 h3;have h4:¬(x.1=y.1/\x.2.1=y.2.1/\x.2.2=y.2.2):=fun e=>h3 (sE e.1 (sE e.2.1 e.2.2))
 unfold ou ig at *;omega
theorem heap_put{g:Nat}{d:Array (Nat×au)}{os:Array Obj}(f:w.heap[g]?=ο (ζ cur 225 (0,0))):(sortWorldK gZ 3 w g 0 n d os).heap[g]?=ο (ζ (Go.Sort.putCells id 0 (Go.Sort.flatK gZ 3 d) cur) 225 (0,0))/\(∀b,b<w.heap.size->b≠g->(sortWorldK gZ 3 w g 0 n d os).heap[b]?=w.heap[b]?)/\w.heap.size<=(sortWorldK gZ 3 w g 0 n d os).heap.size:=by
 have a:=(ei.1 f).1;unfold sortWorldK Go.Sort.putRowK Go.Sort.putRow Go.Sort.mapBlock Go.Sort.ahead Go.Sort.grow;simp only;refine⟨?_,fun b i c=>?_,?_⟩
 ·rw[pP (by simpa using a),pg,du rfl,f]
  rfl
 ·rw[pP (by simpa using i),pg,dt (fun e=>c e.symm)]
 ·simp
theorem afC{F:Array υ}(h:F.size<=cur.size):(Go.Sort.putCells id 0 F cur).toList.take F.size=F.toList/\(Go.Sort.putCells id 0 F cur).size=cur.size:=by
 refine⟨?_,by simp[Go.Sort.putCells]⟩;apply od
 ·simp[Go.Sort.putCells];omega
 ·intro i h1 h2
  have a:i<F.size:=by simpa using h2
  simp only[List.getElem_take,Array.getElem_toList,Go.Sort.putCells,Array.getElem_mapIdx];rw[du ⟨fi _,by omega⟩,sX,sr F i a];rfl
theorem akC{M:List (Nat×au)}(h:aO 225 3 gZ B w v M)(P:M.length<=1000000)(u:M.Nodup):χ prog 149 #[v,.func (.func 150) #[] #[]] w fun e w'=>e=δ (θ #[])/\∃M':List (Nat×au),M'.Perm M/\M'.Pairwise ou/\aO 225 3 gZ B w' v M'/\φ B w w':=by
 have C:=h;unfold aO at C;rcases C.2 with ⟨rfl,i⟩|⟨g,k,cur,rfl,t,A,m,s,p,G⟩
 ·obtain rfl:M=[]:=ir i
  refine(ai6 _ w).mono ?_;rintro e w'⟨rfl,rfl⟩;exact⟨rfl,[],.refl _,.nil,h,cV _ _⟩
 ·have H:∀args w,(callFunc 150 args).run prog w=.ok (.enter 150 args) w:=enters_of func150 (by kernel_rfl) rfl
  have J:=ai7 h;have r:=(ei.1 A).1;have q:CmpLays prog 150 #[] gZ 3 zA g 0 M.toArray.size w:=fun _ _ _ _ x y=>ai5 x y _
  have o:=AnyQ.slices_SortFunc Tryz.ac6 3 Tryz.isAgg225 Tryz.sizeOf225 gZ (fun _=>rfl) IJ.one zA aoq 150 #[] g 0 k M.toArray w H q J r (by simp;omega);refine Calls.mono o ?_;rintro e w'⟨rfl,a,n,os,hp,K,rfl⟩;obtain⟨p1,-,z⟩:=hp;have hsz:a.size=M.length:=by simpa using p1
  have c:a.toList.Perm M:=by
   have N:a.extract 0 M.toArray.size=a:=by rw[<-p1];simp
   have I:M.toArray.extract 0 M.toArray.size=M.toArray:=by simp
   rw[N,I]at z;exact z
  obtain⟨D,L,E⟩:=heap_put (n:=n) (d:=a) (os:=os) A;have l:(Go.Sort.flatK gZ 3 a).toList=a.toList.flatMap gZ:=by
   have:=ZC IJ (by decide) a.toList;simpa using this
  have j:(Go.Sort.flatK gZ 3 a).size=M.length*3:=by rw[<-jx,l,IJ.Kt,jx,hsz]
  obtain⟨t1,t2⟩:=afC (F:=Go.Sort.flatK gZ 3 a) (cur:=cur) (by rw[j,p];exact kj 3 m);refine⟨rfl,a.toList,c,ai8 (c.nodup_iff.2 u) ?_,?_,?_⟩
  ·rw[jx,hsz]
   simpa using K
  ·have f:a.toList.length=M.length:=by rw[jx,hsz]
   refine⟨IJ.Kt _,.inr ⟨g,k,_,by rw[f],t,D,by rw[f];exact m,s,by rw[t2];exact p,?_⟩⟩;rw[f,<-j,t1,l]
  ·exact⟨rfl,rfl,rfl,E,fun b O=>L b (by omega) (by omega)⟩
namespace Lx
structure jY(P:List Pd)(i n:Nat)(S:bI):Prop where
 nd:S.ks.Nodup
 zero:S.ks[0]?=ο [(0,0)]
 kn:∀(j:Nat),j<S.ks.length->0<j->∃f m,f<j/\(f,m,j)∈S.es
 es:∀e∈S.es,(e.1<i\/(e.1=i/\e.2.1<n))/\0<e.2.2/\∃K,S.ks[e.1]?=ο K/\S.ks[e.2.2]?=ο (jh P K e.2.1)/\jh P K e.2.1≠[]
 pw:S.es.Pairwise fun a b=>a.1<b.1\/(a.1=b.1/\a.2.1<b.2.1)
 all:∀(j:Nat)(K:List au)(m:Nat),S.ks[j]?=ο K->(j<i\/(j=i/\m<n))->jh P K m≠[]->∃t,(j,m,t)∈S.es
 rise:∀(j:Nat)(K:List au),S.ks[j]?=ο K->K.Pairwise ig
theorem alY{s:au}(h:s∈jh P K n):0<s.2:=by
 obtain⟨t,-,-,rfl⟩:=F7.1 h;exact Nat.succ_pos _
theorem ac9(h:ji l k<l.length):l[ji l k]?=ο k:=by
 unfold ji at *;rw[cG h];have:=ri (w:=h);simpa using this
theorem ada(h:¬ji l k<l.length):k∉l:=by
 intro a;apply h;unfold ji;rw[B3];exact⟨k,a,by simp⟩
theorem jY.first(P:List Pd):jY P 0 0 ⟨[[(0,0)]],[]⟩:=by
 refine⟨by simp,rfl,fun j h1 h2=>?_,(fun e a=>by cases a),pC,(fun j K m _ h=>by omega),fun j K h=>?_⟩
 ·simp at h1;omega
 ·cases j with
  |zero=>cases h;simp
  |succ j=>simp at h
theorem jY.mono{S:bI}(h:jY P i n S)(b:S.ks[i]?=ο K)(a:jh P K n=[]):jY P i (n+1) S:=by
 refine⟨h.nd,h.zero,h.kn,fun e h1=>?_,h.pw,fun j c m h1 h2 h3=>?_,h.rise⟩
 ·obtain⟨h2,h3⟩:=h.es e h1
  exact⟨by omega,h3⟩
 ·by_cases e:j=i/\m=n
  ·obtain⟨rfl,rfl⟩:=e
   rw[b]at h1;cases h1;exact absurd a h3
  ·exact h.all j c m h1 (by omega) h3
theorem jY.edge{P:List Pd}{i n:Nat}{S:bI}(h:jY P i n S){K:List au}(u:S.ks[i]?=ο K):jY P i (n+1) (Lx.edge P i K S n):=by
 unfold Lx.edge
 by_cases he:jh P K n=[]
 ·rw[du he];exact h.mono u he
 ·rw[dt he]
  have E:=(cH.1 u).1;have p:∀t:Nat,(S.es++[(i,n,t)]).Pairwise fun(a b:Mh)=>a.1<b.1\/(a.1=b.1/\a.2.1<b.2.1):=fun t=>by
   rw[rh];refine⟨h.pw,by simp,fun a z b q=>?_⟩;rw[dd]at q;subst q;have:=(h.es a z).1;simp only;omega
  have C:jh P K n≠[(0,0)]:=fun e=>by
   have:=alY (P:=P) (K:=K) (n:=n) (s:=(0,0)) (by rw[e];simp);exact absurd this (by simp)
  by_cases hx:ji S.ks (jh P K n)<S.ks.length
  ·rw[du hx]
   have k:=ac9 hx;refine⟨h.nd,h.zero,fun j h1 h2=>?_,fun e o=>?_,p _,fun j c m h1 h2 h3=>?_,h.rise⟩
   ·obtain⟨f,m,y,h3⟩:=h.kn j h1 h2
    exact⟨f,m,y,dq.2 (.inl h3)⟩
   ·rcases dq.1 o with h1 | h1
    ·obtain⟨h2,h3⟩:=h.es e h1
     exact⟨by omega,h3⟩
    ·rw[dd]at h1
     subst h1;refine⟨.inr ⟨rfl,tr _⟩,?_,K,u,k,he⟩;apply Nat.pos_of_ne_zero;intro B;have x:ji S.ks (jh P K n)=0:=B;rw[x,h.zero]at k;exact C (fL k).symm
   ·by_cases e:j=i/\m=n
    ·obtain⟨rfl,rfl⟩:=e
     exact⟨_,dq.2 (.inr eE)⟩
    ·obtain⟨t,v⟩:=h.all j c m h1 (by omega) h3
     exact⟨t,dq.2 (.inl v)⟩
  ·rw[dt hx]
   have r:=ada hx;have d:∀{j:Nat}{c:List au},S.ks[j]?=ο c->(S.ks++[jh P K n])[j]?=ο c:=fun{j c}h1=>by
    rw[eL (cH.1 h1).1];exact h1
   have g:∀{j:Nat}{c:List au},(S.ks++[jh P K n])[j]?=ο c->S.ks[j]?=ο c\/(j=S.ks.length/\c=jh P K n):=fun{j c}h1=>by
    rw[kh]at h1
    split at h1
    ·exact .inl h1
    ·rename_i A
     have G:j=S.ks.length:=by
      have:=(cH.1 h1).1;simp at this;omega
     subst G;simp at h1;exact .inr ⟨rfl,h1.symm⟩
   have l:(S.ks++[jh P K n])[S.ks.length]?=ο (jh P K n):=by simp
   refine⟨?_,d h.zero,fun j h1 h2=>?_,fun e o=>?_,p _,fun j c m h1 h2 h3=>?_,fun j c h1=>?_⟩
   ·rw[j7]
    refine⟨h.nd,by simp,fun a z b q e=>?_⟩;rw[dd]at q;subst q;exact r (e▸z)
   ·simp only[List.length_append,List.length_cons,List.length_nil]at h1
    by_cases e:j=S.ks.length
    ·subst e
     exact⟨i,n,E,dq.2 (.inr eE)⟩
    ·obtain⟨f,m,y,h3⟩:=h.kn j (by omega) h2
     exact⟨f,m,y,dq.2 (.inl h3)⟩
   ·rcases dq.1 o with h1 | h1
    ·obtain⟨h2,h3,c,h4,D,F⟩:=h.es e h1
     exact⟨by omega,h3,c,d h4,d D,F⟩
    ·rw[dd]at h1
     subst h1;exact⟨.inr ⟨rfl,tr _⟩,by show 0<S.ks.length;omega,K,d u,l,he⟩
   ·rcases g h1 with h1 | ⟨rfl,-⟩
    ·by_cases e:j=i/\m=n
     ·obtain⟨rfl,rfl⟩:=e
      exact⟨_,dq.2 (.inr eE)⟩
     ·obtain⟨t,v⟩:=h.all j c m h1 (by omega) h3
      exact⟨t,dq.2 (.inl v)⟩
    ·omega
   ·rcases g h1 with h1 | ⟨-,rfl⟩
    ·exact h.rise j c h1
    ·exact acR _ _ _
theorem jY.leave{P:List Pd}{i:Nat}{K:List au}:∀(q n:Nat)(S:bI),jY P i n S->S.ks[i]?=ο K->jY P i (n+q) (Lx.leave P i K S (List.range' n q))/\(Lx.leave P i K S (List.range' n q)).ks[i]?=ο K
 |0,n,S,h,hK=>⟨h,hK⟩
 |q+1,n,S,h,hK=>by
  rw[List.range'_succ];have:=jY.leave q (n+1) (Lx.edge P i K S n) (h.edge hK) (abX hK);rw[show n+1+q=n+(q+1) by omega]at this;exact this
theorem jY.next{st:Nat}{S:bI}(hp:nO P sz st)(h:jY P i sz S):jY P (i+1) 0 S:=by
 refine⟨h.nd,h.zero,h.kn,fun e h1=>?_,h.pw,fun j c m h1 h2 h3=>?_,h.rise⟩
 ·obtain⟨h2,h3⟩:=h.es e h1
  exact⟨by omega,h3⟩
 ·refine h.all j c m h1 ?_ h3
  by_cases e:j=i
  ·refine .inr ⟨e,?_⟩
   obtain⟨s,a⟩:=List.exists_mem_of_ne_nil _ h3;obtain⟨t,-,b,-⟩:=F7.1 a;exact(Og hp b).1
  ·omega
end Lx
theorem Tryz.alZ:(prog.info? 225).map (fun i=>(i.zero,i.size,i.bytes))=ο (ο (.agg #[.int ξ 0,.int ξ 0,.int ξ 0]),3,24):=by kernel_rfl
theorem Tryz.afn:prog.underlying 222=ο (.slice 225):=by kernel_rfl
namespace Lx
theorem al0(a:j<C.length)(h:eF P C[j]=ο n):kU P (C.take (j+1))=kU P (C.take j)++[(n,(C[j].1,C[j].2+1))]:=by
 rw[fY a];unfold kU;rw[Cp];simp[h]
theorem amM(a:j<C.length)(h:eF P C[j]=ν):kU P (C.take (j+1))=kU P (C.take j):=by
 rw[fY a];unfold kU;rw[Cp];simp[h]
theorem acg(P:List Pd)(C:List au):(kU P C).length<=C.length:=List.length_filterMap_le _ _
theorem Ot(P:List Pd)(K:List au):oM P K (jL P K):=by
 have:∀{l r:List au}{i:Nat},tK P l i r->oM P K l->oM P K r:=by
  intro l r i hd
  induction hd with
  |done _=>exact id
  |step _ _ ih=>exact fun a=>ih (a.add _)
 exact this (Ug P K) (oM.refl P K)
theorem ai9(d:K.Nodup):(jL P K).Nodup:=by
 obtain⟨Z,i,g,hd⟩:=Ot P K;rw[i,j7];exact⟨d,g,fun a c b f e=>(hd b f).2.2 (e▸c)⟩
theorem aja(h:C.Nodup):(kU P C).Nodup:=by
 unfold kU;rw[List.Nodup,List.pairwise_filterMap];refine h.imp fun{a b}c x f y d e=>c ?_
 obtain⟨n,-,rfl⟩:=mS.1 f;obtain⟨m,-,rfl⟩:=mS.1 d;simp only[Prod.mk.injEq]at e;exact sE e.2.1 (by omega)
theorem ahM(h:K.Pairwise ig):K.Nodup:=h.imp fun{a b}c e=>by subst e;unfold ig at c;omega
end Lx
def ang(w:ω)(P:List Lx.Pd)(K:List au)(e:Ending)(w':ω):Prop:=∃v M,e=δ v/\aO 225 3 gZ w.heap.size w' v M/\φ w.heap.size w w'/\M.Perm (kU P (jL P K))/\M.Pairwise ou
theorem ahN{st:Nat}{vm vk ve vK:υ}{P:List Lx.Pd}{B0:Nat}(kF:aj w f #[ς ta nT tc,ς na nN nc,vP,vB,vQ,vm,vk,ve] 106)(hP:PP D w vP P)(hp:nO P (nT+nN) st)(hK:aO 109 2 jq B0 w vK K)(y:eX P i K)(ai:K.length<=100000)(N:K.Pairwise ig):χ prog 87 #[π (ο ⟨f,0,ν⟩),vK] w (ang w P K):=by
 have q1:=af7 kF hP hp hK y ai;obtain⟨pa,pc,rfl,-⟩:∃a c,vP=ς a P.length c/\P.length<=maxLen:=by obtain⟨ps,h1,h2,-⟩:=hP;exact aB h2
 obtain⟨i1,ah,ak,al,ad⟩:=ft Tryz.alZ;have an:=kF.lt;have T:=aja (P:=P) (ai9 (P:=P) (ahM N));have aE:=(Ot P K).len;have av:=hp.len;have g:∀s∈jL P K,s.1<P.length/\s.2<=(bW P s.1).length:=by
  intro s A;obtain⟨Z,hz,-,hd⟩:=Ot P K;rw[hz]at A;rcases dq.1 A with A|A
  ·exact⟨(y.Bn s A).1,(y.Bn s A).2.1⟩
  ·exact⟨(hd s A).2.1,by rw[(hd s A).1];exact fi _⟩
 have HR:Hid (∀k,(bW P k).length<=2002):=abV hp;generalize hC:jL P K=C at *;have HC:Hid (jL P K=C):=hC;have HP:Hid (∀s∈C,s.1<P.length/\s.2<=(bW P s.1).length):=g;have IK:Hid ((kU P C).Nodup):=T;clear hC g T hK y N hp;go_enter func87,ntmps87;go_upto_region 3 with (go_at_call 148;refine q1.mono ?_;rintro e w1⟨v1,rfl,p,o⟩;obtain⟨ca,cc,aq,-⟩:=aB p;subst aq)
 clear q1;have af:=o.size
 go_loopg [5,13] C.length (fun m v iv wr=>∃j:Nat,j+m=C.length/\iv=ι ξ (j:Int)/\aO 225 3 gZ w.heap.size wr v (kU P (C.take j))/\aO 109 2 jq w.heap.size wr (ς ca C.length cc) C/\φ w.heap.size w wr)
 case atStart=>exact⟨0,by omega,rfl,eV _ _ _ _,p,o⟩
 case round=>
  clear p o af;revert wr;intro H hrel;obtain⟨j,aw,rfl,B,hL,F⟩:=hrel;have J:=acg P (C.take j);rw[fR]at J;have hsz:=F.size
  by_cases hlt:j<C.length
  ·obtain⟨gL,az,hv,-,ax,L⟩:=aO.at Cv hL hlt
   cases hv;have c0:=L 0 _ (by decide) rfl;have c1:=L 1 _ (by decide) rfl;have g:=HP.out C[j] (eJ hlt);have Q:Hid (∀n,eF P C[j]=ο n->kU P (C.take (j+1))=kU P (C.take j)++[(n,(C[j].1,C[j].2+1))]):=fun n h=>al0 hlt h
   have S:Hid (eF P C[j]=ν->kU P (C.take (j+1))=kU P (C.take j)):=amM hlt;have l:eF P C[j]=(bW P C[j].1)[C[j].2]?:=rfl;clear L;generalize C[j]=sp at c0 c1 g Q S l;obtain⟨sk,d⟩:=sp;simp only[Nat.add_zero]at c0 c1 g l;have x:=g.1;have ae:d<=P[sk].right.length:=by have:=g.2;rw[JI x]at this;exact this
   have aa:P[sk].right.length<=2002:=by have:=HR.out sk;rw[JI x]at this;exact this
   rw[JI x]at l;clear g;generalize hX:kU P (C.take j)=X at B J Q S;clear hX;obtain⟨W,V,rfl,-⟩:∃a c,_=ς a X.length c/\X.length<=maxLen:=aB B;obtain⟨W1,t⟩:=aC (H.alloc (ζ #[ι ξ (sk:Int),ι ξ (d:Int)] 109));have o:φ H.heap.size H W1:=by rw[t];exact(cV _ _).alloc (zL0) _
   have IG:aj W1 H.heap.size #[ι ξ (sk:Int),ι ξ (d:Int)] 109:=by rw[t];exact aj.new H _ 109
   have eP:=F.trans (o.mono hsz);have s0:=IG.a0;have s1:=IG.a1;obtain⟨gP,aA,u,ar,U,-,x1,-⟩:=(hP.below eP).at x;cases ar;obtain⟨ua,uc,rfl,-⟩:∃a c,u=ς a P[sk].right.length c/\P[sk].right.length<=maxLen:=aB U;generalize P[sk].right=r at U x1 ae aa l;have MN:=kF.go eP an;have d2:=MN.a2;have i2:(0:Int)<=(j:Int):=by omega
   have i3:(j:Int)<(C.length:Int):=by omega
   have i4:(0:Int)<=(sk:Int):=by omega
   have i5:(sk:Int)<(P.length:Int):=by omega
   have O:=B.below o;have p:=hL.below o;go_upto_region 5 with fail
   rw[<-t];clear t c0 c1 B hL MN
   go_quiet (fail)
   obtain⟨q,z⟩:=aC (W1.drewN nq);have e0:q.cell? ⟨H.heap.size,0,ν⟩=ο (ι ξ (sk:Int)):=by rw[z];exact s0
   have e1:q.cell? ⟨H.heap.size,1,ν⟩=ο (ι ξ (d:Int)):=by rw[z];exact s1
   have I:φ w.heap.size w q:=by rw[z];exact eP.trans ⟨rfl,rfl,rfl,zL0,fun _ _=>rfl⟩
   have yu:aO 225 3 gZ w.heap.size q (ς W X.length V) X:=by rw[z];exact O
   have FB:aO 109 2 jq w.heap.size q (ς (ο ⟨gL,0,ν⟩) C.length cc) C:=by rw[z];exact p
   have Dq:IR 0 q (ς ua r.length uc) r:=by rw[z];exact U
   rw[<-z];clear z s0 s1 O p U x1 d2 IG;have ag:=I.size
   by_cases hd:d<r.length
   ·obtain⟨gU,a9,ap,-,cU⟩:=Dq.at hd
    cases ap;have Y:Hid (kU P (C.take (j+1))=X++[(r[d],(sk,d+1))]):=Q.out r[d] (by rw[l,cG hd]);generalize r[d]=n at cU Y;have i6:(d:Int)<(r.length:Int):=by omega
    have i7:(0:Int)<=(d:Int):=by omega
    have aH:IntKind.i64.wrap ((d:Int)+1)=(d:Int)+1:=by rw[gx];omega
    have Q0:aO 225 3 gZ w.heap.size (q.alloc (ζ #[ι ξ (n:Int),ι ξ (sk:Int),ι ξ ((d:Int)+1)] 225)).drew (ς W X.length V) X:=aO.below yu (((cV _ _).alloc (zL0) _).drew);clear Q S Dq l;go_upto_region 7 with fail
    go_region_law (go_loud (refine step_append_lies _ rfl (.tmp 32) (.tmp 45) 222 rfl w.heap.size 225 i1 _ 3 24 Tryz.afn ah ak al ad rfl (by decide) (ς W X.length V) X.length (X.flatMap gZ) (by simp[Act.eval]) Q0 ⟨q.heap.size,0,ν⟩ 1 1 [ι ξ (n:Int),ι ξ (sk:Int),ι ξ ((d:Int)+1)] (by simp[Act.eval]) rfl (bQ (aj.new q _ 225).drew) (by simp[Value.oneCell']) (by decide) (by unfold maxLen;omega) (by omega) (by simp;omega) _ rfl ?_;intro g5 R w5 G M jd Gx))
    all_goals
     have Q0:aO 225 3 gZ w.heap.size (q.alloc (ζ #[ι ξ (n:Int),ι ξ (sk:Int),ι ξ ((d:Int)+1)] 225)).drew (ς W X.length V) X:=aO.below yu (((cV _ _).alloc (zL0) _).drew);have ao:aO 109 2 jq w.heap.size w5 (ς (ο ⟨gL,0,ν⟩) C.length cc) C:=FK (aO.below FB (((cV _ _).alloc (zL0) (ζ #[ι ξ (n:Int),ι ξ (sk:Int),ι ξ ((d:Int)+1)] 225)).drew)) Q0 (by decide) M;have am:=I.trans ((((cV _ q).alloc ag _).drew).trans ⟨M.os,M.tape,M.output,M.size,fun b hb=>M.block b (by simp;omega) (fun e=>absurd (sf Q0 b e.symm).1 (by omega))⟩);have eU:aO 225 3 gZ w.heap.size w5 (ς (ο ⟨g5,0,ν⟩) (X.length+1) R) (X++[(n,(sk,d+1))]):=by
      have e:(X++[(n,(sk,d+1))]).flatMap gZ=X.flatMap gZ++[ι ξ (n:Int),ι ξ (sk:Int),ι ξ ((d:Int)+1)]:=by simp[gZ]
      unfold aO;rw[e,cJ];exact G
     go_wp2_with fail;go_roundg (C.length - (j+1))
     case measure=>omega
     case rel=>exact⟨j+1,by omega,by go_num,by rw[Y.out];exact eU,ao,am⟩
   ·have Y:Hid (kU P (C.take (j+1))=X):=S.out (by rw[l,kf (by omega)])
    have i6:¬(d:Int)<(r.length:Int):=by omega
    clear Q S Dq l;go_wp2_with fail;go_roundg (C.length - (j+1))
    case measure=>omega
    case rel=>exact⟨j+1,by omega,by go_num,by rw[Y.out];exact yu,FB,I⟩
  ·obtain rfl:j=C.length:=by omega
   rw[ff]at B J;have q9:=akC B (by omega) IK.out;have i3:¬(C.length:Int)<(C.length:Int):=by omega
   clear B
   go_wp2_with (go_at_call 149;refine q9.mono ?_;rintro e w9⟨rfl,M',E,ab,ac,Df⟩)
   go_ret;exact⟨_,M',rfl,ac,F.trans Df,by rw[HC.out];exact E,ab⟩
theorem Lx.ahO{g:Lx.Gr}(h:Lx.parse s=.ok g):s.size<=2000:=by
 unfold Lx.parse at h
 split at h
 ·cases h
 ·omega
def adN(g:Lx.Gr)(w:ω)(e:Ending)(w':ω):Prop:=∃v,e=δ (θ #[v,ι ξ 0,ι ξ 0])/\φ w.heap.size w w'/\vV w.heap.size w' v (aG g) (gH g) (bY g) ((aG g).map fun t=>(vC g t).1) ((aG g).map fun t=>(vC g t).2)
theorem akD{t:Nat}{x0 x1 x2 x3 x4 a y1 y2 b c:υ}(h:aj w r #[a,y1,y2,b,c] t):aj (((((w.setCell ⟨r,0,ν⟩ x0).setCell ⟨r,1,ν⟩ x1).setCell ⟨r,2,ν⟩ x2).setCell ⟨r,3,ν⟩ x3).setCell ⟨r,4,ν⟩ x4) r #[x0,x1,x2,x3,x4] t:=((((h.set 0 _).set 1 _).set 2 _).set 3 _).set 4 _
theorem ahP(h:φ B a w)(b:B<=r)(x0 x1 x2 x3 x4:υ):φ B a (((((w.setCell ⟨r,0,ν⟩ x0).setCell ⟨r,1,ν⟩ x1).setCell ⟨r,2,ν⟩ x2).setCell ⟨r,3,ν⟩ x3).setCell ⟨r,4,ν⟩ x4) :=
 ((((h.setCell (p:=⟨r,0,ν⟩) b x0).setCell (p:=⟨r,1,ν⟩) b x1).setCell (p:=⟨r,2,ν⟩) b x2).setCell (p:=⟨r,3,ν⟩) b x3).setCell (p:=⟨r,4,ν⟩) b x4
theorem ahQ(w:ω)(r:Nat)(x0 x1 x2 x3 x4:υ)(g:Nat)(a:g≠r):(((((w.setCell ⟨r,0,ν⟩ x0).setCell ⟨r,1,ν⟩ x1).setCell ⟨r,2,ν⟩ x2).setCell ⟨r,3,ν⟩ x3).setCell ⟨r,4,ν⟩ x4).heap[g]?=w.heap[g]?:=by
 rw[zS0 a,zS0 a,zS0 a,zS0 a,zS0 a]
theorem vV.other{T:List ByteArray}{P:List Lx.Pd}{j k:List Nat}(h:vV B w v T N P j k){cs:Array υ}(b:aj w r cs 49)(c:∀g,g<w.heap.size->g≠r->w'.heap[g]?=w.heap[g]?):vV B w' v T N P j k:=by
 obtain⟨n,m,u,t,o,rfl,h1,h2,⟨s,p1,p2,d,l⟩,h4,i,p⟩:=h;exact⟨n,m,u,t,o,rfl,ay h1 fun g a=>c g (h1.lt g a).2 (own_ne h1 b (by decide) g a),ay h2 fun g a=>c g (h2.lt g a).2 (own_ne h2 b (by decide) g a),⟨s,p1,ay p2 fun g a=>c g (p2.lt g a).2 (own_ne p2 b (by decide) g a),fun q f=>⟨ay (d q f).1 fun g a=>c g ((d q f).1.lt g a).2 (own_ne (d q f).1 b (by decide) g a),(d q f).2⟩,l⟩,ay h4 fun g a=>c g (h4.lt g a).2 (own_ne h4 b (by decide) g a),ay i fun g a=>c g (i.lt g a).2 (own_ne i b (by decide) g a),p⟩
theorem vV.mono{B':Nat}{T:List ByteArray}{P:List Lx.Pd}{c i:List Nat}(h:vV B w v T N P c i)(f:B'<=B):vV B' w v T N P c i:=by
 obtain⟨l,k,t,r,m,n,h1,h2,⟨p,p1,p2,b,j⟩,h4,s,o⟩:=h;exact⟨l,k,t,r,m,n,h1,h2,⟨p,p1,p2,fun q d=>⟨(b q d).1,fun g a=>cY f ((b q d).2 g a)⟩,j⟩,h4,s,fun g a=>cY f (o g a)⟩
theorem NV{g:Lx.Gr}(m:Lx.Gd s g)(w:ω)(ht:iy w):χ prog 13 #[τ s] w (adN g w):=by
 have Y:=ahO m.hp;obtain⟨W,q⟩:=aC (w.alloc (ζ #[ς ν 0 0,ς ν 0 0,ς ν 0 0,ς ν 0 0,ς ν 0 0] 49));have S:φ w.heap.size w W:=by rw[q];exact(cV _ _).alloc (zL0) _
 have zD:W.heap.size=w.heap.size+1:=by rw[q];simp
 have kR:aj W w.heap.size #[ς ν 0 0,ς ν 0 0,ς ν 0 0,ς ν 0 0,ς ν 0 0] 49:=by rw[q];exact aj.new w _ 49
 have q1:=ah4 s W (by unfold maxLen;omega);go_enter func13,ntmps13;go_wp2_with fail;rw[<-q];clear q;refine q1.mono ?_;rintro e w1⟨j,hm⟩;clear q1;have eP:=S.trans (j.mono (by omega));have o:=kR.go j (by omega);have ac:=j.size;have X:=o.lt;rw[m.hp]at hm;obtain⟨vl,vr,rfl,O⟩:=hm;obtain⟨Z,E,rfl,-⟩:=Seq.len O.1;obtain⟨C,B,rfl,-⟩:=(lV.len (F:=In W.heap.size w1.heap.size) (w:=w1) ⟨fun b k=>k.2,fD.weak O.2 fun A v x U Q=>fu.weak U Q⟩);obtain⟨D,a⟩:=aC (w1.alloc (ζ #[ς Z g.levels.length E,ς C g.rules.length B] 97));have dU:φ w1.heap.size w1 D:=by rw[a];exact(cV _ _).alloc (zL0) _
 have af:D.heap.size=w1.heap.size+1:=by rw[a];simp
 have kB:aj D w1.heap.size #[ς Z g.levels.length E,ς C g.rules.length B] 97:=by rw[a];exact aj.new w1 _ 97
 have q2:=agk s D Y;go_wp2_with fail;rw[<-a];clear a;refine q2.mono ?_;rintro e w2⟨vW,rfl,oW,i⟩;clear q2;rw[m.wf]at oW;have I:WR w2 vW (qM g):=jb oW (fi _);obtain⟨wa,wc,rfl,-⟩:=I.len;have M:=dU.trans (i.mono (by omega));have ad:=i.size;have y:∀{w':ω},φ w1.heap.size w1 w'->BU (In W.heap.size w1.heap.size) w' (ς Z g.levels.length E) (ς C g.rules.length B) g:=fun k=>O.move (fun b c=>k.block b c.2) (fun _ h=>h)
 have P:∀{w':ω},φ w1.heap.size w1 w'->lV (In W.heap.size w1.heap.size) w' (ς C g.rules.length B) g.rules:=fun k=>⟨fun b c=>dg c.2 k.size,fD.weak (y k).2 fun A v x U Q=>fu.weak U Q⟩
 have q3:=afk m (P M) I;have n:=kB.go i (by omega);have g1:=n.a1;go_wp2_with fail;refine q3.mono ?_;rintro e w3⟨rfl,f⟩;clear q3 g1;have aa:=f.size;have z:=M.trans (f.mono M.size);have J:=eP.trans (z.mono (by omega));have Bf:=o.go z X;have r:=n.go f (by omega);have q4:=ags m (y z) (fun b c=>dg c.2 z.size) (I.below f) (ht.move (J.block _ ht.lt));have g0:=r.a0;have g1:=r.a1;go_wp2_with fail;refine q4.mono ?_;rintro e w4⟨v,rfl,l,u⟩
 replace l:=l.mono (B':=w.heap.size) (by have:=J.size;first | omega | (simp;omega))
 clear q4 g0 g1;obtain⟨vT,vN,vP,vB,vK,rfl,oT,oN,sw,oB,oK,-⟩:=id l;obtain⟨ps,p1,p2,-⟩:=id sw;obtain⟨R,H,rfl,-⟩:=aB oT;obtain⟨V,nc,rfl,-⟩:=aB oN;obtain⟨N,pc,rfl,L⟩:=aB p2;obtain⟨T,K,rfl,-⟩:=aB oB;obtain⟨G,kc,rfl,-⟩:=aB oK;clear oT oN oB oK p1 p2 sw;generalize ((aG g).map fun t=>(vC g t).1).length=nB at l;generalize ((aG g).map fun t=>(vC g t).2).length=nK at l;have Pz:=J.trans (u.mono (by omega));have d:=Bf.go u (by omega);have ae:=d.lt;have r0:=d.a0;have r1:=d.a1;have r2:=d.a2;have r3:=d.a3;have r4:=d.a4;have rf:=d.frozen;unfold maxLen at L;have ab:¬(200:Int)<((bY g).length:Int):=by have:=m.fit.pl;omega
 go_wp2_with fail;have p:=(akD (x0:=ς R (aG g).length H) (x1:=ς V (gH g).length nc) (x2:=ς N (bY g).length pc) (x3:=ς T nB K) (x4:=ς G nK kc) d).alloc (ζ #[ς R (aG g).length H,ς V (gH g).length nc,ς N (bY g).length pc,ς T nB K,ς G nK kc] 49);have s0:=p.cell 0;have s1:=p.cell 1;have s2:=p.cell 2;have s3:=p.cell 3;have s4:=p.cell 4;simp at s0 s1 s2 s3 s4;refine iS (v:=θ #[γ #[ς R (aG g).length H,ς V (gH g).length nc,ς N (bY g).length pc,ς T nB K,ς G nK kc],ι ξ 0,ι ξ 0]) (by simp[results,results13,go_sem,s0,s1,s2,s3,s4]) rfl ⟨_,rfl,(ahP Pz (zL0) _ _ _ _ _).alloc (by simp;omega) _,l.other d fun x hx hn=>by
  rw[ed _ _ _ (by simp[World.setCell];exact hx)];exact ahQ w4 w.heap.size _ _ _ _ _ x hn⟩
theorem Tryz.al4:(prog.info? 110).map (fun i=>(i.zero,i.size,i.bytes))=ο (ο (.slice ν 0 0),1,24):=by kernel_rfl
theorem Tryz.afD:prog.underlying 52=ο (.slice 110):=by kernel_rfl
theorem Tryz.al5:(prog.info? 125).map (fun i=>(i.zero,i.size,i.bytes))=ο (ο (.agg #[.int ξ 0,.int ξ 0,.int ξ 0]),3,24):=by kernel_rfl
theorem Tryz.afE:prog.underlying 53=ο (.slice 125):=by kernel_rfl
theorem F9{a:List υ}(h:w.ownsRow B e z v n a)(f:∀g,v.ownBlock=ο g->g≠b)(d:∀g,g<w.heap.size->g≠b->w'.heap[g]?=w.heap[g]?):w'.ownsRow B e z v n a:=ay h fun g c=>d g (sf h g c).2 (f g c)
theorem JD{f:List υ}(h:w.ownsRow B e z v n f){j:Array MapEntry}(i:w.heap[b]?=ο (.map j c)):∀g,v.ownBlock=ο g->g≠b:=by
 intro g l k;obtain⟨d,a⟩:=bJ h l;rw[k,i]at a;cases a
theorem jF.but{S T:Nat}(h:jF S T B w v ks)(c:∀(e:Nat)(z:Nat)(u:υ)(n:Nat)(xs:List υ),(e=S\/e=T)->w.ownsRow B e z u n xs->∀g,u.ownBlock=ο g->g≠b)(a:∀g,g<w.heap.size->g≠b->w'.heap[g]?=w.heap[g]?):jF S T B w' v ks:=by
 obtain⟨xs,h1,h2,h3⟩:=h;exact⟨xs,h1,F9 h2 (c S 1 v _ _ (.inl rfl) h2) a,fun x d=>F9 (h3 x d) (c T 2 _ _ _ (.inr rfl) (h3 x d)) a⟩
def oQ(wB w:ω)(f mb:Nat)(vT vN vP vB vQ ve:υ)(S:bI):Prop:=∃vk,aj w f #[vT,vN,vP,vB,vQ,.map (ο mb),vk,ve] 106/\lI w mb (S.ks.map pV)/\jF 110 109 wB.heap.size w vk S.ks/\aO 125 3 vY wB.heap.size w ve S.es/\wB.heap.size<=f/\wB.heap.size<=mb/\φ wB.heap.size wB w
theorem oQ.below{k w w':ω}{f b:Nat}{g d vP vB i c:υ}{S:bI}(h:oQ k w f b g d vP vB i c S)(a:φ w.heap.size w w'):oQ k w' f b g d vP vB i c S:=by
 obtain⟨l,h1,h2,h3,h4,n,m,j⟩:=h;exact⟨l,(a.block _ h1.lt).trans h1,h2.move (a.block _ h2.lt),h3.below a,h4.below a,n,m,j.trans (a.mono j.size)⟩
def lY(w w':ω):Prop:=∀(g:Nat)(cs:Array υ),aj w g cs 225->aj w' g cs 225
theorem lY.trans{b c:ω}(h:lY a b)(k:lY b c):lY a c:=fun g d f=>k g d (h g d f)
theorem lY.below(b:φ w.heap.size w w'):lY w w':=fun g _ a=>(b.block g a.lt).trans a
theorem lY.but(c:∀g,g<w.heap.size->g≠b->w'.heap[g]?=w.heap[g]?)(d:∀cs,¬aj w b cs 225):lY w w':=fun g cs a=>(c g a.lt (fun e=>d cs (e▸a))).trans a
theorem lY.row(h:lY w w'){b:List υ}(d:w.ownsRow B 225 z v n b):w'.ownsRow B 225 z v n b:=ay d fun g f=>by
 obtain⟨a,c⟩:=bJ d f;exact(h g a c).trans c.symm
theorem oQ.put{r t i l:υ}{s:List Mh}(d:aj w f #[q,o,vP,vB,r,.map (ο b),t,l] 106)(j:lI w b (ks.map pV))(B:jF 110 109 a.heap.size w i ks)(m:aO 125 3 vY a.heap.size w l s)(h1:a.heap.size<=f)(h2:a.heap.size<=b)(v:φ a.heap.size a w):oQ a (w.setCell ⟨f,6,ν⟩ i) f b q o vP vB r l ⟨ks,s⟩:=by
 have k:∀g,g<w.heap.size->g≠f->(w.setCell ⟨f,6,ν⟩ i).heap[g]?=w.heap[g]?:=fun g _ x=>zS0 x
 have C:b≠f:=fun e=>by
  obtain⟨A,E,c,-⟩:=j;unfold aj at d;rw[e,d]at c;cases c
 refine⟨i,d.set 6 _,j.move (k b j.lt C),B.but (fun e z u n D y h=>own_ne h d (by rcases y with rfl | rfl <;> decide)) k,F9 m (own_ne m d (by decide)) k,h1,h2,v.setCell (p:=⟨f,6,ν⟩) h1 _⟩
def Lx.vZ(ks:List (List au))(F:List au):List (List au):=if ji ks F<ks.length then ks else ks++[F]
def aor(wB w:ω)(f mb:Nat)(vT vN vP vB vQ ve:υ)(S:bI)(F:List au)(e:Ending)(w':ω):Prop:=e=δ (ι ξ (ji S.ks F:Int))/\oQ wB w' f mb vT vN vP vB vQ ve ⟨vZ S.ks F,S.es⟩/\lY w w'/\w.heap.size<=w'.heap.size
theorem Lx.ach(h:F∈ks):ji ks F<ks.length:=by
 unfold ji;rw[B3];exact⟨F,h,by simp⟩
theorem Lx.aa5(h:F∉ks):ji ks F=ks.length:=ake fun _ _ hx e=>h (e▸cM hx)
theorem Lx.al6:pV F∈ks.map pV↔F∈ks:=by
 constructor
 ·intro h
  obtain⟨x,a,e⟩:=fk.1 h;rw[<-acd e];exact a
 ·exact fun h=>fk.2 ⟨F,h,rfl⟩
theorem Lx.ajb(h:ks.Nodup):(ks.map pV).Nodup:=by
 rw[List.Nodup,ue];exact h.imp fun{a b}c e=>c (acd e)
theorem YO{m:ω}{A:Nat}{vT vN U vF:υ}{S:bI}(hf:oQ m w f A vT vN vP vB vQ U S)(V:aO 109 2 jq m.heap.size w vF F)(Z:F≠[])(hl:F.length<=1000000)(hs:∀s∈F,s.1<=1000000/\s.2<=1000000)(aq:S.ks.Nodup)(aA:S.ks.length<=1000000)(ht:iy m):χ prog 35 #[π (ο ⟨f,0,ν⟩),vF] w (aor m w f A vT vN vP vB vQ U S F):=by
 obtain⟨vk,kF,hm,hk,hE,Q9,I,D⟩:=hf;have an:iy w:=((Lib.tabBelow_of_tabIs ht).on D).here;have q1:=ahK V Z hl hs an;obtain⟨ka,kc,rfl,-⟩:=hk.len;obtain⟨p,o,rfl,-⟩:∃a c,vF=ς a F.length c/\F.length<=maxLen:=aB V;have r:F∈S.ks->∃i:Nat,ji S.ks F=i/\i<S.ks.length/\(S.ks.map pV)[i]?=ο (pV F):=fun h=>⟨_,rfl,ach h,by rw[dj,ac9 (ach h)];rfl⟩
 have H:=al6 (ks:=S.ks) (F:=F);have X6:=ajb aq;generalize htx:pV F=t at q1 r H;have al:Hid (pV F=t):=htx;clear htx;go_enter func35,ntmps35;go_upto_region 2 with (go_at_call 86;refine q1.mono ?_;rintro e w1⟨rfl,d⟩)
 clear q1;have ag:=d.size;have B:=kF.on d;have q:=hm.move (d.block _ hm.lt);have d5:=B.a5;have d6:=B.a6
 by_cases hin:F∈S.ks
 ·obtain⟨i,C,ac,R⟩:=r hin
  have ah:=q.hit X6 R;have HI:Hid (ji S.ks F=i):=C;have HA:Hid (vZ S.ks F=S.ks):=du (by rw[C];exact ac);clear r H X6 C R hin d6;go_wp2_with fail;go_ret;exact⟨by rw[HI.out];rfl,by rw[HA.out];exact oQ.below ⟨_,kF,hm,hk,hE,Q9,I,D⟩ d,lY.below d,ag⟩
 ·have ah:=q.miss (fun h=>hin (H.1 h))
  obtain⟨w2,ao,P,k,af⟩:=q.put (fun h=>hin (H.1 h));have HI:Hid (ji S.ks F=S.ks.length):=aa5 hin;have HA:Hid (vZ S.ks F=S.ks++[F]):=dt (by rw[aa5 hin];omega);rw[dk]at ao;obtain⟨es,ax,l,-⟩:=id q;have j:∀g,g<w1.heap.size->g≠A->w2.heap[g]?=w1.heap[g]?:=fun g N hn=>k.block g N (fun e=>hn (by injection e))
  have Y:f≠A:=fun e=>by unfold aj at B;rw[e,l]at B;cases B
  have W:aj w2 f _ 106:=(j f B.lt Y).trans B;have ap:=(hk.below d).but (fun e z u n Q _ h=>JD h l) j;have ar:aO 125 3 vY m.heap.size w2 U S.es:=F9 (hE.below d) (JD (hE.below d) l) j;have aa:aO 109 2 jq m.heap.size w2 (ς p F.length o) F:=F9 (aO.below V d) (JD (aO.below V d) l) j;have ab:=(lY.below d).trans (lY.but j fun cs h=>by unfold aj at h;rw[l]at h;cases h);have X:=D.trans ((d.mono D.size).trans ⟨k.os,k.tape,k.output,k.size,fun b hb=>j b (by have:=D.size;omega) (by omega)⟩);have aE:=W.a6;have aR:=W.frozen 6;obtain⟨Q,O,v,ak⟩:=ap;have J:Q.length=S.ks.length:=by rw[<-O,dk]
  have G:Hid (Q.length=S.ks.length):=J;have aH:=D.size;have az:w1.heap.size<=w2.heap.size:=by omega
  clear r H X6 hin k J j af;go_upto_region 6 with fail
  go_wp2_with (at_builtin;go_loud (refine NS Tryz.al4 Tryz.afD rfl (by decide) acS rfl _ _ rfl m.heap.size (by simp;omega) _ Q rfl (aO.below v ((cV _ _).alloc (zL0) _)) ((p,F.length,o),F) _ 1 rfl (bQ (aj.new _ _ 110)) (by have:=G.out;unfold maxLen;omega) (by have:=G.out;omega) ?_;intro v8 E Dr eY L Iw;have K:aj E f _ 106:=(W.alloc (ζ #[ς p F.length o] 110)).grown L (fun e=>own_ne (aO.below v ((cV _ _).alloc (zL0) (ζ #[ς p F.length o] 110))) (W.alloc _) (by decide) f e.symm rfl);have aP:E.cell? ⟨f,6,ν⟩=ο (ς ka S.ks.length kc):=K.cell 6;have aw:E.frozen? ⟨f,6,ν⟩=ε:=K.frozen 6;obtain⟨ya,yc,M,-⟩:=aB Dr;rw[cJ,gw]at M;subst M))
  go_ret;have T:=aO.below v ((cV _ w2).alloc (zL0) (ζ #[ς p F.length o] 110));have am:jF 110 109 m.heap.size E (ς ya (Q.length+1) yc) (S.ks++[F]):=by
   rw[<-O];exact jF.push (x:=((p,F.length,o),F)) T (fun y hy=>aO.below (ak y hy) ((cV _ _).alloc (zL0) _)) (aO.below aa ((cV _ _).alloc (zL0) _)) (by decide) L Dr
  have ae:aO 125 3 vY m.heap.size E U S.es:=FK (aO.below ar ((cV _ w2).alloc (zL0) (ζ #[ς p F.length o] 110))) T (by decide) L;have zS:=P.move (w':=w2.alloc (ζ #[ς p F.length o] 110)) (ed _ _ _ P.lt);have av:lI E A ((S.ks++[F]).map pV):=by
   rw[ee,n8,al.out];obtain⟨a9,VD,VE,-⟩:=id zS;exact zS.move (L.block A zS.lt (fun e=>JD T VE A e.symm rfl))
  have ai:=ab.trans ((lY.below ((cV _ w2).alloc (zL0) (ζ #[ς p F.length o] 110))).trans fun g cs N=>(L.block g N.lt (fun e=>own_ne T N (by decide) g e.symm rfl)).trans N);have ad:=X.trans (((cV _ w2).alloc (by omega) _).trans eY);exact⟨by rw[HI.out];rfl,by rw[HA.out];exact oQ.put K av am ae Q9 I ad,ai.trans (lY.but (b:=f) (fun g _ hn=>zS0 hn) (fun cs h=>by unfold aj at h K;rw[K]at h;cases h)),by have:=eY.size;simp at this|-;omega⟩
namespace Lx
theorem adb{n:Nat}:∀{T D:List (Nat×au)},(∀m∈T,m.1=n)->(∀m,D.head?=ο m->m.1≠n)->(T++D).takeWhile (fun m=>decide (m.1=n))=T/\(T++D).dropWhile (fun m=>decide (m.1=n))=D
 | [],[],_,_=>⟨rfl,rfl⟩
 | [],d::D,_,h2=>by
  have:=h2 d rfl;simp[this]
 |t::T,D,h1,h2=>by
  obtain⟨b,c⟩:=adb (T:=T) (D:=D) (fun m a=>h1 m (eR _ a)) h2;have h3:=h1 t eE;simp only[List.cons_append];rw[xm,xp];simp only[h3,decide_true,if_true];rw[b,c];exact⟨rfl,rfl⟩
theorem sK.step{M:List (Nat×au)}{q:Nat}{S R:bI}(c:j<q)(g:q<=M.length)(b:∀m∈(M.drop j).take (q-j),m.1=n)(hd:∀m,M[q]?=ο m->m.1≠n)(h:sK i (M.drop q) (JY i S n (((M.drop j).take (q-j)).map Prod.snd)) R):sK i (M.drop j) S R:=by
 have e:M.drop j=(M.drop j).take (q-j)++M.drop q:=by
  have:=lj (q-j) (M.drop j);rw[xl,show j+(q-j)=q by omega]at this;exact this.symm
 cases hT:(M.drop j).take (q-j) with
 |nil=>
  have:=fd List.length hT;simp only[List.length_take,List.length_drop,List.length_nil]at this;omega
 |cons t T=>
  rw[hT]at e b h;have h3:=b t eE;obtain⟨d,f⟩:=adb (n:=n) (T:=T) (D:=M.drop q) (fun m a=>b m (eR _ a)) (fun m a=>hd m (by rw[List.head?_drop]at a;exact a));obtain⟨t1,t2⟩:=t;simp only at h3;subst h3;rw[e];simp only[List.cons_append];refine .fZ ?_;rw[d,f];exact h
theorem akE{S:bI}:JY i S n F=⟨vZ S.ks F,S.es++[(i,n,ji S.ks F)]⟩:=by
 unfold JY vZ
 by_cases h:ji S.ks F<S.ks.length
 ·rw[du h,du h]
 ·rw[dt h,dt h]
  have:ji S.ks F<=S.ks.length:=B4;have e:ji S.ks F=S.ks.length:=by omega
  rw[e]
theorem ahR(h:ks.Nodup):(vZ ks F).Nodup:=by
 unfold vZ
 split
 ·exact h
 ·rename_i f
  rw[j7];refine⟨h,by simp,fun a d b c e=>?_⟩;rw[dd]at c;subst c;exact ada f (e▸d)
theorem akF:(vZ ks F).length<=ks.length+1:=by
 unfold vZ
 split
 ·omega
 ·simp
end Lx
theorem oQ.aow{b:ω}{r j A a:υ}{s:List Mh}(i:aj w f #[q,o,vP,vB,r,.map (ο c),j,A] 106)(k:lI w c (ks.map pV))(B:jF 110 109 b.heap.size w j ks)(m:aO 125 3 vY b.heap.size w a s)(h1:b.heap.size<=f)(h2:b.heap.size<=c)(t:φ b.heap.size b w):oQ b (w.setCell ⟨f,7,ν⟩ a) f c q o vP vB r a ⟨ks,s⟩:=by
 have l:∀g,g<w.heap.size->g≠f->(w.setCell ⟨f,7,ν⟩ a).heap[g]?=w.heap[g]?:=fun g _ v=>zS0 v
 have C:c≠f:=fun e=>by
  obtain⟨y,E,d,-⟩:=k;unfold aj at i;rw[e,i]at d;cases d
 refine⟨j,i.set 7 _,k.move (l c k.lt C),B.but (fun e z u n D x h=>own_ne h i (by rcases x with rfl | rfl <;> decide)) l,F9 m (own_ne m i (by decide)) l,h1,h2,t.setCell (p:=⟨f,7,ν⟩) h1 _⟩
def LvE(wB:ω)(f mb:Nat)(vT vN vP vB vQ:υ)(R:bI)(e:Ending)(w':ω):Prop:=e=δ (θ #[])/\∃ve,oQ wB w' f mb vT vN vP vB vQ ve R
theorem aax{M:List (Nat×au)}{q:Nat}(a:j<=q)(b:q<M.length):(M.drop j).take (q+1-j)=(M.drop j).take (q-j)++[M[q]]:=by
  rw[show q+1-j=(q-j)+1 by omega,fY (by rw[m7];omega)];congr 2;rw[List.getElem_drop];congr 1;omega
theorem ajc{u:ω}{W:Nat}{st:Nat}{av:υ}{P:List Lx.Pd}{S:bI}(B:oQ u w f W (ς ta nT tc) (ς na nN nc) vP vB vQ av S)(X8:PP D u vP P)(hp:nO P (nT+nN) st)(hK:S.ks[i]?=ο K)(aH:eX P i K)(bg:K.length<=100000)(ac:K.Pairwise ig)(z:S.ks.Nodup)(az:S.ks.length<=300)(ar:S.es.length<=40000000)(ht:iy u):χ prog 36 #[π (ο ⟨f,0,ν⟩),ι ξ (i:Int)] w (LvE u f W (ς ta nT tc) (ς na nN nc) vP vB vQ (Lx.leave P i K S (List.range (nT+nN)))):=by
  have ch:=(Ot P K).len;have bR:=acg P (jL P K);have cb:=hp.len;have ce:=(cH.1 hK).1;have Ya:Hid (∀m∈kU P (jL P K),m.1<nT+nN/\m.2.1<=1000000/\m.2.2<=1000000):=by
    intro m j;obtain⟨s,-,h1,h2⟩:=Oe.1 j;have h3:=Og hp h1;have h4:=Uh h1;have h5:=abV hp s.1;rw[h2];exact⟨h3.1,by simp only;omega,by simp only;omega⟩
  obtain⟨vk,kF,j,hk,hE,Q9,bL,pG⟩:=id B;obtain⟨gk,cf,ka,kc,bo,bM,ck,rk⟩:=hk.at hK;subst bo;have q0:=ahN kF (X8.below pG) hp rk aH bg ac;have d6:=kF.a6;have i1:(0:Int)<=(i:Int):=by omega
  have i2:(i:Int)<(S.ks.length:Int):=by omega
  have Yb:Hid (∀(M:List (Nat×au))(R:bI),M.Perm (kU P (jL P K))->M.Pairwise ou->sK i M S R->R=Lx.leave P i K S (List.range (nT+nN))):=by
    intro M R h1 h2 h3;have:=h3.leave (P:=P) (K:=K) (sz:=nT+nN) 0 (fi _) h2 (fun m=>by rw[h1.mem_iff];simp) (fun m j=>(Ya.out m (h1.mem_iff.1 j)).1);rw[this,sX,<-List.range_eq_range']
  generalize Lx.leave P i K S (List.range (nT+nN))=RR at Yb|-;clear kF j hk hE rk hp aH ac hK;go_enter func36,ntmps36;go_upto_region 1 with (go_at_call 87;refine q0.mono ?_;rintro e w1⟨v1,M,rfl,ad,Z,C,aq⟩)
  clear q0 d6 ck;have aP:=B.below Z;have bm:=pG.size;have bs:=Z.size;have E:aO 225 3 gZ u.heap.size w1 v1 M:=jb ad bm;obtain⟨X,mc,g,bh,Q,br⟩:∃X mc g,v1=ς X M.length mc/\(0<M.length->X=ο ⟨g,0,ν⟩)/\M.length<=mc:=by
    rcases E.2 with ⟨hv,h0⟩|⟨g,b0,bD,hv,-,-,hc,-⟩
    · exact⟨ν,0,0,by rw[hv,h0],fun h=>by omega,by omega⟩
    · exact⟨_,b0,g,hv,fun _=>rfl,hc⟩
  subst bh;have bT:M.length<=200000:=by have:=C.length_eq;omega
  have ai:Hid (∀R,sK i M S R->R=RR):=fun R h=>Yb.out M R C aq h
  have bv:Hid (∀m∈M,m.1<nT+nN/\m.2.1<=1000000/\m.2.2<=1000000):=fun m j=>Ya.out m (C.mem_iff.1 j)
  have ae:Hid (∀R,sK i (M.drop 0) S R->R=RR):=ai.out;clear Yb Ya C aq ad B ai;have ag:0<M.length->X=ο ⟨g,0*3,ν⟩:=by simpa using Q
  generalize Yc:ς X M.length mc=vM at E|-;obtain⟨aA⟩:Nonempty (∃c,M.length<=c/\vM=ς X M.length c):=⟨⟨mc,br,Yc.symm⟩⟩;have VF:0<M.length->∃c,vM=ς (ο ⟨g,0,ν⟩) M.length c:=fun h=>⟨mc,by rw[<-Yc,Q h]⟩
  have cd:Hid _:=VF;have UF:Hid (∀(wx:ω)(p:Nat)(hp:p<M.length),aO 225 3 gZ u.heap.size wx vM M->wx.cell? ⟨g,p*3,ν⟩=ο (ι ξ (M[p].1:Int))/\wx.cell? ⟨g,p*3+1,ν⟩=ο (ι ξ (M[p].2.1:Int))/\wx.cell? ⟨g,p*3+2,ν⟩=ο (ι ξ (M[p].2.2:Int))):=by
    intro wx p hp hx;obtain⟨c,hc⟩:=VF (by omega);obtain⟨g',b6,hv,-,-,T⟩:=aO.at IJ hx hp;rw[hc]at hv;cases hv;exact⟨T 0 _ (by decide) rfl,T 1 _ (by decide) rfl,T 2 _ (by decide) rfl⟩
  obtain⟨bz,bd,bi,b1,bp⟩:=ft Tryz.al5;clear Yc VF Q
  go_loopg [4] M.length (fun m v wr=>∃(q L c:Nat)(a:Option Addr)(d:bI)(ve:υ),q+L=M.length/\L=m/\v=ς a L c/\L<=c/\(0<L->a=ο ⟨g,q*3,ν⟩)/\oQ u wr f W (ς ta nT tc) (ς na nN nc) vP vB vQ ve d/\aO 225 3 gZ u.heap.size wr vM M/\d.ks.Nodup/\d.ks.length<=300+q/\d.es.length<=40000000+q/\Hid (∀R,sK i (M.drop q) d R->R=RR))
  case atStart=>
    obtain⟨c,hc,rfl⟩:=aA;exact⟨0,M.length,c,X,S,av,by omega,rfl,rfl,hc,ag,aP,E,z,by omega,by omega,ae⟩
  case round=>
    clear aA ag aP E z az ar ae Z bs;revert wr;intro I hrel;obtain⟨q,L,c,a,d,ve,bU,rfl,rfl,bu,ha,B,hM,z,az,ar,HL⟩:=hrel
    by_cases hL0:0<L
    · obtain rfl:=ha hL0
      have hq:q<M.length:=by omega
      have O:=UF.out I q hq hM;obtain⟨n,hn⟩:=aC M[q].1;rw[<-hn]at O;have c0:=O.1;have i3:(0:Int)<(L:Int):=by omega
      have MP:Hid (∀m∈(M.drop q).take (q-q),m.1=n):=fun m j=>by rw[io,xd]at j;cases j
      have HN:Hid _:=hn;have L8:aO 109 2 jq I.heap.size I (ς ν 0 0) (((M.drop q).take (q-q)).map Prod.snd):=by rw[io,xd];exact eV _ _ _ _
      clear O hn ha;go_wp2_with fail;clear c0
      go_loopg [4,6] L (fun m v kv l=>∃(p k c':Nat)(a':Option Addr),p+k=M.length/\k=m/\q<=p/\v=ς a' k c'/\k<=c'/\(0<k->a'=ο ⟨g,p*3,ν⟩)/\aO 109 2 jq I.heap.size l kv (((M.drop q).take (p-q)).map Prod.snd)/\φ I.heap.size I l/\Hid (∀m∈(M.drop q).take (p-q),m.1=n))
      case atStart=>exact⟨q,L,c,_,by omega,rfl,zL0,rfl,bu,fun _=>rfl,L8,cV _ _,MP⟩
      case round=>
        clear MP L8 i3;revert wr;intro l hrel;obtain⟨p,k,c',a',aw,rfl,aV,rfl,ax,aa,x,r,HA⟩:=hrel;have Ra:=r.size;have Yd:=hM.below r;obtain⟨F,hF⟩:=aC (((M.drop q).take (p-q)).map Prod.snd);rw[<-hF]at x;have cc:F.length<=200000:=by rw[hF,dk,fR,m7];omega
        have HF:Hid _:=hF;clear hF;obtain⟨fa,fc,rfl,-⟩:∃a c,_=ς a F.length c/\F.length<=maxLen:=aB x
        by_cases hgo:∃h:p<M.length,M[p].1=n
        · obtain⟨hp,Y⟩:=hgo
          obtain rfl:=aa (by omega);obtain⟨c0,c1,c2⟩:=UF.out l p hp Yd;have wu:Hid (((M.drop q).take (p+1-q)).map Prod.snd=F++[M[p].2]):=by show _=_;rw[aax aV hp,ee,HF.out];rfl
          have al:Hid (∀m∈(M.drop q).take (p+1-q),m.1=n):=fun m j=>by
            rw[aax aV hp]at j;rcases dq.1 j with j|j
            · exact HA.out m j
            · rw[dd]at j;rw[j];exact Y
          rw[Y]at c0;generalize M[p].2=sp at c1 c2 wu;obtain⟨sk,sd⟩:=sp;simp only at c1 c2;have i3:(0:Int)<(k:Int):=by omega
          have i4:(1:Int)<=(k:Int):=by omega
          clear Y HA HN HL B;rcases Classical.em (c'=1) with aR|aR
          · subst aR
            go_wp2_with (at_builtin;go_loud (refine NS Tryz.Oq Tryz.I5 rfl (by decide) Cv rfl _ _ rfl I.heap.size (by simp;omega) _ F rfl (aO.below x ((cV _ _).alloc (zL0) _)) (sk,sd) _ 1 rfl (bQ (aj.new _ _ 109)) (by unfold maxLen;omega) (by omega) ?_;intro v8 w8 Dr eY BA Iw))
            go_roundg (k - 1)
            case measure=>omega
            case rel=>exact⟨p+1,0,0,_,by omega,by omega,by omega,rfl,by omega,fun h=>by omega,by rw[wu.out];exact Dr,r.trans (((cV _ l).alloc (by omega) _).trans eY),al⟩
          · go_wp2_with (at_builtin;go_loud (refine NS Tryz.Oq Tryz.I5 rfl (by decide) Cv rfl _ _ rfl I.heap.size (by simp;omega) _ F rfl (aO.below x ((cV _ _).alloc (zL0) _)) (sk,sd) _ 1 rfl (bQ (aj.new _ _ 109)) (by unfold maxLen;omega) (by omega) ?_;intro v8 w8 Dr eY BA Iw))
            go_roundg (k - 1)
            case measure=>omega
            case rel=>exact⟨p+1,k - 1,_,_,by omega,rfl,by omega,rfl,by omega,fun _=>by simp[Nat.succ_mul],by rw[wu.out];exact Dr,r.trans (((cV _ l).alloc (by omega) _).trans eY),al⟩
        · have bt:q<p:=by
            apply jt;intro cg;have e:p=q:=by omega
            subst e;exact hgo ⟨hq,HN.out.symm⟩
          have ak:∀m,M[p]?=ο m->m.1≠n:=fun m j e=>by
            obtain⟨h1,h2⟩:=cH.1 j;exact hgo ⟨h1,by rw[h2];exact e⟩
          have V:Hid (∀R,sK i (M.drop p) ⟨vZ d.ks F,d.es++[(i,n,ji d.ks F)]⟩ R->R=RR):=fun R h=>HL.out R (sK.step bt (by omega) HA.out ak (by rw[<-HF.out,akE];exact h))
          have ab:F≠[]:=fun e=>by
            have:=fd List.length (e.symm.trans HF.out);simp only[List.length_nil,List.length_map,List.length_take,List.length_drop]at this;omega
          have Ew:∀s∈F,s.1<=1000000/\s.2<=1000000:=fun s hs=>by
            rw[HF.out]at hs;obtain⟨m,j,rfl⟩:=fk.1 hs;exact(bv.out m (xh (mw j))).2
          have ah:=(B.below r).below (w':=l.drew) ⟨rfl,rfl,rfl,zL0,fun _ _=>rfl⟩;obtain⟨vk,a9,-,-,af,bc,b3,ca⟩:=B.below r;obtain⟨ea,ec,rfl,-⟩:∃a c,ve=ς a d.es.length c/\d.es.length<=maxLen:=aB af;have qN:=YO ah (jb (aO.below x (w':=l.drew) ⟨rfl,rfl,rfl,zL0,fun _ _=>rfl⟩) (by have:=B.choose_spec.2.2.2.2.2.2.size;omega)) ab (by omega) Ew z (by omega) ht;have d7:=a9.a7;have bw:lY l l.drew:=fun _ _ h=>h
          have VG:=ahR (F:=F) z;have bb:=akF (ks:=d.ks) (F:=F);have ba:ji d.ks F<=d.ks.length:=B4;clear HA HN HL B ab Ew ah a9 af ak;have VH:∀h:p<M.length,¬M[p].1=n:=fun h e=>hgo ⟨h,e⟩
          obtain⟨t,PD⟩:=aC (ji d.ks F);obtain⟨o,PE⟩:=aC (vZ d.ks F);rw[<-PD,<-PE]at V;rw[<-PD]at ba;rw[<-PE]at VG bb;have bx:χ prog 35 #[π (ο ⟨f,0,ν⟩),ς fa F.length fc] l.drew (fun e w'=>e=δ (ι ξ (t:Int))/\oQ u w' f W (ς ta nT tc) (ς na nN nc) vP vB vQ (ς ea d.es.length ec) ⟨o,d.es⟩/\lY l.drew w'/\l.drew.heap.size<=w'.heap.size):=by rw[PD,PE];exact qN
          clear qN PD PE hgo;rcases Nat.eq_zero_or_pos k with U|U
          case' inl=>
            subst U;clear VH;go_upto_region 7 with fail
          case' inr=>
            obtain rfl:=aa U;have hp:p<M.length:=by omega
            have c0:=(UF.out l p hp Yd).1;have aE:=VH hp;clear VH;generalize M[p].1=n2 at c0 aE;have j1:((n2:Int) == (n:Int))=ε:=zB0 (by omega);have j2:¬(n2:Int)=(n:Int):=by omega
            have j3:(0:Int)<(k:Int):=by omega
            go_upto_region 7 with fail
          all_goals
            go_region_law (first
              | (refine eZ rfl 35 #[π (ο ⟨f,0,ν⟩),ς fa F.length fc] (by go_simp) bx ?_;rintro e H⟨rfl,bj,b4,b8⟩;obtain⟨b5,zY,Bq,ap,IL,-,-,an⟩:=bj;have bV:H.cell? ⟨f,7,ν⟩=ο (ς ea d.es.length ec):=zY.cell 7;have G:=yd IL (ζ #[ι ξ (i:Int),ι ξ (n:Int),ι ξ (t:Int)] 125);have bf:=an.size;have b7:(H.alloc (ζ #[ι ξ (i:Int),ι ξ (n:Int),ι ξ (t:Int)] 125)).cell? ⟨f,7,ν⟩=ο (ς ea d.es.length ec):=(zY.alloc _).cell 7;refine⟨_,rfl,?_⟩)
              | (refine step_append_lies _ rfl (.tmp 47) (.tmp 54) 53 rfl u.heap.size 125 bz _ 3 24 Tryz.afE bd bi b1 bp rfl (by decide) (ς ea d.es.length ec) d.es.length (d.es.flatMap vY) (by simp[Act.eval]) G ⟨H.heap.size,0,ν⟩ 1 1 [ι ξ (i:Int),ι ξ (n:Int),ι ξ (t:Int)] (by simp[Act.eval]) rfl (bQ (aj.new H _ 125)) (by simp[Value.oneCell']) (by decide) (by unfold maxLen;omega) (by omega) (by simp;omega) _ rfl ?_;intro g5 J N y A jd Gx;have BD:aj N f _ 106:=(zY.alloc (ζ #[ι ξ (i:Int),ι ξ (n:Int),ι ξ (t:Int)] 125)).grown A (fun e=>own_ne G (zY.alloc _) (by decide) f e.symm rfl);have b9:N.cell? ⟨f,7,ν⟩=ο (ς ea d.es.length ec):=BD.cell 7;have bF:∀i,N.frozen? ⟨f,i,ν⟩=ε:=BD.frozen))
            all_goals
              have G:=yd IL (ζ #[ι ξ (i:Int),ι ξ (n:Int),ι ξ (t:Int)] 125);have dU:φ H.heap.size H (H.alloc (ζ #[ι ξ (i:Int),ι ξ (n:Int),ι ξ (t:Int)] 125)):=(cV _ H).alloc (zL0) _;have jS:aO 125 3 vY u.heap.size N (ς (ο ⟨g5,0,ν⟩) (d.es.length+1) J) (d.es++[(i,n,t)]):=by
                have e:(d.es++[(i,n,t)]).flatMap vY=d.es.flatMap vY++[ι ξ (i:Int),ι ξ (n:Int),ι ξ (t:Int)]:=by simp[vY]
                unfold aO;rw[e,cJ];exact y
              have uI:jF 110 109 u.heap.size N b5 o:=jF.grown (ap.below dU) G (by decide) (by decide) A;have zS:=Bq.move (dU.block _ Bq.lt);have Rb:lI N W (o.map pV):=by
                obtain⟨bN,VD,VE,-⟩:=id zS;exact zS.move (A.block W zS.lt (fun e=>JD G VE W e.symm rfl))
              have b2:=an.trans ((dU.mono bf).trans ⟨A.os,A.tape,A.output,A.size,fun b hb=>A.block b (by simp;omega) (fun e=>absurd (sf G b e.symm).1 (by omega))⟩);have MQ:=oQ.aow BD Rb uI jS bc b3 b2;have bn:lY l (N.setCell ⟨f,7,ν⟩ (ς (ο ⟨g5,0,ν⟩) (d.es.length+1) J)):=(bw.trans b4).trans ((lY.below dU).trans (lY.trans (b:=N) (fun b cs Q=>(A.block b Q.lt (fun e=>own_ne G Q (by decide) b e.symm rfl)).trans Q) (lY.but (b:=f) (fun b _ hn=>zS0 hn) (fun cs h=>by unfold aj at h BD;rw[BD]at h;cases h))));have eU:=bn.row Yd;have am:(d.es++[(i,n,t)]).length<=40000000+p:=by rw[cJ,gw];omega
              have ao:o.length<=300+p:=by omega
              clear BD zY Bq ap IL zS Rb uI jS A y G;go_wp2_with fail
              first
                | (go_roundg k
                   case measure=>omega
                   case rel=>exact⟨p,k,c',ο ⟨g,p*3,ν⟩,⟨o,d.es++[(i,n,t)]⟩,_,aw,rfl,rfl,ax,fun _=>rfl,MQ,eU,VG,ao,am,V⟩)
                | (go_roundg 0
                   case measure=>omega
                   case rel=>exact⟨p,0,c',a',⟨o,d.es++[(i,n,t)]⟩,_,aw,rfl,rfl,ax,aa,MQ,eU,VG,ao,am,V⟩)
    · obtain rfl:L=0:=by omega
      have HR:Hid _:=HL.out d (by rw[show M.drop q=[] from pD (by omega)];exact .nil);clear HL ha;go_wp2_with fail
      go_end0
      exact⟨rfl,ve,by rw[<-HR.out];exact B⟩
def anh(g:Lx.Gr):Prop:=Vp ((aG g).length+(gH g).length) (bY g)/\(aG g).length+(gH g).length<=100000/\∀p∈bY g,p.right.length<=100000
def ani(w w':ω)(nT n:Nat)(P:List Lx.Pd)(e:Ending):Prop:=∃gE E k vF B m,e=δ (θ #[ς (ο ⟨gE,0,ν⟩) n n,vF,ι ξ 0,ι ξ 0])/\aj w' gE (bE E) 4/\w.heap.size<=gE/\E.length=n/\E=iT (mq P) k (ψ n ε)/\mq P E=E/\B=iT (iq P E) m (Lx.alone nT n)/\iq P E B=B/\Ip w.heap.size w' vF (B.map fq)
theorem aoF(w:ω)(x0 x1 x2 x3 x4:υ):aj (w.alloc (ζ #[x0,x1,x2,x3,x4] 49)) w.heap.size #[x0,x1,x2,x3,x4] 49:=aj.new w _ 49
theorem akG{g:Lx.Gr}(a:Lx.Fit g):anh g:=by
 have h:=a.pk;exact⟨fun p hp=>⟨(h p hp).1.2,fun s b=>((h p hp).2.2 s b).1⟩,by have:=a.Ef;have:=a.O3;omega,fun p hp=>by have:=(h p hp).2.1;omega⟩
theorem akH{g:Lx.Gr}(D:Lx.Gd s g)(w:ω)(ht:iy w):χ prog 26 #[τ s] w fun e w'=>φ w.heap.size w w'/\ani w w' (aG g).length ((aG g).length+(gH g).length) (bY g) e:=by
 have q1:=NV D w ht;obtain⟨o1,o2,S⟩:=akG D.fit;clear D;go_enter func26,ntmps26;go_wp2_with fail;refine q1.mono ?_;rintro e w1⟨v,rfl,p,T⟩;clear q1;obtain⟨vT,vN,vP,vB,vK,rfl,hT,hN,C,r,hK⟩:=T.pl;obtain⟨H,y,rfl,-⟩:=aB hT;obtain⟨I,O,rfl,-⟩:=aB hN;obtain⟨ps,p1,p2,-⟩:=id C;obtain⟨F,L,rfl,-⟩:=aB p2;obtain⟨ba,bc,rfl,-⟩:=aB r;obtain⟨ka,kc,rfl,-⟩:=aB hK;clear T hT hN r hK p1 p2;generalize hNT:(aG g).length=nT at *;generalize hNN:(gH g).length=nN at *;have A:Hid _:=hNT;have VT:Hid _:=hNN;clear hNT hNN;generalize ((aG g).map fun t=>(vC g t).1).length=nB at *;generalize ((aG g).map fun t=>(vC g t).2).length=nK at *;obtain⟨W,x⟩:=aC (w1.alloc (ζ #[ς H nT y,ς I nN O,ς F (bY g).length L,ς ba nB bc,ς ka nK kc] 49));have kW:aj W w1.heap.size #[ς H nT y,ς I nN O,ς F (bY g).length L,ς ba nB bc,ς ka nK kc] 49:=by rw[x];exact aoF _ _ _ _ _ _
 have c:φ w1.heap.size w1 W:=by rw[x];exact(cV _ _).alloc (zL0) _
 have d:Gq W H nT y I nN O (ς F (bY g).length L) (bY g):=⟨C.below c,o1,o2⟩;have X:=afl (ba:=ba) (ka:=ka) (nb:=nB) (bc:=bc) (nk:=nK) (kc:=kc) d;have V:=kW.a0;have c1:=kW.a1;have Q:=kW.a2;have c3:=kW.a3;have U:=kW.a4;go_wp2_with fail;rw[<-x];clear x;go_wp2_with fail;refine X.mono ?_;rintro e w2⟨gE,E,k,rfl,ac,K,b,hE,j,a⟩;clear X V c1 Q c3 U;have i:=kW.on a;have V:=i.a0;have c1:=i.a1;have Q:=i.a2;have c3:=i.a3;have U:=i.a4;have P:=aff (ba:=ba) (ka:=ka) (nb:=nB) (bc:=bc) (nk:=nK) (kc:=kc) (d.below a) K b S;have HE:Hid _:=hE;have G:Hid _:=j;have J:Hid _:=b;clear hE j b d o1 S C;go_wp2_with fail;refine P.mono ?_;rintro e w3⟨Y,B,m,rfl,r,n,o,u⟩;clear P;have aa:=p.size;have zD:=c.size;have ab:=a.size;have z:Ip w.heap.size w3 Y (B.map fq):=by
  obtain⟨R,⟨Z,M,r3,r4⟩,r5⟩:=o;exact⟨R,⟨Z,jb M (by omega),fun q hq=>jb (r3 q hq) (by omega),r4⟩,r5⟩
 obtain⟨l,f,rfl⟩:∃l f,Y=ς l (B.map fq).length f:=by
  obtain⟨R,⟨Z,M,-⟩,-⟩:=o;obtain⟨l,f,e,-⟩:=aB M;exact⟨l,f,e⟩
 have HB:Hid _:=r;have N:Hid _:=n;clear r n;go_wp2_with fail;refine iS (v:=θ #[ς (ο ⟨gE,0,ν⟩) (nT+nN) (nT+nN),ς l (B.map fq).length f,ι ξ 0,ι ξ 0]) (by simp[results,results26,go_sem]) rfl ?_;refine⟨p.trans ((c.trans ((a.mono zD).trans (u.mono (by omega)))).mono (by omega)),?_⟩;rw[A.out,VT.out];exact⟨gE,E,k,_,B,m,rfl,(u.block _ K.lt).trans K,by omega,J.out,HE.out,G.out,HB.out,N.out,z⟩
namespace Lx
def jW(g:Gr):Nat:=(aG g).length+(gH g).length
theorem sM.leave{P:List Pd}{sz st:Nat}(hp:nO P sz st){i:Nat}{K:List au}:∀(ns:List Nat)(S:bI),sM P S->S.ks[i]?=ο K->sM P (Lx.leave P i K S ns)
 | [],_,h,_=>h
 |n::ns,S,h,hK=>sM.leave hp ns (Lx.edge P i K S n) (h.edge hp hK n) (abX hK)
theorem aa6{P:List Pd}{i:Nat}{K:List au}:∀(ns:List Nat)(S:bI),(leave P i K S ns).es.length<=S.es.length+ns.length
 | [],_=>zL0
 |n::ns,S=>by
  have h1:=aa6 (P:=P) (i:=i) (K:=K) ns (edge P i K S n);have h2:=(akc (P:=P) (i:=i) (K:=K) (S:=S) (n:=n)).2;have:leave P i K S (n::ns)=leave P i K (edge P i K S n) ns:=rfl;rw[this,eh];omega
theorem jY.all1{st:Nat}(hp:nO P sz st){S:bI}(h:jY P i 0 S)(a:S.ks[i]?=ο K):jY P (i+1) 0 (Lx.leave P i K S (List.range sz)):=by
 have h1:=(jY.leave (K:=K) sz 0 S h a).1;rw[fX,<-List.range_eq_range']at h1;exact h1.next hp
end Lx
def anj(B:Nat)(w:ω)(vl ve:υ)(S:bI):Prop:=jF 110 109 B w vl S.ks/\aO 125 3 vY B w ve S.es
theorem agN{g:Lx.Gr}{So:bI}(hG:Lx.Gd s g)(O:BK (bY g) (jW g)=ο So)(w:ω)(ht:iy w):χ prog 14 #[τ s] w fun e w'=>∃vl ve,e=δ (θ #[vl,ve,ι ξ 0,ι ξ 0])/\φ w.heap.size w w'/\anj w.heap.size w' vl ve So:=by
 have k:=amB hG.fit;have Hr:=NV hG w ht;clear hG;go_enter func14,ntmps14;go_upto_region 2 with (go_at_call 13;refine Hr.mono ?_;rintro e w1⟨v,rfl,W,hP⟩;obtain⟨vT,vN,vP,vB,vK,rfl,h1,h2,h3,h4,h5⟩:=hP.pl;clear hP Hr;obtain⟨q,n,rfl,-⟩:=aB h1;obtain⟨u,A,rfl,-⟩:=aB h2;obtain⟨t,o,rfl,-⟩:=aB h4;obtain⟨l,z,rfl,-⟩:=aB h5;obtain⟨p,y,rfl,-⟩:∃a c,vP=ς a (bY g).length c/\(bY g).length<=maxLen:=by (obtain⟨ps,h1,h2,-⟩:=h3;exact aB h2))
 have ak:=W.size;obtain⟨b,Rc⟩:=aC (w1.alloc (ζ #[ς q (aG g).length n,ς u (gH g).length A,ς p (bY g).length y,ς t (aG g).length o,ς l (aG g).length z] 49));have T:φ w1.heap.size w1 b:=by rw[Rc];exact(cV _ _).alloc (zL0) _
 have kA:aj b w1.heap.size #[ς q (aG g).length n,ς u (gH g).length A,ς p (bY g).length y,ς t (aG g).length o,ς l (aG g).length z] 49:=by rw[Rc];exact aj.new w1 _ 49
 rw[<-Rc];clear Rc h1 h2 h4 h5;have PG:=W.trans (T.mono (by omega));have ao:=PG.size;have X8:=h3.below T;have L:iy b:=((Lib.tabBelow_of_tabIs ht).on PG).here;have a0:=kA.cell 0;have a1:=kA.cell 1;have a2:=kA.cell 2;have a3:=kA.cell 3;have a4:=kA.cell 4;simp only[List.getElem?_toArray,List.getElem?_cons_zero,List.getElem?_cons_succ]at a0 a1 a2 a3 a4;have HS:Hid (BK (bY g) (jW g)=ο So):=O;have hsz:jW g=(aG g).length+(gH g).length:=rfl;rw[hsz]at HS;clear kA h3 hsz O;generalize (aG g).length=nT at *;generalize (gH g).length=nN at *;generalize bY g=P at *;have ac:=@sq prog;obtain⟨E,j⟩:=aC (((b.alloc (.map #[] 0)).alloc (ζ #[ς q nT n,ς u nN A,ς p P.length y,ς t nT o,ς l nT z,.map (ο b.heap.size),ς ν 0 0,ς ν 0 0] 106)).alloc (ζ #[ι ξ 0,ι ξ 0] 109));have X:φ b.heap.size b E:=by rw[j];exact(((cV _ _).alloc (zL0) _).alloc (by simp) _).alloc (by simp;omega) _
 have zY:aj E (b.heap.size+1) #[ς q nT n,ς u nN A,ς p P.length y,ς t nT o,ς l nT z,.map (ο b.heap.size),ς ν 0 0,ς ν 0 0] 106:=by rw[j];simpa using (aj.new (b.alloc (.map #[] 0)) #[ς q nT n,ς u nN A,ς p P.length y,ς t nT o,ς l nT z,.map (ο b.heap.size),ς ν 0 0,ς ν 0 0] 106).alloc (ζ #[ι ξ 0,ι ξ 0] 109)
 have QV:aj E (b.heap.size+1+1) #[ι ξ 0,ι ξ 0] 109:=by rw[j];simpa using aj.new ((b.alloc (.map #[] 0)).alloc (ζ #[ς q nT n,ς u nN A,ς p P.length y,ς t nT o,ς l nT z,.map (ο b.heap.size),ς ν 0 0,ς ν 0 0] 106)) #[ι ξ 0,ι ξ 0] 109
 have Bq:lI E b.heap.size []:=by
  have h0:=lI.made b;have h1:=h0.move (w':=(b.alloc (.map #[] 0)).alloc (ζ #[ς q nT n,ς u nN A,ς p P.length y,ς t nT o,ς l nT z,.map (ο b.heap.size),ς ν 0 0,ς ν 0 0] 106)) (ed _ _ _ h0.lt);rw[j];exact h1.move (ed _ _ _ h1.lt)
 have M:oQ b E (b.heap.size+1) b.heap.size (ς q nT n) (ς u nN A) (ς p P.length y) (ς t nT o) (ς l nT z) (ς ν 0 0) ⟨[],[]⟩:=⟨_,zY,Bq,⟨[],rfl,eV _ _ _ _,fun x hx=>by cases hx⟩,eV _ _ _ _,by omega,by omega,X⟩;have H:aO 109 2 jq b.heap.size E (ς (ο ⟨b.heap.size+1+1,0,ν⟩) 1 1) [(0,0)]:=alv QV (by omega) rfl;have q5:=YO M H (by simp) (by simp) (fun s hs=>by rw[dd]at hs;subst hs;exact⟨by omega,by omega⟩) (by simp) (by simp) L;have U:Hid (jY P 0 0 ⟨[[(0,0)]],[]⟩):=jY.first P;have J:Hid (sM P ⟨[[(0,0)]],[]⟩):=sM.first k;have MP:Hid (BK P (nT+nN)=xV P (nT+nN) (302-0) 0 ⟨[[(0,0)]],[]⟩):=rfl;have B:(⟨vZ [] [(0,0)],[]⟩:bI)=⟨[[(0,0)]],[]⟩:=rfl;clear QV H M Bq zY;go_upto_region 5 with fail
 go_upto_region 6 with (go_at_call 35;go_loud (rw[<-j];refine q5.mono ?_;rintro e w4⟨rfl,Rf,-,aa⟩))
 rw[B]at Rf;clear j X q5 B aa ac a0 a1 a2 a3 a4;generalize Q:b.heap.size+1=f at *;generalize hmb:b.heap.size=mb at Rf;clear Q hmb;go_wp2_with fail
 go_loopg [10] 301 (fun m iv wr=>∃(i:Nat)(S:bI)(ve:υ),i+m=301/\i<=300/\iv=ι ξ (i:Int)/\oQ b wr f mb (ς q nT n) (ς u nN A) (ς p P.length y) (ς t nT o) (ς l nT z) ve S/\S.ks.length<=300/\S.es.length<=i*100000/\Hid (jY P i 0 S)/\Hid (sM P S)/\Hid (BK P (nT+nN)=xV P (nT+nN) (302-i) i S))
 case atStart=>exact⟨0,_,_,by omega,by omega,rfl,Rf,by simp,by simp,U,J,MP⟩
 case round=>
  clear Rf U J MP;revert wr;intro wz hrel;obtain⟨i,S,ve,al,ah,rfl,Q,ab,ai,Y,HO,HA⟩:=hrel;obtain⟨vk,kF,hm,hK,hE,Q9,am,pG⟩:=id Q;obtain⟨va,vc,rfl,-⟩:=hK.len;have d6:=kF.a6;have d7:=kF.a7;have G:=PG.trans (pG.mono (by omega))
  by_cases hlt:i<S.ks.length
  ·obtain⟨r,d⟩:∃K,S.ks[i]?=ο K:=⟨_,cG hlt⟩
   have D:=HO.out i r d;have q9:=ajc Q X8 k d D (by have:=D.len;omega) (Y.out.rise i r d) Y.out.nd ab (by omega) L;have F:Hid (jY P (i+1) 0 (Lx.leave P i r S (List.range (nT+nN)))):=jY.all1 k Y.out d;have N:Hid (sM P (Lx.leave P i r S (List.range (nT+nN)))):=sM.leave k _ S HO.out d;have Z:=aa6 (P:=P) (i:=i) (K:=r) (List.range (nT+nN)) S;rw[pA]at Z;have VB:=k.szm;have HN:Hid (BK P (nT+nN)=if 300<(Lx.leave P i r S (List.range (nT+nN))).ks.length then ν else xV P (nT+nN) (302 - (i+1)) (i+1) (Lx.leave P i r S (List.range (nT+nN)))):=by
    show _=_;rw[HA.out,aiU (by omega) d]
   have I:(Lx.leave P i r S (List.range (nT+nN))).es.length<=(i+1)*100000:=by omega
   have i1:(i:Int)<(S.ks.length:Int):=by omega
   clear HA Y HO D d kF hm hK hE Q Z d7;generalize Lx.leave P i r S (List.range (nT+nN))=R at q9 F N HN I;go_upto_region 10 with (go_at_call 36;go_loud (refine q9.mono ?_;rintro e w5⟨rfl,ad,MQ⟩))
   obtain⟨af,BD,Rb,uI,jS,-,-,ae⟩:=id MQ;obtain⟨an,ag,rfl,-⟩:=uI.len;have e6:=BD.a6;have GL:=PG.trans (ae.mono (by omega));clear q9 d6 BD Rb uI jS
   by_cases h3:300<R.ks.length
   ·have:=HS.out
    rw[HN.out,du h3]at this;cases this
   ·have Fp:Hid (BK P (nT+nN)=xV P (nT+nN) (302 - (i+1)) (i+1) R):=by show _=_;rw[HN.out,dt h3]
    have j1:¬(300:Int)<(R.ks.length:Int):=by omega
    clear HN;go_wp2_with fail;go_roundg (301 - (i+1))
    case measure=>omega
    case rel=>exact⟨i+1,R,ad,by omega,by omega,by go_num,MQ,by omega,I,F,N,Fp⟩
  ·have V:=HS.out
   rw[HA.out,akd (by omega) (by omega)]at V;obtain rfl:S=So:=fL V;have i1:¬(i:Int)<(S.ks.length:Int):=by omega
   clear HA Y HO;go_wp2_with fail
   go_quiet (fail)
   have C:φ wz.heap.size wz (wz.drewN nq):=⟨rfl,rfl,rfl,zL0,fun _ _=>rfl⟩;go_wp2_with fail;exact iS (v:=θ #[ς va S.ks.length vc,ve,ι ξ 0,ι ξ 0]) (by simp[results,results14,go_sem]) rfl ⟨_,_,rfl,G.trans (C.mono (by have:=G.size;omega)),(hK.below C).le (by omega),jb (aO.below hE C) (by omega)⟩
