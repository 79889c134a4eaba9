import Derived.Test.YtagkodkijkpemaaGreatDoorRA00
import Derived.WalkKit
import Derived.Test.YtagkodkijkpemaaGreatDoorProg
import Derived.WalkSpells
import Derived.WalkLawsBesides
set_option maxHeartbeats 8000000
set_option maxRecDepth 1000000
namespace Go.Proofs.YtagkodkijkpemaaGreatDoor
namespace Lx
end Lx
open Lx Go.Proofs.Tryz
open Go Go.RowKit
namespace Lx
def iy(s:ByteArray)(i:Nat):Int:=((s.data.getD i 0).toNat:Int)
theorem oz(s:ByteArray)(i:Nat)(h:i<s.size):iy s i=(s[i].toNat:Int):=by
 unfold iy;have a:i<s.data.size:=h;rw[mB,j7 a];rfl
theorem Dh(s:ByteArray)(i:Nat):0<=iy s i/\iy s i<=255:=by
 unfold iy;have:=(s.data.getD i 0).toNat_lt;omega
def BG(s:ByteArray):Nat->Nat->Bool->Nat
 |0,i,_=>i
 |f+1,i,r=>
  if iy s i=10 then BG s f (i+1) false
  else if iy s i=35 then BG s f (i+1) true
  else if r=false/\iy s i≠32/\iy s i≠9 then i
  else BG s f (i+1) r
def iT(s:ByteArray)(i:Nat)(r:Bool):Nat:=BG s (s.size-i) i r
theorem afA{s:ByteArray}{i:Nat}(r:Bool)(h:s.size<=i):iT s i r=i:=by
 unfold iT;rw[show s.size-i=0 by omega];rfl
theorem Io{s:ByteArray}{i:Nat}(r:Bool)(h:i<s.size):iT s i r =
  if iy s i=10 then iT s (i+1) false
  else if iy s i=35 then iT s (i+1) true
  else if r=false/\iy s i≠32/\iy s i≠9 then i
  else iT s (i+1) r:=by
 unfold iT;rw[show s.size-i=(s.size - (i+1))+1 by omega];rfl
theorem alT{s:ByteArray}{k:Nat}{b:Bool}{r:Nat}(h:k<s.size)(a:iT s k b=r)(c:(s[k].toNat:Int)=10):iT s (k+1) false=r:=by
 rw[Io b h,oz s k h,de c]at a;exact a
theorem ai3{s:ByteArray}{k:Nat}{b:Bool}{r:Nat}(h:k<s.size)(a:iT s k b=r)(c:(s[k].toNat:Int)=35):iT s (k+1) true=r:=by
 rw[Io b h,oz s k h,dk (by omega),de c]at a;exact a
theorem akD{s:ByteArray}{k:Nat}{r:Nat}(h:k<s.size)(a:iT s k true=r)(b:(s[k].toNat:Int)≠10)(hd:(s[k].toNat:Int)≠35):iT s (k+1) true=r:=by
 rw[Io true h,oz s k h,dk b,dk hd,dk (by simp)]at a;exact a
theorem ahA{s:ByteArray}{k:Nat}{r:Nat}(h:k<s.size)(a:iT s k false=r)(hd:(s[k].toNat:Int)=32\/(s[k].toNat:Int)=9):iT s (k+1) false=r:=by
 rw[Io false h,oz s k h,dk (by omega),dk (by omega),dk (by omega)]at a;exact a
theorem ai4{s:ByteArray}{k:Nat}{r:Nat}(h:k<s.size)(a:iT s k false=r)(h1:(s[k].toNat:Int)≠10)(h2:(s[k].toNat:Int)≠35)(h3:(s[k].toNat:Int)≠32)(h4:(s[k].toNat:Int)≠9):k=r:=by
 rw[Io false h,oz s k h,dk h1,dk h2,de ⟨rfl,h3,h4⟩]at a;exact a
theorem MG(s:ByteArray):∀(f i:Nat)(r:Bool),i<=BG s f i r/\BG s f i r<=i+f
 |0,i,r=>by simp[BG]
 |f+1,i,r=>by
  have h1:=MG s f (i+1) false;have h2:=MG s f (i+1) true;have h3:=MG s f (i+1) r;unfold BG
  split
  ·omega
  ·split
   ·omega
   ·split <;> omega
theorem Ml{s:ByteArray}{i:Nat}(r:Bool)(h:i<=s.size):i<=iT s i r/\iT s i r<=s.size:=by
 have:=MG s (s.size-i) i r;unfold iT;omega
def small(c:Int):Bool:=decide (97<=c/\c<=122)
def capital(c:Int):Bool:=decide (65<=c/\c<=90)
def digit(c:Int):Bool:=decide (48<=c/\c<=57)
def FK(c:Int):Bool:=small c || capital c || digit c
def FI(s:ByteArray):Nat->Nat->Nat
 |0,i=>i
 |f+1,i=>if FK (iy s i)=true then FI s f (i+1) else i
def wM(s:ByteArray)(i:Nat):Nat:=FI s (s.size-i) i
theorem afc{s:ByteArray}{i:Nat}(h:s.size<=i):wM s i=i:=by
 unfold wM;rw[show s.size-i=0 by omega];rfl
theorem afd{s:ByteArray}{i:Nat}(h:i<s.size):wM s i=if FK (iy s i)=true then wM s (i+1) else i:=by
 unfold wM;rw[show s.size-i=(s.size - (i+1))+1 by omega];rfl
theorem Zh(s:ByteArray):∀(f i:Nat),i<=FI s f i/\FI s f i<=i+f
 |0,i=>by simp[FI]
 |f+1,i=>by
  have h1:=Zh s f (i+1);unfold FI
  split <;> omega
theorem agq{s:ByteArray}{i:Nat}(h:i<=s.size):i<=wM s i/\wM s i<=s.size:=by
 have:=Zh s (s.size-i) i;unfold wM;omega
def oG(s:ByteArray)(i:Nat):Nat:=max (wM s (if iy s i=37 then i+1 else i)) (i+1)
theorem QK{s:ByteArray}{i:Nat}(h:i<s.size):i<oG s i/\oG s i<=s.size:=by
 have h1:=agq (s:=s) (i:=if iy s i=37 then i+1 else i) (by split <;> omega);unfold oG;omega
end Lx
end Go.Proofs.YtagkodkijkpemaaGreatDoor
namespace Go.Proofs.YtagkodkijkpemaaGreatDoor
namespace Lx
end Lx
open Lx Go.Proofs.Tryz
open Go Go.RowKit
namespace Lx
abbrev Tk:=ByteArray×Nat
def sW(s:ByteArray)(i:Nat):Nat:=iT s (oG s i) false
def mE(s:ByteArray):Nat->Nat->List Tk
 |0,i=>[((⟨#[]⟩:ByteArray),i)]
 |f+1,i=>if i<s.size then (s.extract i (oG s i),i)::mE s f (sW s i) else [((⟨#[]⟩:ByteArray),i)]
def yQ(s:ByteArray)(i:Nat):List Tk:=mE s (s.size-i) i
def lex(s:ByteArray):List Tk:=yQ s (iT s 0 false)
theorem Mq{s:ByteArray}{i:Nat}(h:i<s.size):i<sW s i/\sW s i<=s.size:=by
 have h1:=QK h;have h2:=Ml (s:=s) (i:=oG s i) false h1.2;unfold sW;omega
theorem Yq(s:ByteArray):∀(f g i:Nat),s.size-i<=f->s.size-i<=g->mE s f i=mE s g i
 |0,0,i,_,_=>rfl
 |0,g+1,i,hf,_=>by simp only[mE];rw[dk (by omega)]
 |f+1,0,i,_,hg=>by simp only[mE];rw[dk (by omega)]
 |f+1,g+1,i,hf,hg=>by
  simp only[mE]
  by_cases h:i<s.size
  ·have:=Mq h
   rw[de h,de h,Yq s f g (sW s i) (by omega) (by omega)]
  ·rw[dk h,dk h]
theorem agr{s:ByteArray}{i:Nat}(h:s.size<=i):yQ s i=[((⟨#[]⟩:ByteArray),i)]:=by
 unfold yQ;rw[show s.size-i=0 by omega];rfl
theorem ags{s:ByteArray}{i:Nat}(h:i<s.size):yQ s i=(s.extract i (oG s i),i)::yQ s (sW s i):=by
 have a:=Mq h;unfold yQ;rw[show s.size-i=(s.size-i-1)+1 by omega];simp only[mE];rw[de h,Yq s _ (s.size-sW s i) (sW s i) (by omega) (by omega)]
theorem Zi(s:ByteArray):∀(f i:Nat),(mE s f i).length<=f+1
 |0,i=>by simp[mE]
 |f+1,i=>by
  have:=Zi s f (sW s i);simp only[mE]
  split <;> simp <;> omega
theorem Mr(s:ByteArray)(i:Nat):(yQ s i).length<=s.size+1:=by
 have:=Zi s (s.size-i) i;unfold yQ;omega
def qm(l:List Tk):List Value:=l.flatMap fun t=>[.string t.1,.int .i64 (t.2:Int)]
theorem Xa(a b:List Tk):qm (a++b)=qm a++qm b:=by simp[qm]
theorem QA(l:List Tk)(k:Nat)(t:Tk)(h:l[k]?=some t):(qm l)[k*2]?=some (.string t.1)/\(qm l)[k*2+1]?=some (.int .i64 (t.2:Int)):=by
 induction l generalizing k with
 |nil=>simp at h
 |cons u l ih=>
  cases k with
  |zero=>simp at h;subst h;simp[qm]
  |succ k=>
   have h1:=ih k (by simpa using h);have e:qm (u::l)=[.string u.1,.int .i64 (u.2:Int)]++qm l:=by simp[qm]
   rw[e,eJ (by simp;omega),eJ (by simp;omega)];simp only[el,iu];rw[show (k+1)*2 - (0+1+1)=k*2 by omega,show (k+1)*2+1 - (0+1+1)=k*2+1 by omega];exact h1
end Lx
end Go.Proofs.YtagkodkijkpemaaGreatDoor
namespace Go.Proofs.YtagkodkijkpemaaGreatDoor
namespace Lx
end Lx
open Lx Go.Proofs.Tryz
open Go.RowKit
theorem iN{a b:Bool}(h:a=b):Ending.returned (.bool a)=.returned (.bool b):=by rw[h]
theorem Dl{k:IntKind}{a b:Int}(h:a=b):Ending.returned (.int k a)=.returned (.int k b):=by rw[h]
theorem Da(c:Int)(w:World)(a:0<=c)(h1:c<=255):
  Calls prog 116 #[.int .u8 c] w fun e w'=>e=.returned (.bool (Lx.small c))/\w'=w:=by
 by_cases h:97<=c
 ·by_cases h':c<=122
  all_goals
   go_enter func116,ntmps116
   go_wp2
   go_ret;exact⟨iN (by simp[Lx.small];omega),rfl⟩
 ·go_enter func116,ntmps116
  go_wp2
  go_ret;exact⟨iN (by simp[Lx.small];omega),rfl⟩
theorem EK(c:Int)(w:World)(a:0<=c)(h1:c<=255):
  Calls prog 117 #[.int .u8 c] w fun e w'=>e=.returned (.bool (Lx.capital c))/\w'=w:=by
 by_cases h:65<=c
 ·by_cases h':c<=90
  all_goals
   go_enter func117,ntmps117
   go_wp2
   go_ret;exact⟨iN (by simp[Lx.capital];omega),rfl⟩
 ·go_enter func117,ntmps117
  go_wp2
  go_ret;exact⟨iN (by simp[Lx.capital];omega),rfl⟩
theorem Ip(c:Int)(w:World)(a:0<=c)(h1:c<=255):
  Calls prog 156 #[.int .u8 c] w fun e w'=>e=.returned (.bool (Lx.digit c))/\w'=w:=by
 by_cases h:48<=c
 ·by_cases h':c<=57
  all_goals
   go_enter func156,ntmps156
   go_wp2
   go_ret;exact⟨iN (by simp[Lx.digit];omega),rfl⟩
 ·go_enter func156,ntmps156
  go_wp2
  go_ret;exact⟨iN (by simp[Lx.digit];omega),rfl⟩
theorem Xb(c:Int)(w:World)(a:0<=c)(h1:c<=255):
  Calls prog 149 #[.int .u8 c] w fun e w'=>e=.returned (.bool (FK c))/\w'=w:=by
 cases ha:Lx.small c
 ·cases hb:Lx.capital c
  all_goals
   go_enter func149,ntmps149
   go_wp2_with (first
    | (go_at_call 116;refine(Da _ _ a h1).mono ?_;rintro e w'⟨rfl,rfl⟩)
    | (go_at_call 117;refine(EK _ _ a h1).mono ?_;rintro e w'⟨rfl,rfl⟩)
    | (go_at_call 156;refine(Ip _ _ a h1).mono ?_;rintro e w'⟨rfl,rfl⟩))
   go_ret;exact⟨iN (by simp[FK,ha,hb]),rfl⟩
 ·go_enter func149,ntmps149
  go_wp2_with (first
    | (go_at_call 116;refine(Da _ _ a h1).mono ?_;rintro e w'⟨rfl,rfl⟩))
  go_ret;exact⟨iN (by simp[FK,ha]),rfl⟩
end Go.Proofs.YtagkodkijkpemaaGreatDoor
namespace Go.Proofs.YtagkodkijkpemaaGreatDoor
namespace Lx
end Lx
open Lx Go.Proofs.Tryz
open Go.RowKit
theorem XO(s:ByteArray)(i:Nat)(w:World)(j:s.size<=2000)(f:i<=s.size):
    Calls prog 108 #[.string s,.int .i64 i] w fun e w'=>e=.returned (.int .i64 (iT s i false))/\w'=w:=by
  go_enter func108,ntmps108
  go_wp2
  go_loop [1,5] (fun a r=>∃(k:Nat)(b:Bool),k<=s.size/\a=.int .i64 k/\r=.bool b/\Hid (iT s k b=iT s i false)) (fun a _=>s.size - (intOf a).toNat)
  case atStart=>exact⟨i,false,f,rfl,rfl,rfl⟩
  case round=>
    obtain⟨k,b,g,rfl,rfl,c⟩:=hrel
    by_cases hlt:k<s.size
    · have d:=Dh s k
      rw[oz s k hlt]at d;cases b
      all_goals
        go_wp2
        all_goals
          have h1:=c.out;clear c;simp only[tr,iS,j8,bne_eq_false_iff_eq,ne_eq]at *
          first
          | (refine⟨⟨k+1,_,by omega,by go_num,rfl,?_⟩,by simp[intOf];omega⟩
             first
             | (refine alT hlt h1 ?_;omega)
             | (refine ai3 hlt h1 ?_;omega)
             | (refine akD hlt h1 ?_ ?_ <;> omega)
             | (refine ahA hlt h1 ?_;omega))
          | (go_ret
             refine⟨Dl ?_,rfl⟩;rw[<-ai4 hlt h1 (by omega) (by omega) (by omega) (by omega)])
    · go_wp2
      go_ret;exact⟨Dl (by have:=c.out;rw[afA _ (by omega)]at this;rw[<-this]),rfl⟩
theorem afB(s:ByteArray)(i:Nat)(w:World)(v:s.size<=2000)(p:i<s.size):
    Calls prog 109 #[.string s,.int .i64 i] w fun e w'=>e=.returned (.int .i64 (oG s i))/\w'=w:=by
  have a:=oz s i p;have g:=Dh s i;obtain⟨j,t,q,b,r⟩:∃j:Nat,i<=j/\j<=i+1/\(j=i+1/\(((s[i].toNat:Int)) == 37)=true\/j=i/\(((s[i].toNat:Int)) == 37)=false)/\Hid (oG s i=max (wM s j) (i+1)):=by
    by_cases hp:s[i].toNat=37
    · exact⟨i+1,by omega,by omega,.inl ⟨rfl,by simp;omega⟩,by show _=_;unfold oG;rw[a,de (by omega)]⟩
    · exact⟨i,by omega,by omega,.inr ⟨rfl,by simp;omega⟩,by show _=_;unfold oG;rw[a,dk (by omega)]⟩
  clear a;rcases b with ⟨c,b⟩|⟨c,b⟩
  all_goals
    have n:Hid _:=c;clear c;go_enter func109,ntmps109
    go_wp2
    go_loop [5] (fun f=>∃(k:Nat),k<=s.size/\f=.int .i64 k/\Hid (oG s i=max (wM s k) (i+1))) (fun f=>s.size - (intOf f).toNat)
    case atStart=>exact⟨j,by omega,by first | (rw[n.out];done) | (rw[n.out];go_num),r⟩
    case round=>
      obtain⟨k,u,rfl,l⟩:=hrel
      by_cases hlt:k<s.size
      · have d:=afd hlt
        have g:=Dh s k;have a:=oz s k hlt;rw[a]at d g;have o:Hid _:=d;clear d a;cases hw:FK (s[k].toNat:Int)
        · have m:Hid _:=hw
          go_wp2_with (first | (go_at_call 149;refine(Xb _ _ (by omega) (by omega)).mono ?_;rintro e w'⟨rfl,rfl⟩))
          all_goals
            go_ret;refine⟨Dl ?_,rfl⟩;rw[l.out,o.out,dk (by rw[m.out];simp)];omega
        · have m:Hid _:=hw
          go_wp2_with (first | (go_at_call 149;refine(Xb _ _ (by omega) (by omega)).mono ?_;rintro e w'⟨rfl,rfl⟩))
          refine⟨⟨k+1,by omega,by go_num,?_⟩,by simp[intOf];omega⟩;show _=_;rw[l.out,o.out,de m.out]
      · go_wp2_with fail
        all_goals
          go_ret;refine⟨Dl ?_,rfl⟩;rw[l.out,afc (by omega)];omega
end Go.Proofs.YtagkodkijkpemaaGreatDoor
namespace Go.Proofs.YtagkodkijkpemaaGreatDoor
namespace Lx
end Lx
open Lx Go.Proofs.Tryz
open Go.RowKit
theorem Tryz.akE:(prog.info? 185).map (fun i=>(i.zero,i.size,i.bytes))=some (some (.agg #[.string ByteArray.empty,.int .i64 0]),2,24):=by kernel_rfl
theorem aa5{w:World}{g:Nat}{x y:Value}(b:w.cell? ⟨g,0,none⟩=some x)(h1:w.cell? ⟨g,1,none⟩=some y):∀j u,[x,y][j]?=some u->w.cell? ((⟨g,0,none⟩:Addr).add j)=some u:=by
 intro j u a
 match j,a with
 |0,a=>simp at a;subst a;simpa [Addr.add]using b
 |1,a=>simp at a;subst a;simpa [Addr.add]using h1
theorem aa6(s:ByteArray)(w:World)(u:s.size<=2000):
  Calls prog 70 #[.string s] w fun e w'=>∃v,e=.returned v/\w'.ownsRow w.heap.size 185 2 v (Lx.lex s).length (qm (Lx.lex s))/\Below w.heap.size w w':=by
 obtain⟨E,D,n,p,m⟩:=fd Tryz.akE;have z:=Ml (s:=s) (i:=0) false (by omega);go_enter func70,ntmps70
 go_wp2_with (first|(go_at_call 108;refine(XO s 0 _ u (by omega)).mono ?_;rintro e w'⟨rfl,r⟩;obtain rfl:=r.symm))
 go_loopw [3,4] (fun v j wr=>∃(k:Nat)(l:List Lx.Tk),k<=s.size/\l.length<=k/\j=.int .i64 k/\wr.ownsRow w.heap.size 185 2 v l.length (qm l)/\Hid (l++yQ s k=Lx.lex s)/\Below w.heap.size w wr) (fun _ j _=>s.size - (intOf j).toNat)
 case atStart=>exact⟨_,[],z.2,by simp,rfl,eE _ _ _ _,rfl,cV _ _⟩
 case round=>
  obtain⟨k,l,G,F,rfl,c,B,f⟩:=hrel
  by_cases hlt:k<s.size
  ·have d:=ags hlt
   have x:Hid _:=d;clear d;have o:=QK hlt;have t:=Ml (s:=s) (i:=oG s k) false o.2;have A:=f.size
   go_wp2_with (first
    | (go_at_call 109;refine(afB s k _ u hlt).mono ?_;rintro e w'⟨rfl,r⟩;obtain rfl:=r.symm)
    | (go_at_call 108;refine(XO s _ _ u o.2).mono ?_;rintro e w'⟨rfl,r⟩;obtain rfl:=r.symm)
    | (at_builtin;refine wpList_append_own _ rfl _ _ 177 rfl w.heap.size 185 E _ 2 24 underlying177 D n p m rfl (by decide) u3 _ _ rfl (c.alloc _) ⟨_,0,none⟩ 1 1 [.string (s.extract k (oG s k)),.int .i64 k] rfl rfl (aa5 (by simp) (by simp)) (by simp[Value.oneCell']) (by unfold maxLen;omega) (by omega) (by simp;omega) ?_;intro C w1 b a _))
   have g:=(f.alloc A (.cells #[.string (s.extract k (oG s k)),.int .i64 k] 185)).grown a (by simp;omega) (fun q y=>(c.lt q y).1);refine⟨⟨iT s (oG s k) false,l++[(s.extract k (oG s k),k)],t.2,by simp;omega,rfl,?_,?_,g⟩,by simp[intOf];omega⟩
   ·rw[Xa];simpa [qm]using b
   ·show _=_
    rw[<-B.out,x.out];simp[sW]
  ·have A:=f.size
   have d:=agr (s:=s) (i:=k) (by omega);have x:Hid _:=d;clear d
   go_wp2_with (first
    | (at_builtin;refine wpList_append_own _ rfl _ _ 177 rfl w.heap.size 185 E _ 2 24 underlying177 D n p m rfl (by decide) u3 _ _ rfl (c.alloc _) ⟨_,0,none⟩ 1 1 [.string ⟨#[]⟩,.int .i64 k] rfl rfl (aa5 (by simp) (by simp)) (by simp[Value.oneCell']) (by unfold maxLen;omega) (by omega) (by simp;omega) ?_;intro C w1 b a _))
   have g:=(f.alloc A (.cells #[.string ⟨#[]⟩,.int .i64 k] 185)).grown a (by simp;omega) (fun q y=>(c.lt q y).1);go_ret;refine⟨C,rfl,?_,g⟩;rw[<-B.out,x.out,Xa];simpa [qm]using b
end Go.Proofs.YtagkodkijkpemaaGreatDoor
namespace Go.Proofs.YtagkodkijkpemaaGreatDoor
namespace Lx
end Lx
open Lx Go.Proofs.Tryz
open Go Go.RowKit
namespace Lx
def aT:ByteArray:=⟨#[]⟩
def WF:List Tk->Prop
 | []=>False
 | [t]=>t.1=aT
 |t::u::r=>t.1≠aT/\WF (u::r)
def hd(ts:List Tk):ByteArray:=(ts.headD (aT,0)).1
def pl(ts:List Tk):Nat:=(ts.headD (aT,0)).2
theorem WF.ne{ts:List Tk}(h:WF ts):0<ts.length:=by
 cases ts with
 |nil=>exact h.elim
 |cons t r=>simp
theorem WF.tail{ts:List Tk}(h:WF ts)(a:hd ts≠aT):WF ts.tail:=by
 match ts,h with
 | [],h=>exact h.elim
 | [t],h=>exact absurd h a
 |t::u::r,h=>exact h.2
theorem WF.sS{ts:List Tk}(h:WF ts):ts.tail.length+1=ts.length:=by
 have:=h.ne;simp;omega
theorem aaj(s:ByteArray):∀(f i:Nat),s.size-i<=f->WF (mE s f i)
 |0,i,_=>rfl
 |f+1,i,hf=>by
  simp only[mE]
  by_cases h:i<s.size
  ·have c:=QK h
   have b:=Mq h;have ih:=aaj s f (sW s i) (by omega);rw[de h];have a:s.extract i (oG s i)≠aT:=by
    intro e;have:=eS ByteArray.size e;simp[aT,ByteArray.size_extract]at this;have d:(ByteArray.size ⟨#[]⟩)=0:=rfl;omega
   cases hl:mE s f (sW s i) with
   |nil=>rw[hl]at ih;exact ih.elim
   |cons u r=>rw[hl]at ih;exact⟨a,ih⟩
  ·rw[dk h];rfl
theorem lex_wf(s:ByteArray):WF (lex s):=aaj s _ _ (io _)
def FL(p:Int->Bool)(b:ByteArray):Bool:=b.data.toList.all fun c=>p (c.toNat:Int) || digit (c.toNat:Int)
def isWord(p:Int->Bool)(b:ByteArray):Bool:=decide (0<b.size) && decide (b.size<=12) && p (iy b 0) && FL p b
def isName(b:ByteArray):Bool:=isWord small b
def isToken(b:ByteArray):Bool:=isWord capital b
structure It where
 kind:Nat
 name:ByteArray
 mark:Nat
 alts:List (List It×ByteArray×Nat)
 place:Nat
abbrev Alt:=List It×ByteArray×Nat
structure Rl where
 name:ByteArray
 alts:List Alt
 place:Nat
structure Lv where
 kind:Nat
 tokens:List Tk
structure Gr where
 levels:List Lv
 rules:List Rl
abbrev aR(α:Type):=Except (Nat×Nat) (α×List Tk)
def mF:ByteArray:=⟨#[40]⟩
def BH:ByteArray:=⟨#[41]⟩
def acS:ByteArray:=⟨#[42]⟩
def acT:ByteArray:=⟨#[43]⟩
def ado:ByteArray:=⟨#[63]⟩
def BP:ByteArray:=⟨#[124]⟩
def mG:ByteArray:=⟨#[59]⟩
def lZ:ByteArray:=⟨#[61]⟩
def jT:ByteArray:=⟨#[37,112,114,101,99]⟩
def NG:ByteArray:=⟨#[37,108,101,102,116]⟩
def Nz:ByteArray:=⟨#[37,114,105,103,104,116]⟩
def NH:ByteArray:=⟨#[37,110,111,110,101]⟩
def eG(k:ByteArray->Bool)(ts:List Tk):aR ByteArray:=if k (hd ts)=true then .ok (hd ts,ts.tail) else .error (2,pl ts)
def jy(b:ByteArray)(ts:List Tk):aR Unit:=if hd ts=b then .ok ((),ts.tail) else .error (2,pl ts)
def dJ(ts:List Tk):Nat×List Tk:=if hd ts=acS then (42,ts.tail) else if hd ts=acT then (43,ts.tail) else if hd ts=ado then (63,ts.tail) else (0,ts)
def rO(ts:List Tk):Bool:=decide (hd ts=mF) || isName (hd ts) || isToken (hd ts)
def iB(aF:List Tk->aR (List Alt))(ts:List Tk):aR It :=
 if hd ts=mF then
  match aF ts with
  |.error e=>.error e
  | .ok (alts,aG)=>.ok (⟨2,aT,(dJ aG).1,alts,pl ts⟩,(dJ aG).2)
 else if isName (hd ts)=true then .ok (⟨0,hd ts,(dJ ts.tail).1,[],pl ts⟩,(dJ ts.tail).2)
 else if isToken (hd ts)=true then .ok (⟨1,hd ts,(dJ ts.tail).1,[],pl ts⟩,(dJ ts.tail).2)
 else .error (2,pl ts)
def jr(aF:List Tk->aR (List Alt)):Nat->List Tk->List It->aR (List It)
 |0,ts,acc=>.ok (acc,ts)
 |f+1,ts,acc=>
  if rO ts=true then
   match iB aF ts with
   |.error e=>.error e
   | .ok (x,aG)=>jr aF f aG (acc++[x])
  else .ok (acc,ts)
def qz(top:Bool)(items:List It)(ts:List Tk):aR Alt :=
 if top=true/\hd ts=jT then
  match eG isToken ts.tail with
  |.error e=>.error e
  | .ok (b,aG)=>.ok ((items,b,pl ts.tail),aG)
 else .ok ((items,aT,0),ts)
def iH(aF:List Tk->aR (List Alt))(top:Bool)(ts:List Tk):aR Alt :=
 match jr aF ts.length ts [] with
 |.error e=>.error e
 | .ok (items,aG)=>qz top items aG
def lW(aF:List Tk->aR (List Alt))(top:Bool):Nat->List Tk->List Alt->aR (List Alt)
 |0,ts,acc=>.ok (acc,ts)
 |f+1,ts,acc=>
  if hd ts=BP then
   match iH aF top ts.tail with
   |.error e=>.error e
   | .ok (x,aG)=>lW aF top f aG (acc++[x])
  else .ok (acc,ts)
def qo(aF:List Tk->aR (List Alt))(top:Bool)(ts:List Tk):aR (List Alt) :=
 match iH aF top ts with
 |.error e=>.error e
 | .ok (x,aG)=>lW aF top aG.length aG [x]
def qw(alts:List Tk->aR (List Alt))(ts:List Tk):aR (List Alt) :=
 match alts ts.tail with
 |.error e=>.error e
 | .ok (l,aG)=>
  match jy BH aG with
  |.error e=>.error e
  | .ok (_,bY)=>.ok (l,bY)
def nu:Nat->List Tk->aR (List Alt)
 |0,ts=>qo (fun ts=>.error (3,pl ts)) false ts
 |d+1,ts=>qo (qw (nu d)) (d == 7) ts
def iF:Nat->List Tk->aR (List Alt)
 |0,ts=>.error (3,pl ts)
 |d+1,ts=>qw (nu d) ts
theorem ai5(d:Nat)(ts:List Tk):nu d ts=qo (iF d) (d == 8) ts:=by
 cases d with
 |zero=>rfl
 |succ d=>simp only[nu];congr 1;simp
theorem oC{k:ByteArray->Bool}{ts ts':List Tk}{b:ByteArray}(h:eG k ts=.ok (b,ts')):ts'=ts.tail/\b=hd ts/\k (hd ts)=true:=by
 unfold eG at h
 split at h
 ·rename_i a;simp only[jn,ip]at h;exact⟨h.2.symm,h.1.symm,a⟩
 ·cases h
theorem yH{b:ByteArray}{ts ts':List Tk}{u:Unit}(h:jy b ts=.ok (u,ts')):ts'=ts.tail/\hd ts=b:=by
 unfold jy at h
 split at h
 ·rename_i a;simp only[jn,ip]at h;exact⟨h.2.symm,a⟩
 ·cases h
theorem QY(ts:List Tk):(dJ ts).2.length<=ts.length:=by
 unfold dJ
 split
 ·simp
 ·split
  ·simp
  ·split <;> simp
theorem QZ{aF:List Tk->aR (List Alt)}(b:∀ts x ts',aF ts=.ok (x,ts')->ts'.length<=ts.tail.length){ts ts':List Tk}{x:It}(h:iB aF ts=.ok (x,ts')):ts'.length<=ts.tail.length:=by
 unfold iB at h
 split at h
 ·cases hr:aF ts with
  |error e=>rw[hr]at h;cases h
  |ok y=>
   obtain⟨l,a⟩:=y;rw[hr]at h;simp only[jn,ip]at h;have h1:=b _ _ _ hr;have h2:=QY a;rw[<-h.2];omega
 ·split at h
  ·simp only[jn,ip]at h
   rw[<-h.2];exact QY _
  ·split at h
   ·simp only[jn,ip]at h
    rw[<-h.2];exact QY _
   ·cases h
theorem Yr{aF:List Tk->aR (List Alt)}(a:∀ts x ts',aF ts=.ok (x,ts')->ts'.length<=ts.tail.length):∀(f:Nat)(ts:List Tk)(acc:List It)(x:List It)(ts':List Tk),jr aF f ts acc=.ok (x,ts')->ts'.length<=ts.length
 |0,ts,acc,x,ts',h=>by simp only[jr,jn,ip]at h;rw[h.2];exact io _
 |f+1,ts,acc,x,ts',h=>by
  simp only[jr]at h
  split at h
  ·cases hr:iB aF ts with
   |error e=>rw[hr]at h;cases h
   |ok y=>
    obtain⟨z,b⟩:=y;rw[hr]at h;have h1:=QZ a hr;have h2:=Yr a f b _ x ts' h;have h3:ts.tail.length<=ts.length:=by simp
    omega
  ·simp only[jn,ip]at h;rw[h.2];exact io _
theorem ahB{top:Bool}{a:List It}{ts ts':List Tk}{x:Alt}(h:qz top a ts=.ok (x,ts')):ts'.length<=ts.length:=by
 unfold qz at h
 split at h
 ·cases hr:eG isToken ts.tail with
  |error e=>rw[hr]at h;cases h
  |ok y=>
   obtain⟨b,c⟩:=y;rw[hr]at h;simp only[jn,ip]at h;have h1:=(oC hr).1;rw[<-h.2,h1];simp;omega
 ·simp only[jn,ip]at h
  rw[<-h.2];exact io _
theorem IK{aF:List Tk->aR (List Alt)}(a:∀ts x ts',aF ts=.ok (x,ts')->ts'.length<=ts.tail.length){top:Bool}{ts ts':List Tk}{x:Alt}(h:iH aF top ts=.ok (x,ts')):ts'.length<=ts.length:=by
 unfold iH at h;cases hr:jr aF ts.length ts [] with
 |error e=>rw[hr]at h;cases h
 |ok y=>
  obtain⟨l,b⟩:=y;rw[hr]at h;have h1:=Yr a _ _ _ _ _ hr;have h2:=ahB h;omega
theorem Zj{aF:List Tk->aR (List Alt)}(a:∀ts x ts',aF ts=.ok (x,ts')->ts'.length<=ts.tail.length){top:Bool}:∀(f:Nat)(ts:List Tk)(acc:List Alt)(x:List Alt)(ts':List Tk),lW aF top f ts acc=.ok (x,ts')->ts'.length<=ts.length
 |0,ts,acc,x,ts',h=>by simp only[lW,jn,ip]at h;rw[h.2];exact io _
 |f+1,ts,acc,x,ts',h=>by
  simp only[lW]at h
  split at h
  ·cases hr:iH aF top ts.tail with
   |error e=>rw[hr]at h;cases h
   |ok y=>
    obtain⟨z,b⟩:=y;rw[hr]at h;have h1:=IK a hr;have h2:=Zj a f b _ x ts' h;have h3:ts.tail.length<=ts.length:=by simp
    omega
  ·simp only[jn,ip]at h;rw[h.2];exact io _
theorem XP{aF:List Tk->aR (List Alt)}(a:∀ts x ts',aF ts=.ok (x,ts')->ts'.length<=ts.tail.length){top:Bool}{ts ts':List Tk}{x:List Alt}(h:qo aF top ts=.ok (x,ts')):ts'.length<=ts.length:=by
 unfold qo at h;cases hr:iH aF top ts with
 |error e=>rw[hr]at h;cases h
 |ok y=>
  obtain⟨l,b⟩:=y;rw[hr]at h;have h1:=IK a hr;have h2:=Zj a _ _ _ _ _ h;omega
theorem QL{r:List Tk->aR (List Alt)}(b:∀ts x ts',r ts=.ok (x,ts')->ts'.length<=ts.length)(ts:List Tk)(x:List Alt)(ts':List Tk)(h:qw r ts=.ok (x,ts')):ts'.length<=ts.tail.length:=by
 unfold qw at h;cases h1:r ts.tail with
 |error e=>rw[h1]at h;cases h
 |ok y=>
  obtain⟨l,a⟩:=y;rw[h1]at h;cases h2:jy BH a with
  |error e=>simp only[h2]at h;cases h
  |ok z=>
   obtain⟨u,c⟩:=z;simp only[h2,jn,ip]at h;have:=b _ _ _ h1;have h3:=(yH h2).1;rw[<-h.2,h3];have h4:a.tail.length<=a.length:=by simp
   omega
theorem Ms:∀(d:Nat)(ts:List Tk)(x:List Alt)(ts':List Tk),nu d ts=.ok (x,ts')->ts'.length<=ts.length
 |0,ts,x,ts',h=>XP (aF:=fun ts=>.error (3,pl ts)) (fun _ _ _ h=>by cases h) h
 |d+1,ts,x,ts',h=>XP (QL (Ms d)) h
theorem Qw:∀(d:Nat)(ts:List Tk)(x:List Alt)(ts':List Tk),iF d ts=.ok (x,ts')->ts'.length<=ts.tail.length
 |0,ts,x,ts',h=>by cases h
 |d+1,ts,x,ts',h=>QL (Ms d) _ _ _ h
def iC(ts:List Tk):aR Rl :=
 match eG isName ts with
 |.error e=>.error e
 | .ok (n,aG)=>
  match jy lZ aG with
  |.error e=>.error e
  | .ok (_,bY)=>
   match nu 8 bY with
   |.error e=>.error e
   | .ok (l,lM)=>
    match jy mG lM with
    |.error e=>.error e
    | .ok (_,nU)=>.ok (⟨n,l,pl ts⟩,nU)
def ja(b:ByteArray):Int:=if b=NG then 0 else if b=Nz then 1 else if b=NH then 2 else -1
def jF:Nat->List Tk->List Tk->aR (List Tk)
 |0,ts,acc=>.ok (acc,ts)
 |f+1,ts,acc=>
  if hd ts=mG then .ok (acc,ts.tail)
  else
   match eG isToken ts with
   |.error e=>.error e
   | .ok (b,aG)=>jF f aG (acc++[(b,pl ts)])
def lu(ts:List Tk):aR Lv :=
 match eG isToken ts.tail with
 |.error e=>.error e
 | .ok (b,aG)=>
  match jF aG.length aG [(b,pl ts.tail)] with
  |.error e=>.error e
  | .ok (l,bY)=>.ok (⟨(ja (hd ts)).toNat,l⟩,bY)
def kZ:Nat->List Tk->List Lv->aR (List Lv)
 |0,ts,acc=>.ok (acc,ts)
 |f+1,ts,acc=>
  if 0<=ja (hd ts) then
   match lu ts with
   |.error e=>.error e
   | .ok (x,aG)=>kZ f aG (acc++[x])
  else .ok (acc,ts)
def jv:Nat->List Tk->List Rl->aR (List Rl)
 |0,ts,acc=>.ok (acc,ts)
 |f+1,ts,acc=>
  if hd ts=aT then .ok (acc,ts)
  else
   match iC ts with
   |.error e=>.error e
   | .ok (x,aG)=>jv f aG (acc++[x])
def jq(ts:List Tk):aR Gr :=
 match kZ ts.length ts [] with
 |.error e=>.error e
 | .ok (lv,aG)=>
  match iC aG with
  |.error e=>.error e
  | .ok (x,bY)=>
   match jv bY.length bY [x] with
   |.error e=>.error e
   | .ok (l,lM)=>.ok (⟨lv,l⟩,lM)
def parse(s:ByteArray):Except (Nat×Nat) Gr :=
 if 2000<s.size then .error (1,0)
 else
  match jq (lex s) with
  |.error e=>.error e
  | .ok (g,_)=>.ok g
end Lx
end Go.Proofs.YtagkodkijkpemaaGreatDoor
namespace Go.Proofs.YtagkodkijkpemaaGreatDoor
namespace Lx
end Lx
open Lx Go.Proofs.Tryz
open Go.RowKit
open Lx (Tk)
theorem ahC (p:Addr) (a:Addr) (len b:Nat) (t:ByteArray) (w:World) (c:w.cell? ⟨p.block,p.off,none⟩=some (.slice (some ⟨a.block,a.off,none⟩) len b)) (d:0<len)
  (f:w.cell? ⟨a.block,a.off,none⟩=some (.string t)) :
  Calls prog 111 #[.pointer (some ⟨p.block,p.off,none⟩)] w fun e w'=>e=.returned (.string t)/\w'=w:=by
 go_enter func111,ntmps111
 go_wp2
 go_ret;exact⟨rfl,rfl⟩
theorem ai6 (p:Addr) (a:Addr) (len b:Nat) (w:World) (d:w.cell? ⟨p.block,p.off,none⟩=some (.slice (some ⟨a.block,a.off,none⟩) len b)) (f:1<len) (i:len<=b)
  (g:w.frozen? ⟨p.block,p.off,none⟩=false) :
  Calls prog 150 #[.pointer (some ⟨p.block,p.off,none⟩)] w fun e w'=>e=.returned (.tuple #[])/\w'=w.setCell ⟨p.block,p.off,none⟩ (.slice (some ⟨a.block,a.off+2,none⟩) (len-1) (b-1)):=by
 have c:¬b=1:=by omega
 go_enter func150,ntmps150
 go_wp2
 go_end0
 exact⟨rfl,rfl⟩
def thrown(n a:Nat):List PanicEntry:=[{ v:=.iface 175 (.agg #[.int .i64 (n:Int),.int .i64 (a:Int)]),recovered:=false }]
theorem ahD (p:Addr) (a:Addr) (len b:Nat) (t n:Nat) (w:World) (c:w.cell? ⟨p.block,p.off,none⟩=some (.slice (some ⟨a.block,a.off,none⟩) len b)) (d:0<len)
  (f:w.cell? ⟨a.block,a.off+1,none⟩=some (.int .i64 t)) :
  Calls prog 175 #[.pointer (some ⟨p.block,p.off,none⟩),.int .i64 n] w fun e w'=>e=.panicked (thrown n t)/\w'=w:=by
 go_enter func175,ntmps175
 go_wp2
 exact⟨rfl,rfl,rfl⟩
structure Rd(sb cap:Nat)(L:List Tk)(p:Nat)(w:World)(ts:List Tk)(o:Int):Prop where
 wf:Lx.WF ts
 suf:∃pre,L=pre++ts
 JC:L.length<=cap
 sl:w.cell? ⟨p,0,none⟩=some (.slice (some ⟨sb,(L.length-ts.length)*2,none⟩) ts.length (cap - (L.length-ts.length)))
 op:w.cell? ⟨p,1,none⟩=some (.int .i64 o)
 OL:w.frozen? ⟨p,0,none⟩=false
 J6:w.frozen? ⟨p,1,none⟩=false
 row:∀j t,L[j]?=some t->w.cell? ⟨sb,j*2,none⟩=some (.string t.1)/\w.cell? ⟨sb,j*2+1,none⟩=some (.int .i64 (t.2:Int))
 ne:p≠sb
 sz:∀t,t∈L->t.1.size<=2000
 lb:L.length<=2001
section
variable {sb cap:Nat} {L:List Tk} {p:Nat} {w w':World} {ts:List Tk} {o:Int}
theorem Rd.at(h:Rd sb cap L p w ts o):w.cell? ⟨sb,(L.length-ts.length)*2,none⟩=some (.string (Lx.hd ts))/\w.cell? ⟨sb,(L.length-ts.length)*2+1,none⟩=some (.int .i64 (Lx.pl ts:Int)):=by
 obtain⟨a,b⟩:=h.suf;have c:=h.wf.ne;cases ts with
 |nil=>simp at c
 |cons t r=>
  have e:L.length - (t::r).length=a.length:=by rw[b];simp
  rw[e];exact h.row a.length t (by rw[b];simp)
theorem Rd.hsz(h:Rd sb cap L p w ts o):(Lx.hd ts).size<=2000:=by
 obtain⟨a,c⟩:=h.suf;have b:=h.wf.ne;cases ts with
 |nil=>simp at b
 |cons t r=>exact h.sz t (by rw[c];simp)
theorem Rd.len(h:Rd sb cap L p w ts o):ts.length<=L.length:=by
 obtain⟨a,b⟩:=h.suf;rw[b];simp
theorem Rd.step(h:Rd sb cap L p w ts o)(m:Lx.hd ts≠aT):
  Rd sb cap L p (w.setCell ⟨p,0,none⟩ (.slice (some ⟨sb,(L.length-ts.length)*2+2,none⟩) (ts.length-1) (cap - (L.length-ts.length) - 1))) ts.tail o:=by
 obtain⟨a,l⟩:=h.suf;have s:=h.wf.sS;have c:=h.len;have b:=h.ne;refine⟨h.wf.tail m,?_,h.JC,?_,?_,?_,?_,?_,h.ne,h.sz,h.lb⟩
 ·cases ts with
  |nil=>exact absurd h.wf.ne (by simp)
  |cons t r=>exact⟨a++[t],by rw[l];simp⟩
 ·have i:(L.length-ts.tail.length)*2=(L.length-ts.length)*2+2:=by omega
  have n:ts.tail.length=ts.length-1:=by omega
  have q:cap - (L.length-ts.tail.length)=cap - (L.length-ts.length) - 1:=by omega
  rw[i,q,n];exact World.cell?_setCell_same _ _ _ h.sl
 ·rw[nn]
  ·exact h.op
  ·simp
 ·simpa using h.OL
 ·simpa using h.J6
 ·intro j t k
  have d:∀f g,(⟨p,f,none⟩:Addr)≠⟨sb,g,none⟩:=fun f g e=>b (Addr.mk.inj e).1
  rw[nn _ _ _ _ (d _ _),nn _ _ _ _ (d _ _)];exact h.row j t k
theorem Rd.reopen(h:Rd sb cap L p w ts o)(a:Int):Rd sb cap L p (w.setCell ⟨p,1,none⟩ (.int .i64 a)) ts a:=by
 have b:=h.ne;refine⟨h.wf,h.suf,h.JC,?_,World.cell?_setCell_same _ _ _ h.op,?_,?_,?_,h.ne,h.sz,h.lb⟩
 ·rw[nn]
  ·exact h.sl
  ·simp
 ·simpa using h.OL
 ·simpa using h.J6
 ·intro j t f
  have d:∀a c,(⟨p,a,none⟩:Addr)≠⟨sb,c,none⟩:=fun a c e=>b (Addr.mk.inj e).1
  rw[nn _ _ _ _ (d _ _),nn _ _ _ _ (d _ _)];exact h.row j t f
theorem Rd.lt(h:Rd sb cap L p w ts o):p<w.heap.size:=od _ _ h.sl
theorem Rd.Ag(h:Rd sb cap L p w ts o):sb<w.heap.size:=od _ _ h.at.1
theorem Rd.grown(h:Rd sb cap L p w ts o){r:Option Nat}(c:w.grownBy w' r)(f:some p≠r)(k:some sb≠r):Rd sb cap L p w' ts o:=by
 have a:w'.heap[p]?=w.heap[p]?:=c.block p h.lt f;have i:w'.heap[sb]?=w.heap[sb]?:=c.block sb h.Ag k;refine⟨h.wf,h.suf,h.JC,?_,?_,?_,?_,?_,h.ne,h.sz,h.lb⟩
 ·rw[cJ (w:=w) (by exact a)];exact h.sl
 ·rw[cJ (w:=w) (by exact a)];exact h.op
 ·rw[World.frozen?_of_block (w:=w) (by exact a)];exact h.OL
 ·rw[World.frozen?_of_block (w:=w) (by exact a)];exact h.J6
 ·intro j t g
  have d:∀b,w'.cell? ⟨sb,b,none⟩=w.cell? ⟨sb,b,none⟩:=fun b=>cJ (w:=w) i
  rw[d,d];exact h.row j t g
theorem Iu(w:World)(r:Option Nat):w.grownBy w r:=⟨rfl,rfl,rfl,io _,fun _ _ _=>rfl⟩
theorem aL{a b c:World}{r:Option Nat}(h:a.grownBy b r)(k:b.grownBy c r):a.grownBy c r :=
 ⟨k.os.trans h.os,k.tape.trans h.tape,k.output.trans h.output,dg h.size k.size,fun i f d=>(k.block i (dd f h.size) d).trans (h.block i f d)⟩
theorem iM(w:World)(p:Nat)(o:Nat)(v:Value):w.grownBy (w.setCell ⟨p,o,none⟩ v) (some p) :=
 ⟨rfl,rfl,rfl,by simp[World.setCell],fun i _ a=>Below.heap_setCell _ _ _ _ (fun e=>a (by rw[e]))⟩
end
theorem oF{b a:Nat}{L:List Tk}{p:Nat}{w:World}{ts:List Tk}{o:Int}(h:Rd b a L p w ts o):
  Calls prog 111 #[.pointer (some ⟨p,0,none⟩)] w fun e w'=>e=.returned (.string (Lx.hd ts))/\w'=w :=
 ahC ⟨p,0,none⟩ ⟨b,(L.length-ts.length)*2,none⟩ _ _ _ w h.sl h.wf.ne h.at.1
theorem MH{b a:Nat}{L:List Tk}{p:Nat}{w:World}{ts:List Tk}{o:Int}(h:Rd b a L p w ts o)(n:Nat):
  Calls prog 175 #[.pointer (some ⟨p,0,none⟩),.int .i64 n] w fun e w'=>e=.panicked (thrown n (Lx.pl ts))/\w'=w :=
 ahD ⟨p,0,none⟩ ⟨b,(L.length-ts.length)*2,none⟩ _ _ _ _ w h.sl h.wf.ne h.at.2
theorem alU{ts:List Tk}(h:Lx.WF ts)(a:Lx.hd ts≠aT):1<ts.length:=by
 have:=(h.tail a).ne;have:=h.sS;omega
theorem Dm{b a:Nat}{L:List Tk}{p:Nat}{w:World}{ts:List Tk}{o:Int}(h:Rd b a L p w ts o)(d:Lx.hd ts≠aT):
  Calls prog 150 #[.pointer (some ⟨p,0,none⟩)] w fun e w'=>e=.returned (.tuple #[])/\w.grownBy w' (some p)/\Rd b a L p w' ts.tail o:=by
 have c:=h.len;have f:=h.JC;refine(ai6 ⟨p,0,none⟩ ⟨b,(L.length-ts.length)*2,none⟩ _ _ w h.sl (alU h.wf d) (by omega) h.OL).mono ?_;rintro e w'⟨rfl,rfl⟩;exact⟨rfl,iM _ _ _ _,h.step d⟩
theorem akF(a b:ByteArray):(a.toList == b.toList)=decide (a=b):=by
 rw[ByteArray.toList_eq,ByteArray.toList_eq]
 by_cases h:a=b
 ·subst h;simp
 ·have:a.data.toList≠b.data.toList:=fun e=>h (ByteArray.ext (Array.toList_inj.1 e))
  rw[eV h];exact iS.2 this
theorem wN{d a:Nat}{L:List Tk}{p:Nat}{w:World}{ts:List Tk}{o:Int}(h:Rd d a L p w ts o)(b:ByteArray):
  Calls prog 114 #[.pointer (some ⟨p,0,none⟩),.string b] w fun e w'=>e=.returned (.bool (decide (Lx.hd ts=b)))/\w'=w:=by
 go_enter func114,ntmps114
 go_wp2_with (go_at_call 111;refine(oF h).mono ?_;rintro e w'⟨rfl,c⟩;obtain rfl:=c.symm)
 go_ret;exact⟨iN (akF _ _),rfl⟩
theorem Iz{f a:Nat}{L:List Tk}{p:Nat}{w:World}{ts:List Tk}{o:Int}(h:Rd f a L p w ts o)(b:ByteArray)(hd:¬Lx.hd ts=b):
  Calls prog 152 #[.pointer (some ⟨p,0,none⟩),.string b] w fun e w'=>e=.returned (.bool false)/\w'=w:=by
 have d:Hid _:=hd;clear hd;go_enter func152,ntmps152
 go_wp2_with (first
  | (go_at_call 114;refine(wN h b).mono ?_;rintro e w'⟨rfl,c⟩;obtain rfl:=c.symm;rw[eV d.out]))
 go_ret;exact⟨rfl,rfl⟩
theorem Md{d a:Nat}{L:List Tk}{p:Nat}{w:World}{ts:List Tk}{o:Int}(h:Rd d a L p w ts o)(b:ByteArray)(j:b≠aT)(hd:Lx.hd ts=b):
  Calls prog 152 #[.pointer (some ⟨p,0,none⟩),.string b] w fun e w'=>e=.returned (.bool true)/\w.grownBy w' (some p)/\Rd d a L p w' ts.tail o:=by
 have c:Hid (Lx.hd ts=b):=hd;clear hd;go_enter func152,ntmps152
 go_wp2_with (first
  | (go_at_call 114;refine(wN h b).mono ?_;rintro e w'⟨rfl,i⟩;obtain rfl:=i.symm;rw[fh c.out])
  | (go_at_call 150;refine(Dm h (by rw[c.out];exact j)).mono ?_;rintro e w'⟨rfl,f,g⟩))
 go_ret;exact⟨rfl,f,g⟩
def Ends(sb cap:Nat)(L:List Tk)(p:Nat)(o:Int){α:Type}(V:World->Value->α->Prop)(w:World)(r:aR α)(e:Ending)(w':World):Prop :=
 w.grownBy w' (some p) /\
  match r with
  | .ok (x,ts')=>∃v,e=.returned v/\Rd sb cap L p w' ts' o/\V w' v x
  | .error (n,a)=>e=.panicked (thrown n a)
section
variable {sb cap:Nat} {L:List Tk} {p:Nat} {o:Int} {α:Type} {V:World -> Value -> α -> Prop} {w w':World} {r:aR α} {e:Ending}
theorem Ends.yes{x:α}{ts':List Tk}{v:Value}(b:r=.ok (x,ts'))(a:w.grownBy w' (some p))(h1:Rd sb cap L p w' ts' o)(h2:V w' v x):Ends sb cap L p o V w r (.returned v) w':=by
 subst b;exact⟨a,v,rfl,h1,h2⟩
theorem Ends.no{n a:Nat}(c:r=.error (n,a))(b:w.grownBy w' (some p)):Ends sb cap L p o V w r (.panicked (thrown n a)) w':=by
 subst c;exact⟨b,rfl⟩
theorem Ends.ok{x:α}{ts':List Tk}(h:Ends sb cap L p o V w r e w')(c:r=.ok (x,ts')):∃v,e=.returned v/\w.grownBy w' (some p)/\Rd sb cap L p w' ts' o/\V w' v x:=by
 subst c;obtain⟨a,v,b,h1,h2⟩:=h;exact⟨v,b,a,h1,h2⟩
theorem Ends.err{n a:Nat}(h:Ends sb cap L p o V w r e w')(b:r=.error (n,a)):e=.panicked (thrown n a)/\w.grownBy w' (some p):=by
 subst b;exact⟨h.2,h.1⟩
end
def amv(_:World)(v:Value)(_:Unit):Prop:=v=.tuple #[]
def NI(_:World)(v:Value)(b:ByteArray):Prop:=v=.string b
theorem L6{j c:Nat}{L:List Tk}{p:Nat}{w:World}{ts:List Tk}{o:Int}(h:Rd j c L p w ts o)(b:ByteArray)(m:b≠aT):
  Calls prog 154 #[.pointer (some ⟨p,0,none⟩),.string b] w (Ends j c L p o amv w (jy b ts)):=by
 by_cases hd:Lx.hd ts=b
 ·have a:jy b ts=.ok ((),ts.tail):=de hd
  have g:Hid (Lx.hd ts=b):=hd;have d:Hid _:=a;clear hd a;go_enter func154,ntmps154
  go_wp2_with (first
   | (go_at_call 152;refine(Md h b m g.out).mono ?_;rintro e i⟨rfl,k,l⟩))
  go_end0
  exact Ends.yes d.out k l rfl
 ·have a:jy b ts=.error (2,Lx.pl ts):=dk hd
  have g:Hid (¬Lx.hd ts=b):=hd;have d:Hid _:=a;clear hd a;go_enter func154,ntmps154
  go_wp2_with (first
   | (go_at_call 152;refine(Iz h b g.out).mono ?_;rintro e i⟨rfl,f⟩;obtain rfl:=f.symm)
   | (go_at_call 175;refine(MH h 2).mono ?_;rintro e i⟨rfl,f⟩;obtain rfl:=f.symm))
  exact⟨rfl,Ends.no d.out (Iu _ _)⟩
end Go.Proofs.YtagkodkijkpemaaGreatDoor
