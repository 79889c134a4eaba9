import Derived.Test.YtagkodkijkpemaaGreatDoorQA00
set_option maxHeartbeats 8000000
set_option maxRecDepth 1000000
namespace Go.Proofs.YtagkodkijkpemaaGreatDoor
namespace Lx
end Lx
open Lx Go.Proofs.Tryz
open Go.RowKit Tr
end Go.Proofs.YtagkodkijkpemaaGreatDoor
namespace Go.Proofs.YtagkodkijkpemaaGreatDoor
namespace Lx
end Lx
open Lx Go.Proofs.Tryz
open Go Go.RowKit
namespace Lx
def gZ(s:ByteArray)(i:Nat):Int:=((s.data.getD i 0).toNat:Int)
theorem oM(s:ByteArray)(i:Nat)(h:i<s.size):gZ s i=(s[i].toNat:Int):=by
 unfold gZ;have a:i<s.data.size:=h;rw[mT,kk a];rfl
theorem Dv(s:ByteArray)(i:Nat):0<=gZ s i/\gZ s i<=255:=by
 unfold gZ;have:=(s.data.getD i 0).toNat_lt;omega
def BN(s:ByteArray):Nat->Nat->Bool->Nat
 |0,i,_=>i
 |f+1,i,r=>
  if gZ s i=10 then BN s f (i+1) false
  else if gZ s i=35 then BN s f (i+1) true
  else if r=false/\gZ s i≠32/\gZ s i≠9 then i
  else BN s f (i+1) r
def iT(s:ByteArray)(i:Nat)(r:Bool):Nat:=BN s (s.size-i) i r
theorem agl{s:ByteArray}{i:Nat}(r:Bool)(h:s.size<=i):iT s i r=i:=by
 unfold iT;rw[show s.size-i=0 by omega];rfl
theorem Iu{s:ByteArray}{i:Nat}(r:Bool)(h:i<s.size):iT s i r =
  if gZ s i=10 then iT s (i+1) false
  else if gZ s i=35 then iT s (i+1) true
  else if r=false/\gZ s i≠32/\gZ s i≠9 then i
  else iT s (i+1) r:=by
 unfold iT;rw[show s.size-i=(s.size - (i+1))+1 by omega];rfl
theorem amK{s:ByteArray}{k:Nat}{b:Bool}{r:Nat}(h:k<s.size)(a:iT s k b=r)(c:(s[k].toNat:Int)=10):iT s (k+1) false=r:=by
 rw[Iu b h,oM s k h,dj c]at a;exact a
theorem ajG{s:ByteArray}{k:Nat}{b:Bool}{r:Nat}(h:k<s.size)(a:iT s k b=r)(c:(s[k].toNat:Int)=35):iT s (k+1) true=r:=by
 rw[Iu b h,oM s k h,dt (by omega),dj c]at a;exact a
theorem aln{s:ByteArray}{k:Nat}{r:Nat}(h:k<s.size)(a:iT s k true=r)(b:(s[k].toNat:Int)≠10)(hd:(s[k].toNat:Int)≠35):iT s (k+1) true=r:=by
 rw[Iu true h,oM s k h,dt b,dt hd,dt (by simp)]at a;exact a
theorem aip{s:ByteArray}{k:Nat}{r:Nat}(h:k<s.size)(a:iT s k false=r)(hd:(s[k].toNat:Int)=32\/(s[k].toNat:Int)=9):iT s (k+1) false=r:=by
 rw[Iu false h,oM s k h,dt (by omega),dt (by omega),dt (by omega)]at a;exact a
theorem ajH{s:ByteArray}{k:Nat}{r:Nat}(h:k<s.size)(a:iT s k false=r)(h1:(s[k].toNat:Int)≠10)(h2:(s[k].toNat:Int)≠35)(h3:(s[k].toNat:Int)≠32)(h4:(s[k].toNat:Int)≠9):k=r:=by
 rw[Iu false h,oM s k h,dt h1,dt h2,dj ⟨rfl,h3,h4⟩]at a;exact a
theorem MP(s:ByteArray):∀(f i:Nat)(r:Bool),i<=BN s f i r/\BN s f i r<=i+f
 |0,i,r=>by simp[BN]
 |f+1,i,r=>by
  have h1:=MP s f (i+1) false;have h2:=MP s f (i+1) true;have h3:=MP s f (i+1) r;unfold BN
  split
  ·omega
  ·split
   ·omega
   ·split <;> omega
theorem MB{s:ByteArray}{i:Nat}(r:Bool)(h:i<=s.size):i<=iT s i r/\iT s i r<=s.size:=by
 have:=MP s (s.size-i) i r;unfold iT;omega
def small(c:Int):Bool:=decide (97<=c/\c<=122)
def capital(c:Int):Bool:=decide (65<=c/\c<=90)
def digit(c:Int):Bool:=decide (48<=c/\c<=57)
def FY(c:Int):Bool:=small c || capital c || digit c
def FW(s:ByteArray):Nat->Nat->Nat
 |0,i=>i
 |f+1,i=>if FY (gZ s i)=true then FW s f (i+1) else i
def wT(s:ByteArray)(i:Nat):Nat:=FW s (s.size-i) i
theorem afT{s:ByteArray}{i:Nat}(h:s.size<=i):wT s i=i:=by
 unfold wT;rw[show s.size-i=0 by omega];rfl
theorem afU{s:ByteArray}{i:Nat}(h:i<s.size):wT s i=if FY (gZ s i)=true then wT s (i+1) else i:=by
 unfold wT;rw[show s.size-i=(s.size - (i+1))+1 by omega];rfl
theorem ZT(s:ByteArray):∀(f i:Nat),i<=FW s f i/\FW s f i<=i+f
 |0,i=>by simp[FW]
 |f+1,i=>by
  have h1:=ZT s f (i+1);unfold FW
  split <;> omega
theorem ahb{s:ByteArray}{i:Nat}(h:i<=s.size):i<=wT s i/\wT s i<=s.size:=by
 have:=ZT s (s.size-i) i;unfold wT;omega
def oU(s:ByteArray)(i:Nat):Nat:=max (wT s (if gZ s i=37 then i+1 else i)) (i+1)
theorem Q0{s:ByteArray}{i:Nat}(h:i<s.size):i<oU s i/\oU s i<=s.size:=by
 have h1:=ahb (s:=s) (i:=if gZ s i=37 then i+1 else i) (by split <;> omega);unfold oU;omega
end Lx
end Go.Proofs.YtagkodkijkpemaaGreatDoor
namespace Go.Proofs.YtagkodkijkpemaaGreatDoor
namespace Lx
end Lx
open Lx Go.Proofs.Tryz
open Go Go.RowKit
namespace Lx
abbrev Tk:=ByteArray×Nat
def tq(s:ByteArray)(i:Nat):Nat:=iT s (oU s i) false
def mK(s:ByteArray):Nat->Nat->List Tk
 |0,i=>[((⟨#[]⟩:ByteArray),i)]
 |f+1,i=>if i<s.size then (s.extract i (oU s i),i)::mK s f (tq s i) else [((⟨#[]⟩:ByteArray),i)]
def yV(s:ByteArray)(i:Nat):List Tk:=mK s (s.size-i) i
def lex(s:ByteArray):List Tk:=yV s (iT s 0 false)
theorem MC{s:ByteArray}{i:Nat}(h:i<s.size):i<tq s i/\tq s i<=s.size:=by
 have h1:=Q0 h;have h2:=MB (s:=s) (i:=oU s i) false h1.2;unfold tq;omega
theorem Y0(s:ByteArray):∀(f g i:Nat),s.size-i<=f->s.size-i<=g->mK s f i=mK s g i
 |0,0,i,_,_=>rfl
 |0,g+1,i,hf,_=>by simp only[mK];rw[dt (by omega)]
 |f+1,0,i,_,hg=>by simp only[mK];rw[dt (by omega)]
 |f+1,g+1,i,hf,hg=>by
  simp only[mK]
  by_cases h:i<s.size
  ·have:=MC h
   rw[dj h,dj h,Y0 s f g (tq s i) (by omega) (by omega)]
  ·rw[dt h,dt h]
theorem ahc{s:ByteArray}{i:Nat}(h:s.size<=i):yV s i=[((⟨#[]⟩:ByteArray),i)]:=by
 unfold yV;rw[show s.size-i=0 by omega];rfl
theorem ahd{s:ByteArray}{i:Nat}(h:i<s.size):yV s i=(s.extract i (oU s i),i)::yV s (tq s i):=by
 have a:=MC h;unfold yV;rw[show s.size-i=(s.size-i-1)+1 by omega];simp only[mK];rw[dj h,Y0 s _ (s.size-tq s i) (tq s i) (by omega) (by omega)]
theorem ZU(s:ByteArray):∀(f i:Nat),(mK s f i).length<=f+1
 |0,i=>by simp[mK]
 |f+1,i=>by
  have:=ZU s f (tq s i);simp only[mK]
  split <;> simp <;> omega
theorem ME(s:ByteArray)(i:Nat):(yV s i).length<=s.size+1:=by
 have:=ZU s (s.size-i) i;unfold yV;omega
def qw(l:List Tk):List Value:=l.flatMap fun t=>[.string t.1,.int .i64 (t.2:Int)]
theorem XF(a b:List Tk):qw (a++b)=qw a++qw b:=by simp[qw]
theorem QN(l:List Tk)(k:Nat)(t:Tk)(h:l[k]?=some t):(qw l)[k*2]?=some (.string t.1)/\(qw l)[k*2+1]?=some (.int .i64 (t.2:Int)):=by
 induction l generalizing k with
 |nil=>simp at h
 |cons u l ih=>
  cases k with
  |zero=>simp at h;subst h;simp[qw]
  |succ k=>
   have h1:=ih k (by simpa using h);have e:qw (u::l)=[.string u.1,.int .i64 (u.2:Int)]++qw l:=by simp[qw]
   rw[e,eN (by simp;omega),eN (by simp;omega)];simp only[List.length_cons,List.length_nil];rw[show (k+1)*2 - (0+1+1)=k*2 by omega,show (k+1)*2+1 - (0+1+1)=k*2+1 by omega];exact h1
end Lx
end Go.Proofs.YtagkodkijkpemaaGreatDoor
namespace Go.Proofs.YtagkodkijkpemaaGreatDoor
namespace Lx
end Lx
open Lx Go.Proofs.Tryz
open Go.RowKit Tr
theorem iY{a b:Bool}(h:a=b):Ending.returned (.bool a)=.returned (.bool b):=by rw[h]
theorem DC{k:IntKind}{a b:Int}(h:a=b):Ending.returned (.int k a)=.returned (.int k b):=by rw[h]
theorem Dn(c:Int)(w:World)(a:0<=c)(h1:c<=255):
  Calls prog 116 #[.int .u8 c] w fun e w'=>e=.returned (.bool (Lx.small c))/\w'=w:=by
 by_cases h:97<=c
 ·by_cases h':c<=122
  all_goals
   go_enter func116,ntmps116
   go_wp2
   go_ret;exact⟨iY (by simp[Lx.small];omega),rfl⟩
 ·go_enter func116,ntmps116
  go_wp2
  go_ret;exact⟨iY (by simp[Lx.small];omega),rfl⟩
theorem Fb(c:Int)(w:World)(a:0<=c)(h1:c<=255):
  Calls prog 117 #[.int .u8 c] w fun e w'=>e=.returned (.bool (Lx.capital c))/\w'=w:=by
 by_cases h:65<=c
 ·by_cases h':c<=90
  all_goals
   go_enter func117,ntmps117
   go_wp2
   go_ret;exact⟨iY (by simp[Lx.capital];omega),rfl⟩
 ·go_enter func117,ntmps117
  go_wp2
  go_ret;exact⟨iY (by simp[Lx.capital];omega),rfl⟩
theorem Iw(c:Int)(w:World)(a:0<=c)(h1:c<=255):
  Calls prog 156 #[.int .u8 c] w fun e w'=>e=.returned (.bool (Lx.digit c))/\w'=w:=by
 by_cases h:48<=c
 ·by_cases h':c<=57
  all_goals
   go_enter func156,ntmps156
   go_wp2
   go_ret;exact⟨iY (by simp[Lx.digit];omega),rfl⟩
 ·go_enter func156,ntmps156
  go_wp2
  go_ret;exact⟨iY (by simp[Lx.digit];omega),rfl⟩
theorem XG(c:Int)(w:World)(a:0<=c)(h1:c<=255):
  Calls prog 149 #[.int .u8 c] w fun e w'=>e=.returned (.bool (FY c))/\w'=w:=by
 cases ha:Lx.small c
 ·cases hb:Lx.capital c
  all_goals
   go_enter func149,ntmps149
   go_wp2_with (first
    | (go_at_call 116;refine(Dn _ _ a h1).mono ?_;rintro e w'⟨rfl,rfl⟩)
    | (go_at_call 117;refine(Fb _ _ a h1).mono ?_;rintro e w'⟨rfl,rfl⟩)
    | (go_at_call 156;refine(Iw _ _ a h1).mono ?_;rintro e w'⟨rfl,rfl⟩))
   go_ret;exact⟨iY (by simp[FY,ha,hb]),rfl⟩
 ·go_enter func149,ntmps149
  go_wp2_with (first
    | (go_at_call 116;refine(Dn _ _ a h1).mono ?_;rintro e w'⟨rfl,rfl⟩))
  go_ret;exact⟨iY (by simp[FY,ha]),rfl⟩
theorem Yu(s:ByteArray)(i:Nat)(w:World)(j:s.size<=2000)(f:i<=s.size):
    Calls prog 108 #[.string s,.int .i64 i] w fun e w'=>e=.returned (.int .i64 (iT s i false))/\w'=w:=by
  go_enter func108,ntmps108
  go_wp2
  go_loop [1,5] (fun a r=>∃(k:Nat)(b:Bool),k<=s.size/\a=.int .i64 k/\r=.bool b/\Hid (iT s k b=iT s i false)) (fun a _=>s.size - (intOf a).toNat)
  case atStart=>exact⟨i,false,f,rfl,rfl,rfl⟩
  case round=>
    obtain⟨k,b,g,rfl,rfl,c⟩:=hrel
    by_cases hlt:k<s.size
    · have d:=Dv s k
      rw[oM s k hlt]at d;cases b
      all_goals
        go_wp2
        all_goals
          have h1:=c.out;clear c;simp only[beq_iff_eq,beq_eq_false_iff_ne,bne_iff_ne,bne_eq_false_iff_eq,ne_eq]at *
          first
          | (refine⟨⟨k+1,_,by omega,by go_num,rfl,?_⟩,by simp[intOf];omega⟩
             first
             | (refine amK hlt h1 ?_;omega)
             | (refine ajG hlt h1 ?_;omega)
             | (refine aln hlt h1 ?_ ?_ <;> omega)
             | (refine aip hlt h1 ?_;omega))
          | (go_ret
             refine⟨DC ?_,rfl⟩;rw[<-ajH hlt h1 (by omega) (by omega) (by omega) (by omega)])
    · go_wp2
      go_ret;exact⟨DC (by have:=c.out;rw[agl _ (by omega)]at this;rw[<-this]),rfl⟩
theorem agm(s:ByteArray)(i:Nat)(w:World)(v:s.size<=2000)(q:i<s.size):
    Calls prog 109 #[.string s,.int .i64 i] w fun e w'=>e=.returned (.int .i64 (oU s i))/\w'=w:=by
  have a:=oM s i q;have g:=Dv s i;obtain⟨j,u,p,f,r⟩:∃j:Nat,i<=j/\j<=i+1/\(j=i+1/\(((s[i].toNat:Int)) == 37)=true\/j=i/\(((s[i].toNat:Int)) == 37)=false)/\Hid (oU s i=max (wT s j) (i+1)):=by
    by_cases hp:s[i].toNat=37
    · exact⟨i+1,by omega,by omega,.inl ⟨rfl,by simp;omega⟩,by show _=_;unfold oU;rw[a,dj (by omega)]⟩
    · exact⟨i,by omega,by omega,.inr ⟨rfl,by simp;omega⟩,by show _=_;unfold oU;rw[a,dt (by omega)]⟩
  clear a;rcases f with ⟨d,f⟩|⟨d,f⟩
  all_goals
    have o:Hid _:=d;clear d;go_enter func109,ntmps109
    go_wp2
    go_loop [5] (fun b=>∃(k:Nat),k<=s.size/\b=.int .i64 k/\Hid (oU s i=max (wT s k) (i+1))) (fun b=>s.size - (intOf b).toNat)
    case atStart=>exact⟨j,by omega,by first | (rw[o.out];done) | (rw[o.out];go_num),r⟩
    case round=>
      obtain⟨k,t,rfl,l⟩:=hrel
      by_cases hlt:k<s.size
      · have c:=afU hlt
        have g:=Dv s k;have a:=oM s k hlt;rw[a]at c g;have n:Hid _:=c;clear c a;cases hw:FY (s[k].toNat:Int)
        · have m:Hid _:=hw
          go_wp2_with (first | (go_at_call 149;refine(XG _ _ (by omega) (by omega)).mono ?_;rintro e w'⟨rfl,rfl⟩))
          all_goals
            go_ret;refine⟨DC ?_,rfl⟩;rw[l.out,n.out,dt (by rw[m.out];simp)];omega
        · have m:Hid _:=hw
          go_wp2_with (first | (go_at_call 149;refine(XG _ _ (by omega) (by omega)).mono ?_;rintro e w'⟨rfl,rfl⟩))
          refine⟨⟨k+1,by omega,by go_num,?_⟩,by simp[intOf];omega⟩;show _=_;rw[l.out,n.out,dj m.out]
      · go_wp2_with fail
        all_goals
          go_ret;refine⟨DC ?_,rfl⟩;rw[l.out,afT (by omega)];omega
theorem Tryz.alo:(prog.info? 185).map (fun i=>(i.zero,i.size,i.bytes))=some (some (.agg #[.string ByteArray.empty,.int .i64 0]),2,24):=by kernel_rfl
theorem abS{w:World}{g:Nat}{x y:Value}(b:w.cell? ⟨g,0,none⟩=some x)(h1:w.cell? ⟨g,1,none⟩=some y):∀j u,[x,y][j]?=some u->w.cell? ((⟨g,0,none⟩:Addr).add j)=some u:=by
 intro j u a
 match j,a with
 |0,a=>simp at a;subst a;simpa [Addr.add]using b
 |1,a=>simp at a;subst a;simpa [Addr.add]using h1
theorem abT(s:ByteArray)(w:World)(z:s.size<=2000):
  Calls prog 70 #[.string s] w fun e w'=>∃v,e=.returned v/\w'.ownsRow w.heap.size 185 2 v (Lx.lex s).length (qw (Lx.lex s))/\Below w.heap.size w w':=by
 obtain⟨B,D,o,p,m⟩:=ft Tryz.alo;have u:=MB (s:=s) (i:=0) false (by omega);go_enter func70,ntmps70
 go_wp2_with (first|(go_at_call 108;refine(Yu s 0 _ z (by omega)).mono ?_;rintro e w'⟨rfl,r⟩;obtain rfl:=r.symm))
 go_loopw [3,4] (fun v g wr=>∃(k:Nat)(l:List Lx.Tk),k<=s.size/\l.length<=k/\g=.int .i64 k/\wr.ownsRow w.heap.size 185 2 v l.length (qw l)/\Hid (l++yV s k=Lx.lex s)/\Below w.heap.size w wr) (fun _ g _=>s.size - (intOf g).toNat)
 case atStart=>exact⟨_,[],u.2,by simp,rfl,eQ _ _ _ _,rfl,cV _ _⟩
 case round=>
  obtain⟨k,l,G,F,rfl,c,E,f⟩:=hrel
  by_cases hlt:k<s.size
  ·have d:=ahd hlt
   have x:Hid _:=d;clear d;have n:=Q0 hlt;have A:=MB (s:=s) (i:=oU s k) false n.2;have y:=f.size
   go_wp2_with (first
    | (go_at_call 109;refine(agm s k _ z hlt).mono ?_;rintro e w'⟨rfl,r⟩;obtain rfl:=r.symm)
    | (go_at_call 108;refine(Yu s _ _ z n.2).mono ?_;rintro e w'⟨rfl,r⟩;obtain rfl:=r.symm)
    | (at_builtin;refine wpList_append_own _ rfl _ _ 177 rfl w.heap.size 185 B _ 2 24 underlying177 D o p m rfl (by decide) u3 _ _ rfl (c.alloc _) ⟨_,0,none⟩ 1 1 [.string (s.extract k (oU s k)),.int .i64 k] rfl rfl (abS (by simp) (by simp)) (by simp[Value.oneCell']) (by unfold maxLen;omega) (by omega) (by simp;omega) ?_;intro C w1 b a _))
   have j:=(f.alloc y (.cells #[.string (s.extract k (oU s k)),.int .i64 k] 185)).grown a (by simp;omega) (fun q t=>(c.lt q t).1);refine⟨⟨iT s (oU s k) false,l++[(s.extract k (oU s k),k)],A.2,by simp;omega,rfl,?_,?_,j⟩,by simp[intOf];omega⟩
   ·rw[XF];simpa [qw]using b
   ·show _=_
    rw[<-E.out,x.out];simp[tq]
  ·have y:=f.size
   have d:=ahc (s:=s) (i:=k) (by omega);have x:Hid _:=d;clear d
   go_wp2_with (first
    | (at_builtin;refine wpList_append_own _ rfl _ _ 177 rfl w.heap.size 185 B _ 2 24 underlying177 D o p m rfl (by decide) u3 _ _ rfl (c.alloc _) ⟨_,0,none⟩ 1 1 [.string ⟨#[]⟩,.int .i64 k] rfl rfl (abS (by simp) (by simp)) (by simp[Value.oneCell']) (by unfold maxLen;omega) (by omega) (by simp;omega) ?_;intro C w1 b a _))
   have j:=(f.alloc y (.cells #[.string ⟨#[]⟩,.int .i64 k] 185)).grown a (by simp;omega) (fun q t=>(c.lt q t).1);go_ret;refine⟨C,rfl,?_,j⟩;rw[<-E.out,x.out,XF];simpa [qw]using b
namespace Lx
def aW:ByteArray:=⟨#[]⟩
def WF:List Tk->Prop
 | []=>False
 | [t]=>t.1=aW
 |t::u::r=>t.1≠aW/\WF (u::r)
def hd(ts:List Tk):ByteArray:=(ts.headD (aW,0)).1
def pl(ts:List Tk):Nat:=(ts.headD (aW,0)).2
theorem WF.ne{ts:List Tk}(h:WF ts):0<ts.length:=by
 cases ts with
 |nil=>exact h.elim
 |cons t r=>simp
theorem WF.tail{ts:List Tk}(h:WF ts)(a:hd ts≠aW):WF ts.tail:=by
 match ts,h with
 | [],h=>exact h.elim
 | [t],h=>exact absurd h a
 |t::u::r,h=>exact h.2
theorem WF.sV{ts:List Tk}(h:WF ts):ts.tail.length+1=ts.length:=by
 have:=h.ne;simp;omega
theorem aaZ(s:ByteArray):∀(f i:Nat),s.size-i<=f->WF (mK s f i)
 |0,i,_=>rfl
 |f+1,i,hf=>by
  simp only[mK]
  by_cases h:i<s.size
  ·have b:=Q0 h
   have c:=MC h;have ih:=aaZ s f (tq s i) (by omega);rw[dj h];have a:s.extract i (oU s i)≠aW:=by
    intro e;have:=fb ByteArray.size e;simp[aW,ByteArray.size_extract]at this;have d:(ByteArray.size ⟨#[]⟩)=0:=rfl;omega
   cases hl:mK s f (tq s i) with
   |nil=>rw[hl]at ih;exact ih.elim
   |cons u r=>rw[hl]at ih;exact⟨a,ih⟩
  ·rw[dt h];rfl
theorem lex_wf(s:ByteArray):WF (lex s):=aaZ s _ _ (dy _)
def FZ(p:Int->Bool)(b:ByteArray):Bool:=b.data.toList.all fun c=>p (c.toNat:Int) || digit (c.toNat:Int)
def isWord(p:Int->Bool)(b:ByteArray):Bool:=decide (0<b.size) && decide (b.size<=12) && p (gZ b 0) && FZ p b
def isName(b:ByteArray):Bool:=isWord small b
def isToken(b:ByteArray):Bool:=isWord capital b
structure It where
 kind:Nat
 name:ByteArray
 mark:Nat
 alts:List (List It×ByteArray×Nat)
 place:Nat
abbrev Alt:=List It×ByteArray×Nat
structure Rl where
 name:ByteArray
 alts:List Alt
 place:Nat
structure Lv where
 kind:Nat
 tokens:List Tk
structure Gr where
 levels:List Lv
 rules:List Rl
abbrev aV(α:Type):=Except (Nat×Nat) (α×List Tk)
def mM:ByteArray:=⟨#[40]⟩
def BO:ByteArray:=⟨#[41]⟩
def adL:ByteArray:=⟨#[42]⟩
def adM:ByteArray:=⟨#[43]⟩
def aec:ByteArray:=⟨#[63]⟩
def Ca:ByteArray:=⟨#[124]⟩
def mO:ByteArray:=⟨#[59]⟩
def mE:ByteArray:=⟨#[61]⟩
def ku:ByteArray:=⟨#[37,112,114,101,99]⟩
def N7:ByteArray:=⟨#[37,108,101,102,116]⟩
def NS:ByteArray:=⟨#[37,114,105,103,104,116]⟩
def N8:ByteArray:=⟨#[37,110,111,110,101]⟩
def eT(k:ByteArray->Bool)(ts:List Tk):aV ByteArray:=if k (hd ts)=true then .ok (hd ts,ts.tail) else .error (2,pl ts)
def jy(b:ByteArray)(ts:List Tk):aV Unit:=if hd ts=b then .ok ((),ts.tail) else .error (2,pl ts)
def dJ(ts:List Tk):Nat×List Tk:=if hd ts=adL then (42,ts.tail) else if hd ts=adM then (43,ts.tail) else if hd ts=aec then (63,ts.tail) else (0,ts)
def rM(ts:List Tk):Bool:=decide (hd ts=mM) || isName (hd ts) || isToken (hd ts)
def iq(aF:List Tk->aV (List Alt))(ts:List Tk):aV It :=
 if hd ts=mM then
  match aF ts with
  |.error e=>.error e
  | .ok (alts,aG)=>.ok (⟨2,aW,(dJ aG).1,alts,pl ts⟩,(dJ aG).2)
 else if isName (hd ts)=true then .ok (⟨0,hd ts,(dJ ts.tail).1,[],pl ts⟩,(dJ ts.tail).2)
 else if isToken (hd ts)=true then .ok (⟨1,hd ts,(dJ ts.tail).1,[],pl ts⟩,(dJ ts.tail).2)
 else .error (2,pl ts)
def jr(aF:List Tk->aV (List Alt)):Nat->List Tk->List It->aV (List It)
 |0,ts,acc=>.ok (acc,ts)
 |f+1,ts,acc=>
  if rM ts=true then
   match iq aF ts with
   |.error e=>.error e
   | .ok (x,aG)=>jr aF f aG (acc++[x])
  else .ok (acc,ts)
def qB(top:Bool)(items:List It)(ts:List Tk):aV Alt :=
 if top=true/\hd ts=ku then
  match eT isToken ts.tail with
  |.error e=>.error e
  | .ok (b,aG)=>.ok ((items,b,pl ts.tail),aG)
 else .ok ((items,aW,0),ts)
def iG(aF:List Tk->aV (List Alt))(top:Bool)(ts:List Tk):aV Alt :=
 match jr aF ts.length ts [] with
 |.error e=>.error e
 | .ok (items,aG)=>qB top items aG
def l9(aF:List Tk->aV (List Alt))(top:Bool):Nat->List Tk->List Alt->aV (List Alt)
 |0,ts,acc=>.ok (acc,ts)
 |f+1,ts,acc=>
  if hd ts=Ca then
   match iG aF top ts.tail with
   |.error e=>.error e
   | .ok (x,aG)=>l9 aF top f aG (acc++[x])
  else .ok (acc,ts)
def qx(aF:List Tk->aV (List Alt))(top:Bool)(ts:List Tk):aV (List Alt) :=
 match iG aF top ts with
 |.error e=>.error e
 | .ok (x,aG)=>l9 aF top aG.length aG [x]
def qz(alts:List Tk->aV (List Alt))(ts:List Tk):aV (List Alt) :=
 match alts ts.tail with
 |.error e=>.error e
 | .ok (l,aG)=>
  match jy BO aG with
  |.error e=>.error e
  | .ok (_,cu)=>.ok (l,cu)
def nJ:Nat->List Tk->aV (List Alt)
 |0,ts=>qx (fun ts=>.error (3,pl ts)) false ts
 |d+1,ts=>qx (qz (nJ d)) (d == 7) ts
def iE:Nat->List Tk->aV (List Alt)
 |0,ts=>.error (3,pl ts)
 |d+1,ts=>qz (nJ d) ts
theorem ajI(d:Nat)(ts:List Tk):nJ d ts=qx (iE d) (d == 8) ts:=by
 cases d with
 |zero=>rfl
 |succ d=>simp only[nJ];congr 1;simp
theorem oO{k:ByteArray->Bool}{ts ts':List Tk}{b:ByteArray}(h:eT k ts=.ok (b,ts')):ts'=ts.tail/\b=hd ts/\k (hd ts)=true:=by
 unfold eT at h
 split at h
 ·rename_i a;simp only[Except.ok.injEq,Prod.mk.injEq]at h;exact⟨h.2.symm,h.1.symm,a⟩
 ·cases h
theorem yK{b:ByteArray}{ts ts':List Tk}{u:Unit}(h:jy b ts=.ok (u,ts')):ts'=ts.tail/\hd ts=b:=by
 unfold jy at h
 split at h
 ·rename_i a;simp only[Except.ok.injEq,Prod.mk.injEq]at h;exact⟨h.2.symm,a⟩
 ·cases h
theorem Rq(ts:List Tk):(dJ ts).2.length<=ts.length:=by
 unfold dJ
 split
 ·simp
 ·split
  ·simp
  ·split <;> simp
theorem Rs{aF:List Tk->aV (List Alt)}(a:∀ts x ts',aF ts=.ok (x,ts')->ts'.length<=ts.tail.length){ts ts':List Tk}{x:It}(h:iq aF ts=.ok (x,ts')):ts'.length<=ts.tail.length:=by
 unfold iq at h
 split at h
 ·cases hr:aF ts with
  |error e=>rw[hr]at h;cases h
  |ok y=>
   obtain⟨l,b⟩:=y;rw[hr]at h;simp only[Except.ok.injEq,Prod.mk.injEq]at h;have h1:=a _ _ _ hr;have h2:=Rq b;rw[<-h.2];omega
 ·split at h
  ·simp only[Except.ok.injEq,Prod.mk.injEq]at h
   rw[<-h.2];exact Rq _
  ·split at h
   ·simp only[Except.ok.injEq,Prod.mk.injEq]at h
    rw[<-h.2];exact Rq _
   ·cases h
theorem Y1{aF:List Tk->aV (List Alt)}(a:∀ts x ts',aF ts=.ok (x,ts')->ts'.length<=ts.tail.length):∀(f:Nat)(ts:List Tk)(acc:List It)(x:List It)(ts':List Tk),jr aF f ts acc=.ok (x,ts')->ts'.length<=ts.length
 |0,ts,acc,x,ts',h=>by simp only[jr,Except.ok.injEq,Prod.mk.injEq]at h;rw[h.2];exact dy _
 |f+1,ts,acc,x,ts',h=>by
  simp only[jr]at h
  split at h
  ·cases hr:iq aF ts with
   |error e=>rw[hr]at h;cases h
   |ok y=>
    obtain⟨z,b⟩:=y;rw[hr]at h;have h1:=Rs a hr;have h2:=Y1 a f b _ x ts' h;have h3:ts.tail.length<=ts.length:=by simp
    omega
  ·simp only[Except.ok.injEq,Prod.mk.injEq]at h;rw[h.2];exact dy _
theorem aiq{c:Bool}{a:List It}{ts ts':List Tk}{x:Alt}(h:qB c a ts=.ok (x,ts')):ts'.length<=ts.length:=by
 unfold qB at h
 split at h
 ·cases hr:eT isToken ts.tail with
  |error e=>rw[hr]at h;cases h
  |ok y=>
   obtain⟨b,d⟩:=y;rw[hr]at h;simp only[Except.ok.injEq,Prod.mk.injEq]at h;have h1:=(oO hr).1;rw[<-h.2,h1];simp;omega
 ·simp only[Except.ok.injEq,Prod.mk.injEq]at h
  rw[<-h.2];exact dy _
theorem IW{aF:List Tk->aV (List Alt)}(b:∀ts x ts',aF ts=.ok (x,ts')->ts'.length<=ts.tail.length){a:Bool}{ts ts':List Tk}{x:Alt}(h:iG aF a ts=.ok (x,ts')):ts'.length<=ts.length:=by
 unfold iG at h;cases hr:jr aF ts.length ts [] with
 |error e=>rw[hr]at h;cases h
 |ok y=>
  obtain⟨l,c⟩:=y;rw[hr]at h;have h1:=Y1 b _ _ _ _ _ hr;have h2:=aiq h;omega
theorem ZV{aF:List Tk->aV (List Alt)}(b:∀ts x ts',aF ts=.ok (x,ts')->ts'.length<=ts.tail.length){a:Bool}:∀(f:Nat)(ts:List Tk)(acc:List Alt)(x:List Alt)(ts':List Tk),l9 aF a f ts acc=.ok (x,ts')->ts'.length<=ts.length
 |0,ts,acc,x,ts',h=>by simp only[l9,Except.ok.injEq,Prod.mk.injEq]at h;rw[h.2];exact dy _
 |f+1,ts,acc,x,ts',h=>by
  simp only[l9]at h
  split at h
  ·cases hr:iG aF a ts.tail with
   |error e=>rw[hr]at h;cases h
   |ok y=>
    obtain⟨z,c⟩:=y;rw[hr]at h;have h1:=IW b hr;have h2:=ZV b f c _ x ts' h;have h3:ts.tail.length<=ts.length:=by simp
    omega
  ·simp only[Except.ok.injEq,Prod.mk.injEq]at h;rw[h.2];exact dy _
theorem Yv{aF:List Tk->aV (List Alt)}(b:∀ts x ts',aF ts=.ok (x,ts')->ts'.length<=ts.tail.length){a:Bool}{ts ts':List Tk}{x:List Alt}(h:qx aF a ts=.ok (x,ts')):ts'.length<=ts.length:=by
 unfold qx at h;cases hr:iG aF a ts with
 |error e=>rw[hr]at h;cases h
 |ok y=>
  obtain⟨l,c⟩:=y;rw[hr]at h;have h1:=IW b hr;have h2:=ZV b _ _ _ _ _ h;omega
theorem Ra{r:List Tk->aV (List Alt)}(b:∀ts x ts',r ts=.ok (x,ts')->ts'.length<=ts.length)(ts:List Tk)(x:List Alt)(ts':List Tk)(h:qz r ts=.ok (x,ts')):ts'.length<=ts.tail.length:=by
 unfold qz at h;cases h1:r ts.tail with
 |error e=>rw[h1]at h;cases h
 |ok y=>
  obtain⟨l,a⟩:=y;rw[h1]at h;cases h2:jy BO a with
  |error e=>simp only[h2]at h;cases h
  |ok z=>
   obtain⟨u,c⟩:=z;simp only[h2,Except.ok.injEq,Prod.mk.injEq]at h;have:=b _ _ _ h1;have h3:=(yK h2).1;rw[<-h.2,h3];have h4:a.tail.length<=a.length:=by simp
   omega
theorem MF:∀(d:Nat)(ts:List Tk)(x:List Alt)(ts':List Tk),nJ d ts=.ok (x,ts')->ts'.length<=ts.length
 |0,ts,x,ts',h=>Yv (aF:=fun ts=>.error (3,pl ts)) (fun _ _ _ h=>by cases h) h
 |d+1,ts,x,ts',h=>Yv (Ra (MF d)) h
theorem QJ:∀(d:Nat)(ts:List Tk)(x:List Alt)(ts':List Tk),iE d ts=.ok (x,ts')->ts'.length<=ts.tail.length
 |0,ts,x,ts',h=>by cases h
 |d+1,ts,x,ts',h=>Ra (MF d) _ _ _ h
def iw(ts:List Tk):aV Rl :=
 match eT isName ts with
 |.error e=>.error e
 | .ok (n,aG)=>
  match jy mE aG with
  |.error e=>.error e
  | .ok (_,cu)=>
   match nJ 8 cu with
   |.error e=>.error e
   | .ok (l,lW)=>
    match jy mO lW with
    |.error e=>.error e
    | .ok (_,oD)=>.ok (⟨n,l,pl ts⟩,oD)
def iL(b:ByteArray):Int:=if b=N7 then 0 else if b=NS then 1 else if b=N8 then 2 else -1
def jG:Nat->List Tk->List Tk->aV (List Tk)
 |0,ts,acc=>.ok (acc,ts)
 |f+1,ts,acc=>
  if hd ts=mO then .ok (acc,ts.tail)
  else
   match eT isToken ts with
   |.error e=>.error e
   | .ok (b,aG)=>jG f aG (acc++[(b,pl ts)])
def jY(ts:List Tk):aV Lv :=
 match eT isToken ts.tail with
 |.error e=>.error e
 | .ok (b,aG)=>
  match jG aG.length aG [(b,pl ts.tail)] with
  |.error e=>.error e
  | .ok (l,cu)=>.ok (⟨(iL (hd ts)).toNat,l⟩,cu)
def jO:Nat->List Tk->List Lv->aV (List Lv)
 |0,ts,acc=>.ok (acc,ts)
 |f+1,ts,acc=>
  if 0<=iL (hd ts) then
   match jY ts with
   |.error e=>.error e
   | .ok (x,aG)=>jO f aG (acc++[x])
  else .ok (acc,ts)
def jv:Nat->List Tk->List Rl->aV (List Rl)
 |0,ts,acc=>.ok (acc,ts)
 |f+1,ts,acc=>
  if hd ts=aW then .ok (acc,ts)
  else
   match iw ts with
   |.error e=>.error e
   | .ok (x,aG)=>jv f aG (acc++[x])
def iZ(ts:List Tk):aV Gr :=
 match jO ts.length ts [] with
 |.error e=>.error e
 | .ok (lv,aG)=>
  match iw aG with
  |.error e=>.error e
  | .ok (x,cu)=>
   match jv cu.length cu [x] with
   |.error e=>.error e
   | .ok (l,lW)=>.ok (⟨lv,l⟩,lW)
def parse(s:ByteArray):Except (Nat×Nat) Gr :=
 if 2000<s.size then .error (1,0)
 else
  match iZ (lex s) with
  |.error e=>.error e
  | .ok (g,_)=>.ok g
end Lx
section
open Go.RowKit
open Lx (Tk)
theorem air(p:Addr)(a:Addr)(len b:Nat)(t:ByteArray)(w:World)(d:w.cell? ⟨p.block,p.off,none⟩=some (.slice (some ⟨a.block,a.off,none⟩) len b))(f:0<len)
  (c:w.cell? ⟨a.block,a.off,none⟩=some (.string t)) :
  Calls prog 111 #[.pointer (some ⟨p.block,p.off,none⟩)] w fun e w'=>e=.returned (.string t)/\w'=w:=by
 go_enter func111,ntmps111
 go_wp2
 go_ret;exact⟨rfl,rfl⟩
theorem ajJ(p:Addr)(a:Addr)(len b:Nat)(w:World)(d:w.cell? ⟨p.block,p.off,none⟩=some (.slice (some ⟨a.block,a.off,none⟩) len b))(g:1<len)(f:len<=b)
  (i:w.frozen? ⟨p.block,p.off,none⟩=false) :
  Calls prog 150 #[.pointer (some ⟨p.block,p.off,none⟩)] w fun e w'=>e=.returned (.tuple #[])/\w'=w.setCell ⟨p.block,p.off,none⟩ (.slice (some ⟨a.block,a.off+2,none⟩) (len-1) (b-1)):=by
 have c:¬b=1:=by omega
 go_enter func150,ntmps150
 go_wp2
 go_end0
 exact⟨rfl,rfl⟩
def thrown(n a:Nat):List PanicEntry:=[{ v:=.iface 175 (.agg #[.int .i64 (n:Int),.int .i64 (a:Int)]),recovered:=false }]
theorem ais(p:Addr)(a:Addr)(len b:Nat)(t n:Nat)(w:World)(d:w.cell? ⟨p.block,p.off,none⟩=some (.slice (some ⟨a.block,a.off,none⟩) len b))(f:0<len)
  (c:w.cell? ⟨a.block,a.off+1,none⟩=some (.int .i64 t)) :
  Calls prog 175 #[.pointer (some ⟨p.block,p.off,none⟩),.int .i64 n] w fun e w'=>e=.panicked (thrown n t)/\w'=w:=by
 go_enter func175,ntmps175
 go_wp2
 exact⟨rfl,rfl,rfl⟩
structure Rd(sb cap:Nat)(L:List Tk)(p:Nat)(w:World)(ts:List Tk)(o:Int):Prop where
 wf:Lx.WF ts
 suf:∃pre,L=pre++ts
 JK:L.length<=cap
 sl:w.cell? ⟨p,0,none⟩=some (.slice (some ⟨sb,(L.length-ts.length)*2,none⟩) ts.length (cap - (L.length-ts.length)))
 op:w.cell? ⟨p,1,none⟩=some (.int .i64 o)
 OW:w.frozen? ⟨p,0,none⟩=false
 Kg:w.frozen? ⟨p,1,none⟩=false
 row:∀j t,L[j]?=some t->w.cell? ⟨sb,j*2,none⟩=some (.string t.1)/\w.cell? ⟨sb,j*2+1,none⟩=some (.int .i64 (t.2:Int))
 ne:p≠sb
 sz:∀t,t∈L->t.1.size<=2000
 lb:L.length<=2001
section
variable{sb cap:Nat}{L:List Tk}{p:Nat}{w w':World}{ts:List Tk}{o:Int}
theorem Rd.at(h:Rd sb cap L p w ts o):w.cell? ⟨sb,(L.length-ts.length)*2,none⟩=some (.string (Lx.hd ts))/\w.cell? ⟨sb,(L.length-ts.length)*2+1,none⟩=some (.int .i64 (Lx.pl ts:Int)):=by
 obtain⟨a,b⟩:=h.suf;have c:=h.wf.ne;cases ts with
 |nil=>simp at c
 |cons t r=>
  have e:L.length - (t::r).length=a.length:=by rw[b];simp
  rw[e];exact h.row a.length t (by rw[b];simp)
theorem Rd.hsz(h:Rd sb cap L p w ts o):(Lx.hd ts).size<=2000:=by
 obtain⟨c,b⟩:=h.suf;have a:=h.wf.ne;cases ts with
 |nil=>simp at a
 |cons t r=>exact h.sz t (by rw[b];simp)
theorem Rd.len(h:Rd sb cap L p w ts o):ts.length<=L.length:=by
 obtain⟨b,a⟩:=h.suf;rw[a];simp
theorem Rd.step(h:Rd sb cap L p w ts o)(n:Lx.hd ts≠aW):
  Rd sb cap L p (w.setCell ⟨p,0,none⟩ (.slice (some ⟨sb,(L.length-ts.length)*2+2,none⟩) (ts.length-1) (cap - (L.length-ts.length) - 1))) ts.tail o:=by
 obtain⟨a,m⟩:=h.suf;have s:=h.wf.sV;have f:=h.len;have b:=h.ne;refine⟨h.wf.tail n,?_,h.JK,?_,?_,?_,?_,?_,h.ne,h.sz,h.lb⟩
 ·cases ts with
  |nil=>exact absurd h.wf.ne (by simp)
  |cons t r=>exact⟨a++[t],by rw[m];simp⟩
 ·have i:(L.length-ts.tail.length)*2=(L.length-ts.length)*2+2:=by omega
  have q:ts.tail.length=ts.length-1:=by omega
  have k:cap - (L.length-ts.tail.length)=cap - (L.length-ts.length) - 1:=by omega
  rw[i,k,q];exact zr _ _ _ h.sl
 ·rw[n9]
  ·exact h.op
  ·simp
 ·simpa using h.OW
 ·simpa using h.Kg
 ·intro j t l
  have c:∀g d,(⟨p,g,none⟩:Addr)≠⟨sb,d,none⟩:=fun g d e=>b (Addr.mk.inj e).1
  rw[n9 _ _ _ _ (c _ _),n9 _ _ _ _ (c _ _)];exact h.row j t l
theorem Rd.reopen(h:Rd sb cap L p w ts o)(a:Int):Rd sb cap L p (w.setCell ⟨p,1,none⟩ (.int .i64 a)) ts a:=by
 have b:=h.ne;refine⟨h.wf,h.suf,h.JK,?_,zr _ _ _ h.op,?_,?_,?_,h.ne,h.sz,h.lb⟩
 ·rw[n9]
  ·exact h.sl
  ·simp
 ·simpa using h.OW
 ·simpa using h.Kg
 ·intro j t f
  have c:∀a d,(⟨p,a,none⟩:Addr)≠⟨sb,d,none⟩:=fun a d e=>b (Addr.mk.inj e).1
  rw[n9 _ _ _ _ (c _ _),n9 _ _ _ _ (c _ _)];exact h.row j t f
theorem Rd.lt(h:Rd sb cap L p w ts o):p<w.heap.size:=oR _ _ h.sl
theorem Rd.Ap(h:Rd sb cap L p w ts o):sb<w.heap.size:=oR _ _ h.at.1
theorem Rd.grown(h:Rd sb cap L p w ts o){r:Option Nat}(d:w.grownBy w' r)(g:some p≠r)(i:some sb≠r):Rd sb cap L p w' ts o:=by
 have a:w'.heap[p]?=w.heap[p]?:=d.block p h.lt g;have k:w'.heap[sb]?=w.heap[sb]?:=d.block sb h.Ap i;refine⟨h.wf,h.suf,h.JK,?_,?_,?_,?_,?_,h.ne,h.sz,h.lb⟩
 ·rw[cM (w:=w) (by exact a)];exact h.sl
 ·rw[cM (w:=w) (by exact a)];exact h.op
 ·rw[World.frozen?_of_block (w:=w) (by exact a)];exact h.OW
 ·rw[World.frozen?_of_block (w:=w) (by exact a)];exact h.Kg
 ·intro j t f
  have c:∀b,w'.cell? ⟨sb,b,none⟩=w.cell? ⟨sb,b,none⟩:=fun b=>cM (w:=w) k
  rw[c,c];exact h.row j t f
theorem IB(w:World)(r:Option Nat):w.grownBy w r:=⟨rfl,rfl,rfl,dy _,fun _ _ _=>rfl⟩
theorem aR{a b c:World}{r:Option Nat}(h:a.grownBy b r)(k:b.grownBy c r):a.grownBy c r :=
 ⟨k.os.trans h.os,k.tape.trans h.tape,k.output.trans h.output,de h.size k.size,fun i f d=>(k.block i (dd f h.size) d).trans (h.block i f d)⟩
theorem iM(w:World)(p:Nat)(o:Nat)(v:Value):w.grownBy (w.setCell ⟨p,o,none⟩ v) (some p) :=
 ⟨rfl,rfl,rfl,by simp[World.setCell],fun i _ a=>fX _ _ _ _ (fun e=>a (by rw[e]))⟩
end
theorem oQ{b a:Nat}{L:List Tk}{p:Nat}{w:World}{ts:List Tk}{o:Int}(h:Rd b a L p w ts o):
  Calls prog 111 #[.pointer (some ⟨p,0,none⟩)] w fun e w'=>e=.returned (.string (Lx.hd ts))/\w'=w :=
 air ⟨p,0,none⟩ ⟨b,(L.length-ts.length)*2,none⟩ _ _ _ w h.sl h.wf.ne h.at.1
theorem MQ{b a:Nat}{L:List Tk}{p:Nat}{w:World}{ts:List Tk}{o:Int}(h:Rd b a L p w ts o)(n:Nat):
  Calls prog 175 #[.pointer (some ⟨p,0,none⟩),.int .i64 n] w fun e w'=>e=.panicked (thrown n (Lx.pl ts))/\w'=w :=
 ais ⟨p,0,none⟩ ⟨b,(L.length-ts.length)*2,none⟩ _ _ _ _ w h.sl h.wf.ne h.at.2
theorem amL{ts:List Tk}(h:Lx.WF ts)(a:Lx.hd ts≠aW):1<ts.length:=by
 have:=(h.tail a).ne;have:=h.sV;omega
theorem DF{b a:Nat}{L:List Tk}{p:Nat}{w:World}{ts:List Tk}{o:Int}(h:Rd b a L p w ts o)(d:Lx.hd ts≠aW):
  Calls prog 150 #[.pointer (some ⟨p,0,none⟩)] w fun e w'=>e=.returned (.tuple #[])/\w.grownBy w' (some p)/\Rd b a L p w' ts.tail o:=by
 have c:=h.len;have f:=h.JK;refine(ajJ ⟨p,0,none⟩ ⟨b,(L.length-ts.length)*2,none⟩ _ _ w h.sl (amL h.wf d) (by omega) h.OW).mono ?_;rintro e w'⟨rfl,rfl⟩;exact⟨rfl,iM _ _ _ _,h.step d⟩
theorem alp(a b:ByteArray):(a.toList == b.toList)=decide (a=b):=by
 rw[uC,uC]
 by_cases h:a=b
 ·subst h;simp
 ·have:a.data.toList≠b.data.toList:=fun e=>h (yd (Array.toList_inj.1 e))
  rw[eE h];exact fY.2 this
theorem wU{c a:Nat}{L:List Tk}{p:Nat}{w:World}{ts:List Tk}{o:Int}(h:Rd c a L p w ts o)(b:ByteArray):
  Calls prog 114 #[.pointer (some ⟨p,0,none⟩),.string b] w fun e w'=>e=.returned (.bool (decide (Lx.hd ts=b)))/\w'=w:=by
 go_enter func114,ntmps114
 go_wp2_with (go_at_call 111;refine(oQ h).mono ?_;rintro e w'⟨rfl,d⟩;obtain rfl:=d.symm)
 go_ret;exact⟨iY (alp _ _),rfl⟩
theorem IG{d a:Nat}{L:List Tk}{p:Nat}{w:World}{ts:List Tk}{o:Int}(h:Rd d a L p w ts o)(b:ByteArray)(hd:¬Lx.hd ts=b):
  Calls prog 152 #[.pointer (some ⟨p,0,none⟩),.string b] w fun e w'=>e=.returned (.bool false)/\w'=w:=by
 have c:Hid _:=hd;clear hd;go_enter func152,ntmps152
 go_wp2_with (first
  | (go_at_call 114;refine(wU h b).mono ?_;rintro e w'⟨rfl,f⟩;obtain rfl:=f.symm;rw[eE c.out]))
 go_ret;exact⟨rfl,rfl⟩
theorem Ml{d a:Nat}{L:List Tk}{p:Nat}{w:World}{ts:List Tk}{o:Int}(h:Rd d a L p w ts o)(b:ByteArray)(f:b≠aW)(hd:Lx.hd ts=b):
  Calls prog 152 #[.pointer (some ⟨p,0,none⟩),.string b] w fun e w'=>e=.returned (.bool true)/\w.grownBy w' (some p)/\Rd d a L p w' ts.tail o:=by
 have c:Hid (Lx.hd ts=b):=hd;clear hd;go_enter func152,ntmps152
 go_wp2_with (first
  | (go_at_call 114;refine(wU h b).mono ?_;rintro e w'⟨rfl,j⟩;obtain rfl:=j.symm;rw[fi c.out])
  | (go_at_call 150;refine(DF h (by rw[c.out];exact f)).mono ?_;rintro e w'⟨rfl,i,g⟩))
 go_ret;exact⟨rfl,i,g⟩
def Ends(sb cap:Nat)(L:List Tk)(p:Nat)(o:Int){α:Type}(V:World->Value->α->Prop)(w:World)(r:aV α)(e:Ending)(w':World):Prop :=
 w.grownBy w' (some p) /\
  match r with
  | .ok (x,ts')=>∃v,e=.returned v/\Rd sb cap L p w' ts' o/\V w' v x
  | .error (n,a)=>e=.panicked (thrown n a)
section
variable{sb cap:Nat}{L:List Tk}{p:Nat}{o:Int}{α:Type}{V:World -> Value -> α -> Prop}{w w':World}{r:aV α}{e:Ending}
theorem Ends.yes{x:α}{ts':List Tk}{v:Value}(b:r=.ok (x,ts'))(a:w.grownBy w' (some p))(h1:Rd sb cap L p w' ts' o)(h2:V w' v x):Ends sb cap L p o V w r (.returned v) w':=by
 subst b;exact⟨a,v,rfl,h1,h2⟩
theorem Ends.no{n a:Nat}(c:r=.error (n,a))(b:w.grownBy w' (some p)):Ends sb cap L p o V w r (.panicked (thrown n a)) w':=by
 subst c;exact⟨b,rfl⟩
theorem Ends.ok{x:α}{ts':List Tk}(h:Ends sb cap L p o V w r e w')(a:r=.ok (x,ts')):∃v,e=.returned v/\w.grownBy w' (some p)/\Rd sb cap L p w' ts' o/\V w' v x:=by
 subst a;obtain⟨c,v,b,h1,h2⟩:=h;exact⟨v,b,c,h1,h2⟩
theorem Ends.err{n a:Nat}(h:Ends sb cap L p o V w r e w')(b:r=.error (n,a)):e=.panicked (thrown n a)/\w.grownBy w' (some p):=by
 subst b;exact⟨h.2,h.1⟩
end
def ang(_:World)(v:Value)(_:Unit):Prop:=v=.tuple #[]
def N9(_:World)(v:Value)(b:ByteArray):Prop:=v=.string b
theorem Me{j a:Nat}{L:List Tk}{p:Nat}{w:World}{ts:List Tk}{o:Int}(h:Rd j a L p w ts o)(b:ByteArray)(k:b≠aW):
  Calls prog 154 #[.pointer (some ⟨p,0,none⟩),.string b] w (Ends j a L p o ang w (jy b ts)):=by
 by_cases hd:Lx.hd ts=b
 ·have c:jy b ts=.ok ((),ts.tail):=dj hd
  have g:Hid (Lx.hd ts=b):=hd;have d:Hid _:=c;clear hd c;go_enter func154,ntmps154
  go_wp2_with (first
   | (go_at_call 152;refine(Ml h b k g.out).mono ?_;rintro e i⟨rfl,m,l⟩))
  go_end0
  exact Ends.yes d.out m l rfl
 ·have c:jy b ts=.error (2,Lx.pl ts):=dt hd
  have g:Hid (¬Lx.hd ts=b):=hd;have d:Hid _:=c;clear hd c;go_enter func154,ntmps154
  go_wp2_with (first
   | (go_at_call 152;refine(IG h b g.out).mono ?_;rintro e i⟨rfl,f⟩;obtain rfl:=f.symm)
   | (go_at_call 175;refine(MQ h 2).mono ?_;rintro e i⟨rfl,f⟩;obtain rfl:=f.symm))
  exact⟨rfl,Ends.no d.out (IB _ _)⟩
end
section
open Go.RowKit
open Lx (Tk)
namespace Lx
theorem ZW(p:Int->Bool)(b:ByteArray):FZ p b=true↔∀j,j<b.size->(p (gZ b j) || digit (gZ b j))=true:=by
 unfold FZ;rw[p7];constructor
 ·intro h j d
  have a:j<b.data.toList.length:=by simpa using d
  have h1:=h b.data.toList[j] (du a);rw[oM b j d];exact h1
 ·intro h c f
  obtain⟨j,d,rfl⟩:=lA f;have a:j<b.size:=by simpa using d
  have h1:=h j a;rw[oM b j a]at h1;exact h1
theorem ZX{p:Int->Bool}{b:ByteArray}(a:0<b.size)(h1:b.size<=12)(h2:p (gZ b 0)=true)(h3:∀j,j<b.size->(p (gZ b j) || digit (gZ b j))=true):isWord p b=true:=by
 unfold isWord;rw[(ZW p b).2 h3,h2];simp[a,h1]
theorem XT{p:Int->Bool}{b:ByteArray}(a:b.size=0):isWord p b=false:=by
 unfold isWord;simp[a]
theorem Yw{p:Int->Bool}{b:ByteArray}(a:12<b.size):isWord p b=false:=by
 unfold isWord;simp[show ¬b.size<=12 by omega]
theorem XU{p:Int->Bool}{b:ByteArray}(a:p (gZ b 0)=false):isWord p b=false:=by
 unfold isWord;simp[a]
theorem Y2{p:Int->Bool}{b:ByteArray}{j:Nat}(a:j<b.size)(h1:p (gZ b j)=false)(h2:digit (gZ b j)=false):isWord p b=false:=by
 have:FZ p b=false:=by
  cases ha:FZ p b
  ·rfl
  ·have:=(ZW p b).1 ha j a
   simp[h1,h2]at this
 unfold isWord;simp[this]
end Lx
theorem afr(b:ByteArray)(w:World)(x:b.size<=2000):
  Calls prog 115 #[.string b,.func (.func 116) #[] #[]] w fun e w'=>e=.returned (.bool (Lx.isWord Lx.small b))/\w'=w:=by
 by_cases h0:b.size=0
 ·have d:=XT (p:=Lx.small) h0
  have m:Hid _:=d;clear d;have t:((b.size:Int) == 0)=true:=tR.2 (by omega);go_enter func115,ntmps115;go_wp2_with fail;go_ret;exact⟨iY m.out.symm,rfl⟩
 have t:((b.size:Int) == 0)=false:=fY.2 (by omega)
 by_cases h1:12<b.size
 ·have d:=Yw (p:=Lx.small) h1
  have m:Hid _:=d;clear d;go_enter func115,ntmps115;go_wp2_with fail;go_ret;exact⟨iY m.out.symm,rfl⟩
 have a:0<b.size:=by omega
 have f:=Dv b 0;rw[oM b 0 a]at f;have u:decide (12<(b.size:Int))=false:=eE (by omega);cases h2:Lx.small (b[0].toNat:Int)
 ·have d:=XU (p:=Lx.small) (b:=b) (by rw[oM b 0 a];exact h2)
  have m:Hid _:=d;have r:Hid _:=h2;clear d h2;go_enter func115,ntmps115
  go_wp2_with (go_at_call 116;refine(Dn _ _ (by omega) (by omega)).mono ?_;rintro e w'⟨rfl,c⟩;obtain rfl:=c.symm;rw[r.out])
  go_ret;exact⟨iY m.out.symm,rfl⟩
 ·have r:Hid _:=h2
  clear h2;go_enter func115,ntmps115
  go_wp2_with (go_at_call 116;refine(Dn _ _ (by omega) (by omega)).mono ?_;rintro e w'⟨rfl,c⟩;obtain rfl:=c.symm;rw[r.out])
  go_loop [23] (fun i=>∃(k:Nat),k<=b.size/\i=.int .i64 k/\Hid (∀j,j<k->(Lx.small (gZ b j) || Lx.digit (gZ b j))=true)) (fun i=>b.size - (intOf i).toNat)
  case atStart=>exact⟨0,by omega,rfl,fun j q=>absurd q (by omega)⟩
  case round=>
   obtain⟨k,v,rfl,s⟩:=hrel
   by_cases hlt:k<b.size
   ·have f:=Dv b k
    have g:=oM b k hlt;rw[g]at f;have o:Hid _:=g;clear g;cases h3:Lx.small (b[k].toNat:Int)
    ·have l:Hid _:=h3
     clear h3;cases h4:Lx.digit (b[k].toNat:Int)
     ·have n:Hid _:=h4
      clear h4
      go_wp2_with (first
       | (go_at_call 116;refine(Dn _ _ (by omega) (by omega)).mono ?_;rintro e w'⟨rfl,c⟩;obtain rfl:=c.symm;rw[l.out])
       | (go_at_call 156;refine(Iw _ _ (by omega) (by omega)).mono ?_;rintro e w'⟨rfl,c⟩;obtain rfl:=c.symm;rw[n.out]))
      go_ret;exact⟨iY (Y2 hlt (by rw[o.out];exact l.out) (by rw[o.out];exact n.out)).symm,rfl⟩
     ·have n:Hid _:=h4
      clear h4
      go_wp2_with (first
       | (go_at_call 116;refine(Dn _ _ (by omega) (by omega)).mono ?_;rintro e w'⟨rfl,c⟩;obtain rfl:=c.symm;rw[l.out])
       | (go_at_call 156;refine(Iw _ _ (by omega) (by omega)).mono ?_;rintro e w'⟨rfl,c⟩;obtain rfl:=c.symm;rw[n.out]))
      refine⟨⟨k+1,by omega,by go_num,?_⟩,by simp[intOf];omega⟩;intro j q
      by_cases hjk:j=k
      ·subst hjk;rw[o.out,n.out];simp
      ·exact s.out j (by omega)
    ·have l:Hid _:=h3
     clear h3
     go_wp2_with (first
      | (go_at_call 116;refine(Dn _ _ (by omega) (by omega)).mono ?_;rintro e w'⟨rfl,c⟩;obtain rfl:=c.symm;rw[l.out]))
     refine⟨⟨k+1,by omega,by go_num,?_⟩,by simp[intOf];omega⟩;intro j q
     by_cases hjk:j=k
     ·subst hjk;rw[o.out,l.out];simp
     ·exact s.out j (by omega)
   ·go_wp2_with fail
    go_ret;exact⟨iY (ZX a (by omega) (by rw[oM b 0 a];exact r.out) (fun j q=>s.out j (by omega))).symm,rfl⟩
theorem afm(b:ByteArray)(w:World)(x:b.size<=2000):
  Calls prog 115 #[.string b,.func (.func 117) #[] #[]] w fun e w'=>e=.returned (.bool (Lx.isWord Lx.capital b))/\w'=w:=by
 by_cases h0:b.size=0
 ·have d:=XT (p:=Lx.capital) h0
  have m:Hid _:=d;clear d;have t:((b.size:Int) == 0)=true:=tR.2 (by omega);go_enter func115,ntmps115;go_wp2_with fail;go_ret;exact⟨iY m.out.symm,rfl⟩
 have t:((b.size:Int) == 0)=false:=fY.2 (by omega)
 by_cases h1:12<b.size
 ·have d:=Yw (p:=Lx.capital) h1
  have m:Hid _:=d;clear d;go_enter func115,ntmps115;go_wp2_with fail;go_ret;exact⟨iY m.out.symm,rfl⟩
 have a:0<b.size:=by omega
 have f:=Dv b 0;rw[oM b 0 a]at f;have u:decide (12<(b.size:Int))=false:=eE (by omega);cases h2:Lx.capital (b[0].toNat:Int)
 ·have d:=XU (p:=Lx.capital) (b:=b) (by rw[oM b 0 a];exact h2)
  have m:Hid _:=d;have r:Hid _:=h2;clear d h2;go_enter func115,ntmps115
  go_wp2_with (go_at_call 117;refine(Fb _ _ (by omega) (by omega)).mono ?_;rintro e w'⟨rfl,c⟩;obtain rfl:=c.symm;rw[r.out])
  go_ret;exact⟨iY m.out.symm,rfl⟩
 ·have r:Hid _:=h2
  clear h2;go_enter func115,ntmps115
  go_wp2_with (go_at_call 117;refine(Fb _ _ (by omega) (by omega)).mono ?_;rintro e w'⟨rfl,c⟩;obtain rfl:=c.symm;rw[r.out])
  go_loop [23] (fun i=>∃(k:Nat),k<=b.size/\i=.int .i64 k/\Hid (∀j,j<k->(Lx.capital (gZ b j) || Lx.digit (gZ b j))=true)) (fun i=>b.size - (intOf i).toNat)
  case atStart=>exact⟨0,by omega,rfl,fun j q=>absurd q (by omega)⟩
  case round=>
   obtain⟨k,v,rfl,s⟩:=hrel
   by_cases hlt:k<b.size
   ·have f:=Dv b k
    have g:=oM b k hlt;rw[g]at f;have o:Hid _:=g;clear g;cases h3:Lx.capital (b[k].toNat:Int)
    ·have l:Hid _:=h3
     clear h3;cases h4:Lx.digit (b[k].toNat:Int)
     ·have n:Hid _:=h4
      clear h4
      go_wp2_with (first
       | (go_at_call 117;refine(Fb _ _ (by omega) (by omega)).mono ?_;rintro e w'⟨rfl,c⟩;obtain rfl:=c.symm;rw[l.out])
       | (go_at_call 156;refine(Iw _ _ (by omega) (by omega)).mono ?_;rintro e w'⟨rfl,c⟩;obtain rfl:=c.symm;rw[n.out]))
      go_ret;exact⟨iY (Y2 hlt (by rw[o.out];exact l.out) (by rw[o.out];exact n.out)).symm,rfl⟩
     ·have n:Hid _:=h4
      clear h4
      go_wp2_with (first
       | (go_at_call 117;refine(Fb _ _ (by omega) (by omega)).mono ?_;rintro e w'⟨rfl,c⟩;obtain rfl:=c.symm;rw[l.out])
       | (go_at_call 156;refine(Iw _ _ (by omega) (by omega)).mono ?_;rintro e w'⟨rfl,c⟩;obtain rfl:=c.symm;rw[n.out]))
      refine⟨⟨k+1,by omega,by go_num,?_⟩,by simp[intOf];omega⟩;intro j q
      by_cases hjk:j=k
      ·subst hjk;rw[o.out,n.out];simp
      ·exact s.out j (by omega)
    ·have l:Hid _:=h3
     clear h3
     go_wp2_with (first
      | (go_at_call 117;refine(Fb _ _ (by omega) (by omega)).mono ?_;rintro e w'⟨rfl,c⟩;obtain rfl:=c.symm;rw[l.out]))
     refine⟨⟨k+1,by omega,by go_num,?_⟩,by simp[intOf];omega⟩;intro j q
     by_cases hjk:j=k
     ·subst hjk;rw[o.out,l.out];simp
     ·exact s.out j (by omega)
   ·go_wp2_with fail
    go_ret;exact⟨iY (ZX a (by omega) (by rw[oM b 0 a];exact r.out) (fun j q=>s.out j (by omega))).symm,rfl⟩
theorem Dt(b:ByteArray)(w:World)(c:b.size<=2000):
  Calls prog 72 #[.string b] w fun e w'=>e=.returned (.bool (Lx.isName b))/\w'=w:=by
 go_enter func72,ntmps72
 go_wp2_with (go_at_call 115;refine(afr _ _ c).mono ?_;rintro e w'⟨rfl,a⟩;obtain rfl:=a.symm)
 go_ret;exact⟨rfl,rfl⟩
theorem Mf(b:ByteArray)(w:World)(c:b.size<=2000):
  Calls prog 74 #[.string b] w fun e w'=>e=.returned (.bool (Lx.isToken b))/\w'=w:=by
 go_enter func74,ntmps74
 go_wp2_with (go_at_call 115;refine(afm _ _ c).mono ?_;rintro e w'⟨rfl,a⟩;obtain rfl:=a.symm)
 go_ret;exact⟨rfl,rfl⟩
end
end Go.Proofs.YtagkodkijkpemaaGreatDoor
namespace Go.Proofs
open Go.Shelf
def Tryz.afV:Go.Shelf.Ren:=⟨fun | 316=>89 | n=>n,fun | 9=>9 | 3=>3 | 4=>4 | 37=>112 | 0=>0 | 127=>271 | 5=>5 | n=>n,fun | n=>n⟩
theorem Tryz.ajK:Go.Proofs.LaysM.n316 prog Tryz.afV:={
 mixed:=by kernel_rfl
 f316:=func89.trans (congrArg some (by kernel_rfl))
 t0:=underlying0
 a0:=Tryz.isAgg0
 z0:=Tryz.sizeOf0
 v0:=Tryz.zeroValue0
 t3:=underlying3
 a3:=Tryz.isAgg3
 z3:=Tryz.sizeOf3
 v3:=Tryz.zeroValue3
 t4:=underlying4
 a4:=Tryz.isAgg4
 z4:=Tryz.sizeOf4
 v4:=Tryz.zeroValue4
 t9:=underlying9
 a9:=Tryz.isAgg9
 z9:=Tryz.sizeOf9
 v9:=Tryz.zeroValue9
 t37:=underlying112
 a37:=Tryz.isAgg112
 z37:=Tryz.sizeOf112
 v37:=Tryz.zeroValue112
 t127:=underlying271
 a127:=Tryz.isAgg271
 z127:=Tryz.sizeOf271
 v127:=Tryz.zeroValue271
 t5:=underlying5
 a5:=Tryz.isAgg5
 z5:=Tryz.sizeOf5
 v5:=Tryz.zeroValue5
 i0:=by kernel_rfl
 i3:=by kernel_rfl
 i4:=by kernel_rfl
 i5:=by kernel_rfl
 i9:=by kernel_rfl
 i37:=by kernel_rfl
 i127:=by kernel_rfl }
open Go.RowKit in
theorem Tryz.stringslite_Clone(s:ByteArray)(w:World)(a:s.size<=281474976710656):
  Calls prog 89 #[.string s] w fun e w'=>e=.returned (.string s)/\Below w.heap.size w w':=Any.stringslite_Clone Tryz.ajK s w a
end Go.Proofs
namespace Go.Proofs.YtagkodkijkpemaaGreatDoor
namespace Lx
end Lx
open Lx Go.Proofs.Tryz
open Go.RowKit Tr
section
open Go.RowKit
open Lx (Tk)
theorem alq(s:ByteArray)(w:World)(a:s.size<=281474976710656):
  Calls prog 89 #[.string s] w fun e w'=>e=.returned (.string s)/\Below w.heap.size w w':=Tryz.stringslite_Clone s w a
theorem MG(s:ByteArray)(w:World)(a:s.size<=2000):
  Calls prog 57 #[.string s] w fun e w'=>e=.returned (.string s)/\Below w.heap.size w w':=by
 go_enter func57,ntmps57
 go_wp2_with (go_at_call 89;refine(alq _ _ (by omega)).mono ?_;rintro e w'⟨rfl,b⟩)
 go_ret;exact⟨rfl,b⟩
theorem Im{w w':World}(h:Below w.heap.size w w')(r:Option Nat):w.grownBy w' r:=⟨h.os,h.tape,h.output,h.size,fun k a _=>h.block k a⟩
theorem Rd.below{b a:Nat}{L:List Tk}{p:Nat}{w w':World}{ts:List Tk}{o:Int}(h:Rd b a L p w ts o)(c:Below w.heap.size w w'):Rd b a L p w' ts o :=
 h.grown (Im c none) (by simp) (by simp)
theorem ait{b:ByteArray}(h:Lx.isName b=true):b≠aW:=by
 intro e;subst e;revert h;decide
theorem ahe{b:ByteArray}(h:Lx.isToken b=true):b≠aW:=by
 intro e;subst e;revert h;decide
theorem ZY{j b:Nat}{L:List Tk}{p:Nat}{w:World}{ts:List Tk}{o:Int}(h:Rd j b L p w ts o):
  Calls prog 174 #[.pointer (some ⟨p,0,none⟩),.func (.func 72) #[] #[]] w (Ends j b L p o N9 w (eT Lx.isName ts)):=by
 have hsz:=h.hsz;cases hd:Lx.isName (Lx.hd ts)
 ·have c:eT Lx.isName ts=.error (2,Lx.pl ts):=dt (by rw[hd];simp)
  have g:Hid _:=hd;have f:Hid _:=c;clear hd c;go_enter func174,ntmps174
  go_wp2_with (first
   | (go_at_call 111;refine(oQ h).mono ?_;rintro e d⟨rfl,a⟩;obtain rfl:=a.symm)
   | (go_at_call 72;refine(Dt _ _ hsz).mono ?_;rintro e d⟨rfl,a⟩;obtain rfl:=a.symm;rw[g.out])
   | (go_at_call 175;refine(MQ h 2).mono ?_;rintro e d⟨rfl,a⟩;obtain rfl:=a.symm))
  exact⟨rfl,Ends.no f.out (IB _ _)⟩
 ·have c:eT Lx.isName ts=.ok (Lx.hd ts,ts.tail):=dj hd
  have l:Hid (Lx.hd ts≠aW):=ait hd;have g:Hid _:=hd;have f:Hid _:=c;clear hd c;go_enter func174,ntmps174
  go_wp2_with (first
   | (go_at_call 111;refine(oQ h).mono ?_;rintro e d⟨rfl,a⟩;obtain rfl:=a.symm)
   | (go_at_call 72;refine(Dt _ _ hsz).mono ?_;rintro e d⟨rfl,a⟩;obtain rfl:=a.symm;rw[g.out])
   | (go_at_call 150;refine(DF h l.out).mono ?_;rintro e w1⟨rfl,m,k⟩)
   | (go_at_call 57;refine(MG _ _ hsz).mono ?_;rintro e w2⟨rfl,i⟩))
  go_ret;exact Ends.yes f.out (aR m (Im i _)) (k.below i) rfl
theorem abU{j c:Nat}{L:List Tk}{p:Nat}{w:World}{ts:List Tk}{o:Int}(h:Rd j c L p w ts o):
  Calls prog 153 #[.pointer (some ⟨p,0,none⟩)] w (Ends j c L p o N9 w (eT Lx.isName ts)):=by
 cases hr:eT Lx.isName ts with
 |error x=>
  obtain⟨n,a⟩:=x;have g:Hid _:=hr;clear hr;go_enter func153,ntmps153
  go_wp2_with (go_at_call 174;refine(ZY h).mono ?_;intro e k f;obtain⟨rfl,d⟩:=f.err g.out)
  exact⟨rfl,Ends.no rfl d⟩
 |ok x=>
  obtain⟨b,l⟩:=x;have g:Hid _:=hr;clear hr;go_enter func153,ntmps153
  go_wp2_with (go_at_call 174;refine(ZY h).mono ?_;intro e k f;obtain⟨v,rfl,d,i,rfl⟩:=f.ok g.out)
  go_ret;exact Ends.yes rfl d i rfl
theorem Y3{j b:Nat}{L:List Tk}{p:Nat}{w:World}{ts:List Tk}{o:Int}(h:Rd j b L p w ts o):
  Calls prog 174 #[.pointer (some ⟨p,0,none⟩),.func (.func 74) #[] #[]] w (Ends j b L p o N9 w (eT Lx.isToken ts)):=by
 have hsz:=h.hsz;cases hd:Lx.isToken (Lx.hd ts)
 ·have c:eT Lx.isToken ts=.error (2,Lx.pl ts):=dt (by rw[hd];simp)
  have g:Hid _:=hd;have f:Hid _:=c;clear hd c;go_enter func174,ntmps174
  go_wp2_with (first
   | (go_at_call 111;refine(oQ h).mono ?_;rintro e d⟨rfl,a⟩;obtain rfl:=a.symm)
   | (go_at_call 74;refine(Mf _ _ hsz).mono ?_;rintro e d⟨rfl,a⟩;obtain rfl:=a.symm;rw[g.out])
   | (go_at_call 175;refine(MQ h 2).mono ?_;rintro e d⟨rfl,a⟩;obtain rfl:=a.symm))
  exact⟨rfl,Ends.no f.out (IB _ _)⟩
 ·have c:eT Lx.isToken ts=.ok (Lx.hd ts,ts.tail):=dj hd
  have l:Hid (Lx.hd ts≠aW):=ahe hd;have g:Hid _:=hd;have f:Hid _:=c;clear hd c;go_enter func174,ntmps174
  go_wp2_with (first
   | (go_at_call 111;refine(oQ h).mono ?_;rintro e d⟨rfl,a⟩;obtain rfl:=a.symm)
   | (go_at_call 74;refine(Mf _ _ hsz).mono ?_;rintro e d⟨rfl,a⟩;obtain rfl:=a.symm;rw[g.out])
   | (go_at_call 150;refine(DF h l.out).mono ?_;rintro e w1⟨rfl,m,k⟩)
   | (go_at_call 57;refine(MG _ _ hsz).mono ?_;rintro e w2⟨rfl,i⟩))
  go_ret;exact Ends.yes f.out (aR m (Im i _)) (k.below i) rfl
theorem Bw{j c:Nat}{L:List Tk}{p:Nat}{w:World}{ts:List Tk}{o:Int}(h:Rd j c L p w ts o):
  Calls prog 151 #[.pointer (some ⟨p,0,none⟩)] w (Ends j c L p o N9 w (eT Lx.isToken ts)):=by
 cases hr:eT Lx.isToken ts with
 |error x=>
  obtain⟨n,a⟩:=x;have g:Hid _:=hr;clear hr;go_enter func151,ntmps151
  go_wp2_with (go_at_call 174;refine(Y3 h).mono ?_;intro e k f;obtain⟨rfl,d⟩:=f.err g.out)
  exact⟨rfl,Ends.no rfl d⟩
 |ok x=>
  obtain⟨b,l⟩:=x;have g:Hid _:=hr;clear hr;go_enter func151,ntmps151
  go_wp2_with (go_at_call 174;refine(Y3 h).mono ?_;intro e k f;obtain⟨v,rfl,d,i,rfl⟩:=f.ok g.out)
  go_ret;exact Ends.yes rfl d i rfl
end
section
open Go.RowKit
open Lx (Tk)
theorem Ad{a:ByteArray}{l:List UInt8}(h:a≠⟨l.toArray⟩):(a.toList == l)=false:=by
 rw[uC];exact fY.2 fun e=>h (yd (by rw[<-e]))
theorem SA{j g:Nat}{L:List Tk}{p:Nat}{w:World}{ts:List Tk}{o:Int}(h:Rd j g L p w ts o):
  Calls prog 204 #[.pointer (some ⟨p,0,none⟩)] w fun e w'=>e=.returned (.int .u8 ((dJ ts).1:Int))/\w.grownBy w' (some p)/\Rd j g L p w' (dJ ts).2 o:=by
 by_cases h1:Lx.hd ts=adL
 ·have a:Hid (dJ ts=(42,ts.tail)):=dj h1
  have d:Hid (Lx.hd ts≠aW):=by rw[h1];show _≠_;decide
  have i:Hid (Lx.hd ts=⟨#[42]⟩):=h1;clear h1;go_enter func204,ntmps204
  go_wp2_with (first
   | (go_at_call 111;refine(oQ h).mono ?_;rintro e w'⟨rfl,b⟩;obtain rfl:=b.symm;rw[i.out])
   | (go_at_call 150;refine(DF h d.out).mono ?_;rintro e w1⟨rfl,f,c⟩))
  go_ret;rw[a.out];exact⟨rfl,f,c⟩
 by_cases h2:Lx.hd ts=adM
 ·have a:Hid (dJ ts=(43,ts.tail)):=by show _=_;unfold dJ;rw[dt h1,dj h2]
  have d:Hid (Lx.hd ts≠aW):=by rw[h2];show _≠_;decide
  have i:Hid (Lx.hd ts=⟨#[43]⟩):=h2;clear h1 h2;go_enter func204,ntmps204
  go_wp2_with (first
   | (go_at_call 111;refine(oQ h).mono ?_;rintro e w'⟨rfl,b⟩;obtain rfl:=b.symm;rw[i.out])
   | (go_at_call 150;refine(DF h d.out).mono ?_;rintro e w1⟨rfl,f,c⟩))
  go_ret;rw[a.out];exact⟨rfl,f,c⟩
 by_cases h3:Lx.hd ts=aec
 ·have a:Hid (dJ ts=(63,ts.tail)):=by show _=_;unfold dJ;rw[dt h1,dt h2,dj h3]
  have d:Hid (Lx.hd ts≠aW):=by rw[h3];show _≠_;decide
  have i:Hid (Lx.hd ts=⟨#[63]⟩):=h3;clear h1 h2 h3;go_enter func204,ntmps204
  go_wp2_with (first
   | (go_at_call 111;refine(oQ h).mono ?_;rintro e w'⟨rfl,b⟩;obtain rfl:=b.symm;rw[i.out])
   | (go_at_call 150;refine(DF h d.out).mono ?_;rintro e w1⟨rfl,f,c⟩))
  go_ret;rw[a.out];exact⟨rfl,f,c⟩
 have a:Hid (dJ ts=(0,ts)):=by show _=_;unfold dJ;rw[dt h1,dt h2,dt h3]
 have l:((Lx.hd ts).toList == [42])=false:=Ad h1;have m:((Lx.hd ts).toList == [43])=false:=Ad h2;have k:((Lx.hd ts).toList == [63])=false:=Ad h3;clear h1 h2 h3;go_enter func204,ntmps204
 go_wp2_with (first
  | (go_at_call 111;refine(oQ h).mono ?_;rintro e w'⟨rfl,b⟩;obtain rfl:=b.symm))
 go_ret;rw[a.out];exact⟨rfl,IB _ _,h⟩
theorem Ip(b:ByteArray)(w:World):
  Calls prog 110 #[.string b] w fun e w'=>e=.returned (.int .i64 (iL b))/\w'=w:=by
 by_cases h1:b=N7
 ·subst h1
  unfold N7;go_enter func110,ntmps110
  go_wp2
  go_ret;exact⟨rfl,rfl⟩
 by_cases h2:b=NS
 ·subst h2
  unfold NS;go_enter func110,ntmps110
  go_wp2
  go_ret;exact⟨rfl,rfl⟩
 by_cases h3:b=N8
 ·subst h3
  unfold N8;go_enter func110,ntmps110
  go_wp2
  go_ret;exact⟨rfl,rfl⟩
 have a:Hid (iL b=-1):=by show _=_;unfold iL;rw[dt h1,dt h2,dt h3]
 have d:(b.toList == [37,108,101,102,116])=false:=Ad h1;have f:(b.toList == [37,114,105,103,104,116])=false:=Ad h2;have c:(b.toList == [37,110,111,110,101])=false:=Ad h3;clear h1 h2 h3;go_enter func110,ntmps110
 go_wp2
 go_ret;rw[a.out];exact⟨rfl,rfl⟩
theorem Iy{g d:Nat}{L:List Tk}{p:Nat}{w:World}{ts:List Tk}{o:Int}(h:Rd g d L p w ts o):
  Calls prog 192 #[.pointer (some ⟨p,0,none⟩)] w fun e w'=>e=.returned (.bool (rM ts))/\w'=w:=by
 have hsz:=h.hsz;cases h1:decide (Lx.hd ts=mM)
 ·cases h2:Lx.isName (Lx.hd ts)
  ·have b:Hid (rM ts=Lx.isToken (Lx.hd ts)):=by show _=_;unfold rM;rw[h1,h2];simp
   have c:Hid _:=h1;have f:Hid _:=h2;clear h1 h2;go_enter func192,ntmps192
   go_wp2_with (first
    | (go_at_call 111;refine(oQ h).mono ?_;rintro e w'⟨rfl,a⟩;obtain rfl:=a.symm)
    | (go_at_call 114;refine(wU h mM).mono ?_;rintro e w'⟨rfl,a⟩;obtain rfl:=a.symm;rw[c.out])
    | (go_at_call 72;refine(Dt _ _ hsz).mono ?_;rintro e w'⟨rfl,a⟩;obtain rfl:=a.symm;rw[f.out])
    | (go_at_call 74;refine(Mf _ _ hsz).mono ?_;rintro e w'⟨rfl,a⟩;obtain rfl:=a.symm))
   go_ret;rw[b.out];exact⟨rfl,rfl⟩
  ·have b:Hid (rM ts=true):=by show _=_;unfold rM;rw[h1,h2];simp
   have c:Hid _:=h1;have f:Hid _:=h2;clear h1 h2;go_enter func192,ntmps192
   go_wp2_with (first
    | (go_at_call 111;refine(oQ h).mono ?_;rintro e w'⟨rfl,a⟩;obtain rfl:=a.symm)
    | (go_at_call 114;refine(wU h mM).mono ?_;rintro e w'⟨rfl,a⟩;obtain rfl:=a.symm;rw[c.out])
    | (go_at_call 72;refine(Dt _ _ hsz).mono ?_;rintro e w'⟨rfl,a⟩;obtain rfl:=a.symm;rw[f.out]))
   go_ret;rw[b.out];exact⟨rfl,rfl⟩
 ·have b:Hid (rM ts=true):=by show _=_;unfold rM;rw[h1];simp
  have c:Hid _:=h1;clear h1;go_enter func192,ntmps192
  go_wp2_with (first
   | (go_at_call 114;refine(wU h mM).mono ?_;rintro e w'⟨rfl,a⟩;obtain rfl:=a.symm;rw[c.out]))
  go_ret;rw[b.out];exact⟨rfl,rfl⟩
end
namespace Tr
def In(a b:Nat):Nat->Prop:=fun g=>a<=g/\g<b
theorem jb{w:World}{base a e size:Nat}{v:Value}{n:Nat}{d:List Value}(h:w.ownsRow base e size v n d)(i:a<=base):w.ownsRow a e size v n d:=by
 refine⟨h.1,?_⟩;rcases h.2 with f|⟨g,c,b,k,j,r⟩
 ·exact .inl f
 ·exact .inr ⟨g,c,b,k,de i j,r⟩
theorem aD{w w':World}{base e size:Nat}{v:Value}{n:Nat}{c:List Value}(h:w.ownsRow base e size v n c)(j:∀g,v.ownBlock=some g->w'.heap[g]?=w.heap[g]?):w'.ownsRow base e size v n c:=by
 refine⟨h.1,?_⟩;rcases h.2 with f|⟨g,b,a,d,i,k,r⟩
 ·exact .inl f
 ·refine .inr ⟨g,b,a,d,i,?_,r⟩
  rw[j g (by rw[d];rfl)];exact k
section
variable{α:Type}
def Seq(F:Nat->Prop)(w:World)(e s:Nat)(c:Value×α->List Value)(K:Value->α->Prop)(v:Value)(l:List α):Prop :=
 ∃ps:List (Value×α),ps.map Prod.snd=l/\w.ownsRow 0 e s v l.length (ps.flatMap c)/\(∀g,v.ownBlock=some g->F g)/\∀q,q∈ps->K q.1 q.2
theorem Seq.nil(F:Nat->Prop)(w:World)(e s:Nat)(c:Value×α->List Value)(K:Value->α->Prop):Seq F w e s c K (.slice none 0 0) [] :=
 ⟨[],rfl,eQ _ _ _ _,fun g h=>by simp[Value.ownBlock]at h,fun q h=>by simp at h⟩
theorem Seq.move{F f:Nat->Prop}{w w':World}{e s:Nat}{c:Value×α->List Value}{K d:Value->α->Prop}{v:Value}{l:List α}(h:Seq F w e s c K v l)
  (m:∀b,F b->w'.heap[b]?=w.heap[b]?) (j:∀b,F b->f b) (n:∀v x,K v x->d v x):Seq f w' e s c d v l:=by
 obtain⟨k,h1,h2,h3,h4⟩:=h;exact⟨k,h1,aD h2 fun g a=>m g (h3 g a),fun g a=>j g (h3 g a),fun q i=>n _ _ (h4 q i)⟩
def sW(K:(Nat->Prop)->World->Value->α->Prop):Prop :=
 ∀(F F':Nat->Prop)(w w':World)v x,(∀b,F b->w'.heap[b]?=w.heap[b]?)->(∀b,F b->F' b)->K F w v x->K F' w' v x
def yP(B:Nat)(w:World)(e s:Nat)(c:Value×α->List Value)(K:(Nat->Prop)->World->Value->α->Prop)(v:Value)(l:List α)(ps:List (Value×α))(F:Nat->Prop):Prop :=
 ps.map Prod.snd=l/\w.ownsRow B e s v l.length (ps.flatMap c)/\(∀q,q∈ps->K F w q.1 q.2)/\(∀b,F b->B<=b/\b<w.heap.size)/\∀g,v.ownBlock=some g->¬F g
def Grow(B:Nat)(w:World)(e s:Nat)(c:Value×α->List Value)(K:(Nat->Prop)->World->Value->α->Prop)(v:Value)(l:List α):Prop:=∃ps F,yP B w e s c K v l ps F
variable{B:Nat}{w w':World}{e s:Nat}{c:Value×α -> List Value}{K:(Nat -> Prop) -> World -> Value -> α -> Prop}{v:Value}{l:List α}{ps:List (Value×α)}{F:Nat -> Prop}
theorem Grow.nil(B:Nat)(w:World)(e s:Nat)(c:Value×α->List Value)(K:(Nat->Prop)->World->Value->α->Prop):Grow B w e s c K (.slice none 0 0) [] :=
 ⟨[],fun _=>False,rfl,eQ _ _ _ _,fun q h=>by simp at h,fun b h=>h.elim,fun _ _ h=>h⟩
theorem yP.kept(p:sW K)(h:yP B w e s c K v l ps F){r:Option Nat}(j:w.grownBy w' r)(m:∀k,r=some k->k<B):yP B w' e s c K v l ps F:=by
 obtain⟨h1,h2,h3,h4,o⟩:=h;have i:∀b,B<=b->b<w.heap.size->w'.heap[b]?=w.heap[b]?:=fun b i f=>j.block b f fun e=>by have:=m b e.symm;omega
 refine⟨h1,aD h2 fun g a=>i g (h2.lt g a).1 (h2.lt g a).2,fun q n=>p F F w w' _ _ (fun b d=>i b (h4 b d).1 (h4 b d).2) (fun _ h=>h) (h3 q n),fun b d=>⟨(h4 b d).1,dd (h4 b d).2 j.size⟩,o⟩
theorem Grow.kept(d:sW K)(h:Grow B w e s c K v l){r:Option Nat}(a:w.grownBy w' r)(b:∀k,r=some k->k<B):Grow B w' e s c K v l :=
 let ⟨ps,F,h'⟩:=h;⟨ps,F,h'.kept d a b⟩
theorem Grow.seq(d:sW K)(h:Grow B w e s c K v l):Seq (In B w.heap.size) w e s c (K (In B w.heap.size) w) v l:=by
 obtain⟨ps,F,h1,h2,h3,h4,f⟩:=h;exact⟨ps,h1,jb h2 (ff _),fun g a=>h2.lt g a,fun q b=>d F _ w w _ _ (fun _ _=>rfl) h4 (h3 q b)⟩
theorem yP.push(u:sW K)(h:yP B w e s c K v l ps F){p:Nat}(J:p<B)(I:B<=w.heap.size){w1 w2 w3:World}(x:w.grownBy w1 (some p))(q:Value×α)
  (z:K (In w.heap.size w1.heap.size) w1 q.1 q.2) (r:w1.grownBy w2 none) {g i:Nat} (D:w3.ownsRow B e s (.slice (some ⟨g,0,none⟩) (l.length+1) i) (l.length+1) (ps.flatMap c++c q))
  (o:w2.grownBy w3 v.ownBlock) (a:v.ownBlock=some g\/g=w2.heap.size):Grow B w3 e s c K (.slice (some ⟨g,0,none⟩) (l.length+1) i) (l++[q.2]):=by
 obtain⟨h1,h2,h3,h4,t⟩:=h;have L:=x.size;have G:=r.size;have H:=o.size;have y:∀b,F b->w3.heap[b]?=w.heap[b]?:=fun b j=>by
  have d:=h4 b j;rw[o.block b (by omega) (fun e=>t b e.symm j),r.block b (by omega) (by simp),x.block b d.2 (fun e=>by cases e;omega)]
 have A:∀b,In w.heap.size w1.heap.size b->w3.heap[b]?=w1.heap[b]?:=fun b f=>by
  rw[o.block b (by have:=f.2;omega) (fun e=>by have:=(h2.lt b e.symm).2;have:=f.1;omega),r.block b f.2 (by simp)]
 refine⟨ps++[q],fun b=>F b\/In w.heap.size w1.heap.size b,?_,?_,?_,?_,?_⟩
 ·rw[eJ,h1];rfl
 ·rw[gw,cH];simpa using D
 ·intro C n
  rcases cY.1 n with k|k
  ·exact u F _ w w3 _ _ y (fun _ h=>.inl h) (h3 C k)
  ·simp at k;subst k
   exact u _ _ w1 w3 _ _ A (fun _ h=>.inr h) z
 ·intro b d
  rcases d with d|d
  ·have:=h4 b d;omega
  ·have:=d.1;have:=d.2;omega
 ·intro E m
  have:g=E:=by simpa [Value.ownBlock]using m
  subst this;rintro(j | f)
  ·rcases a with a | a
   ·exact t _ a j
   ·have:=h4 _ j;omega
  ·rcases a with a | a
   ·have:=(h2.lt _ a).2;have:=f.1;omega
   ·have:=f.2;omega
end
structure Lay where
 eA:Nat
 sA:Nat
 cA:Value×Lx.Alt->List Value
 eI:Nat
 sI:Nat
 cI:Value×Lx.It->List Value
def wV(Y:Lay)(A:Value->List Lx.Alt->Prop)(F:Nat->Prop)(w:World)(v:Value)(l:List Lx.It):Prop :=
 Seq F w Y.eI Y.sI Y.cI (fun va it=>A va it.alts) v l
def aO(Y:Lay):Nat->(Nat->Prop)->World->Value->List Lx.Alt->Prop
 |0,_,_,v,l=>v=.slice none 0 0/\l=[]
 |d+1,F,w,v,l=>Seq F w Y.eA Y.sA Y.cA (fun vi a=>wV Y (aO Y d F w) F w vi a.1) v l
def jH(Y:Lay)(d:Nat)(F:Nat->Prop)(w:World)(v:Value)(l:List Lx.It):Prop:=wV Y (aO Y d F w) F w v l
theorem aO.nil(Y:Lay)(d:Nat)(F:Nat->Prop)(w:World):aO Y d F w (.slice none 0 0) []:=by
 cases d with
 |zero=>exact⟨rfl,rfl⟩
 |succ d=>exact Seq.nil _ _ _ _ _ _
theorem Fy{w:World}{base e size:Nat}{v:Value}{n:Nat}{d:List Value}(h:w.ownsRow base e size v n d):∃a k c,v=.slice a k c:=by
 rcases h.2 with ⟨rfl,_⟩|⟨g,f,b,rfl,_⟩
 ·exact⟨_,_,_,rfl⟩
 ·exact⟨_,_,_,rfl⟩
theorem Seq.form{α:Type}{F:Nat->Prop}{w:World}{e s:Nat}{c:Value×α->List Value}{K:Value->α->Prop}{v:Value}{l:List α}(h:Seq F w e s c K v l):∃a k c,v=.slice a k c:=by
 obtain⟨b,_,h2,_⟩:=h;exact Fy h2
theorem aO.form{Y:Lay}{d:Nat}{F:Nat->Prop}{w:World}{v:Value}{l:List Lx.Alt}(h:aO Y d F w v l):∃a k c,v=.slice a k c:=by
 cases d with
 |zero=>exact⟨_,_,_,h.1⟩
 |succ d=>exact Seq.form h
theorem aO.move{Y:Lay}{F g:Nat->Prop}{w w':World}(f:∀b,F b->w'.heap[b]?=w.heap[b]?)(c:∀b,F b->g b):∀{d:Nat}{v:Value}{l:List Lx.Alt},aO Y d F w v l->aO Y d g w' v l
 |0,_,_,h=>h
 |d+1,_,_,h=>Seq.move (K:=fun j(a:Lx.Alt)=>wV Y (aO Y d F w) F w j a.1) h f c fun _ _ i=>Seq.move (K:=fun n(m:Lx.It)=>aO Y d F w n m.alts) i f c fun _ _ k=>aO.move f c k
theorem jH.move{Y:Lay}{d:Nat}{F f:Nat->Prop}{w w':World}(c:∀b,F b->w'.heap[b]?=w.heap[b]?)(a:∀b,F b->f b){v:Value}{l:List Lx.It}(h:jH Y d F w v l):jH Y d f w' v l :=
 Seq.move (K:=fun j(i:Lx.It)=>aO Y d F w j i.alts) h c a fun _ _ g=>aO.move c a g
end Tr
namespace Tr
def Sep(Fs:List (Nat->Prop)):Prop:=Fs.Pairwise fun A B=>∀b,A b->B b->False
theorem ajL{a:List (Nat->Prop)}(h:Sep a){B:Nat->Prop}(d:∀A,A∈a->∀b,A b->B b->False):Sep (a++[B]):=by
 unfold Sep at *;rw[pj];exact⟨h,mC _ _,fun A f C c=>by simp only[List.mem_singleton]at c;subst c;exact d A f⟩
section
variable{α:Type}
def dV(F:Nat->Prop)(w:World)(e s:Nat)(c:Value×α->List Value)(K:(Nat->Prop)->World->Value->α->Prop)(v:Value)(l:List α):Prop :=
 ∃(ps:List (Value×α))(Fs:List (Nat->Prop)),ps.map Prod.snd=l/\w.ownsRow 0 e s v l.length (ps.flatMap c)/\(∀g,v.ownBlock=some g->F g/\∀A,A∈Fs->¬A g)/\(∀A,A∈Fs->∀b,A b->F b)/\Sep Fs/\Fs.length=ps.length/\∀(j:Nat)(q:Value×α)(A:Nat->Prop),ps[j]?=some q->Fs[j]?=some A->K A w q.1 q.2
theorem dV.nil(F:Nat->Prop)(w:World)(e s:Nat)(c:Value×α->List Value)(K:(Nat->Prop)->World->Value->α->Prop):dV F w e s c K (.slice none 0 0) [] :=
 ⟨[],[],rfl,eQ _ _ _ _,(fun g h=>by simp[Value.ownBlock]at h),(fun A h=>by cases h),oE,rfl,(fun j q A h=>by simp at h)⟩
theorem dV.move{F i:Nat->Prop}{w w':World}{e s:Nat}{c:Value×α->List Value}{K d:(Nat->Prop)->World->Value->α->Prop}{v:Value}{l:List α}(h:dV F w e s c K v l)
  (u:∀b,F b->w'.heap[b]?=w.heap[b]?) (f:∀b,F b->i b) (y:∀A v x,(∀b,A b->F b)->K A w v x->d A w' v x):dV i w' e s c d v l:=by
 obtain⟨t,o,h1,h2,h3,h4,r,n,k⟩:=h;exact⟨t,o,h1,aD h2 fun g a=>u g (h3 g a).1,fun g a=>⟨f g (h3 g a).1,(h3 g a).2⟩,fun A hA b p=>f b (h4 A hA b p),r,n,fun j q A m hA=>y A _ _ (h4 A (cJ hA)) (k j q A m hA)⟩
theorem dV.form{F:Nat->Prop}{w:World}{e s:Nat}{c:Value×α->List Value}{K:(Nat->Prop)->World->Value->α->Prop}{v:Value}{l:List α}(h:dV F w e s c K v l):∃a k c,v=.slice a k c:=by
 obtain⟨d,b,_,h2,_⟩:=h;exact Fy h2
def wW(B:Nat)(w:World)(e s:Nat)(c:Value×α->List Value)(K:(Nat->Prop)->World->Value->α->Prop)(v:Value)(l:List α)(ps:List (Value×α))(Fs:List (Nat->Prop)):Prop :=
 ps.map Prod.snd=l/\w.ownsRow B e s v l.length (ps.flatMap c)/\(∀(j:Nat)(q:Value×α)(A:Nat->Prop),ps[j]?=some q->Fs[j]?=some A->K A w q.1 q.2)/\(∀A,A∈Fs->∀b,A b->B<=b/\b<w.heap.size)/\(∀g,v.ownBlock=some g->∀A,A∈Fs->¬A g)/\Sep Fs/\Fs.length=ps.length
def mP(B:Nat)(w:World)(e s:Nat)(c:Value×α->List Value)(K:(Nat->Prop)->World->Value->α->Prop)(v:Value)(l:List α):Prop:=∃ps Fs,wW B w e s c K v l ps Fs
variable{B:Nat}{w w':World}{e s:Nat}{c:Value×α -> List Value}{K:(Nat -> Prop) -> World -> Value -> α -> Prop}{v:Value}{l:List α}{ps:List (Value×α)}{Fs:List (Nat -> Prop)}
theorem mP.nil(B:Nat)(w:World)(e s:Nat)(c:Value×α->List Value)(K:(Nat->Prop)->World->Value->α->Prop):mP B w e s c K (.slice none 0 0) [] :=
 ⟨[],[],rfl,eQ _ _ _ _,(fun j q A h=>by simp at h),(fun A h=>by cases h),(fun g h=>by simp[Value.ownBlock]at h),oE,rfl⟩
theorem wW.kept(y:sW K)(h:wW B w e s c K v l ps Fs){r:Option Nat}(n:w.grownBy w' r)(o:∀k,r=some k->k<B):wW B w' e s c K v l ps Fs:=by
 obtain⟨h1,h2,h3,h4,x,u,p⟩:=h;have m:∀b,B<=b->b<w.heap.size->w'.heap[b]?=w.heap[b]?:=fun b m i=>n.block b i fun e=>by have:=o b e.symm;omega
 refine⟨h1,aD h2 fun g a=>m g (h2.lt g a).1 (h2.lt g a).2,fun j q A t hA=>?_,fun A hA b f=>⟨(h4 A hA b f).1,dd (h4 A hA b f).2 n.size⟩,x,u,p⟩;have d:=cJ hA;exact y A A w w' _ _ (fun b f=>m b (h4 A d b f).1 (h4 A d b f).2) (fun _ h=>h) (h3 j q A t hA)
theorem mP.kept(d:sW K)(h:mP B w e s c K v l){r:Option Nat}(a:w.grownBy w' r)(b:∀k,r=some k->k<B):mP B w' e s c K v l :=
 let ⟨ps,Fs,h'⟩:=h;⟨ps,Fs,h'.kept d a b⟩
theorem mP.seq(h:mP B w e s c K v l):dV (In B w.heap.size) w e s c K v l:=by
 obtain⟨ps,Fs,h1,h2,h3,h4,i,k,j⟩:=h;exact⟨ps,Fs,h1,jb h2 (ff _),fun g a=>⟨h2.lt g a,i g a⟩,fun A f b d=>h4 A f b d,k,j,h3⟩
theorem mP.one(o:sW K){w1:World}(q:Value×α)(r:B<=w.heap.size)(h1:w.heap.size<=w1.heap.size)(n:K (In w.heap.size w1.heap.size) w1 q.1 q.2)(i:(c q).length=s):
  mP B (w1.alloc (.cells (c q).toArray e)) e s c K (.slice (some ⟨w1.heap.size,0,none⟩) 1 1) [q.2]:=by
 refine⟨[q],[In w.heap.size w1.heap.size],rfl,⟨by simp[i],.inr ⟨w1.heap.size,1,(c q).toArray,rfl,by omega,ot w1 _,dy _,by unfold maxLen;omega,by simp[i],?_⟩⟩,?_,?_,?_,mC _ _,rfl⟩
 ·simp only[List.length_cons,List.length_nil,List.flatMap_cons,List.flatMap_nil,List.append_nil]
  exact zb (by omega)
 ·intro j p A d a
  cases j with
  |zero=>
   simp at d a;subst d a;exact o _ _ w1 _ _ _ (fun b f=>dg _ _ _ f.2) (fun _ h=>h) n
  |succ j=>simp at d
 ·intro A a b f
  simp only[List.mem_singleton]at a;subst a;have:=f.1;have:=f.2;simp;omega
 ·intro g k A a m
  simp only[List.mem_singleton]at a;subst a;have:w1.heap.size=g:=by simpa [Value.ownBlock]using k
  have:=m.2;omega
theorem wW.push(D:sW K)(h:wW B w e s c K v l ps Fs){p:Nat}(R:p<B)(Q:B<=w.heap.size){w1 w2 w3:World}(E:w.grownBy w1 (some p))(q:Value×α)
  (G:K (In w.heap.size w1.heap.size) w1 q.1 q.2) (r:w1.grownBy w2 none) {g k:Nat} (I:w3.ownsRow B e s (.slice (some ⟨g,0,none⟩) (l.length+1) k) (l.length+1) (ps.flatMap c++c q))
  (o:w2.grownBy w3 v.ownBlock) (d:v.ownBlock=some g\/g=w2.heap.size):mP B w3 e s c K (.slice (some ⟨g,0,none⟩) (l.length+1) k) (l++[q.2]):=by
 obtain⟨h1,h2,h3,h4,C,L,z⟩:=h;have O:=E.size;have N:=r.size;have P:=o.size;have F:∀A,A∈Fs->∀b,A b->w3.heap[b]?=w.heap[b]?:=fun A hA b f=>by
  have i:=h4 A hA b f;rw[o.block b (by omega) (fun e=>C b e.symm A hA f),r.block b (by omega) (by simp),E.block b i.2 (fun e=>by cases e;omega)]
 have H:∀b,In w.heap.size w1.heap.size b->w3.heap[b]?=w1.heap[b]?:=fun b y=>by
  rw[o.block b (by have:=y.2;omega) (fun e=>by have:=(h2.lt b e.symm).2;have:=y.1;omega),r.block b y.2 (by simp)]
 refine⟨ps++[q],Fs++[In w.heap.size w1.heap.size],?_,?_,?_,?_,?_,?_,by simp[z]⟩
 ·rw[eJ,h1];rfl
 ·rw[gw,cH];simpa using I
 ·intro j M A a hA
  rcases pt j ps.length with t|t
  ·rw[eL t]at a
   rw[eL (by omega)]at hA;exact D A A w w3 _ _ (F A (cJ hA)) (fun _ h=>h) (h3 j M A a hA)
  ·rw[eN t]at a
   rw[eN (by omega),z]at hA;cases hjj:j-ps.length with
   |zero=>
    rw[hjj]at a hA;simp at a hA;subst a hA;exact D _ _ w1 w3 _ _ H (fun _ h=>h) G
   |succ m=>rw[hjj]at a;simp at a
 ·intro A hA b i
  rcases cY.1 hA with hA|hA
  ·have:=h4 A hA b i;omega
  ·simp only[List.mem_singleton]at hA
   subst hA;have:=i.1;have:=i.2;omega
 ·intro J u A hA f
  have:g=J:=by simpa [Value.ownBlock]using u
  subst this;rcases cY.1 hA with hA|hA
  ·rcases d with d | d
   ·exact C _ d A hA f
   ·have:=h4 A hA _ f;omega
  ·simp only[List.mem_singleton]at hA
   subst hA;rcases d with d|d
   ·have:=(h2.lt _ d).2;have:=f.1;omega
   ·have:=f.2;omega
 ·refine ajL L fun A hA b x n=>?_
  have:=(h4 A hA b x).2;have:=n.1;omega
end
def eG(Y:Lay):Nat->(Nat->Prop)->World->Value->List Lx.Alt->Prop
 |0,_,_,v,l=>v=.slice none 0 0/\l=[]
 |d+1,F,w,v,l=>dV F w Y.eA Y.sA Y.cA (fun A w vi a=>dV A w Y.eI Y.sI Y.cI (fun A w va it=>eG Y d A w va it.alts) vi a.1) v l
def rO(Y:Lay)(d:Nat)(F:Nat->Prop)(w:World)(v:Value)(l:List Lx.It):Prop:=dV F w Y.eI Y.sI Y.cI (fun A w va it=>eG Y d A w va it.alts) v l
theorem eG.nil(Y:Lay)(d:Nat)(F:Nat->Prop)(w:World):eG Y d F w (.slice none 0 0) []:=by
 cases d with
 |zero=>exact⟨rfl,rfl⟩
 |succ d=>exact dV.nil _ _ _ _ _ _
theorem eG.form{Y:Lay}{d:Nat}{F:Nat->Prop}{w:World}{v:Value}{l:List Lx.Alt}(h:eG Y d F w v l):∃a k c,v=.slice a k c:=by
 cases d with
 |zero=>exact⟨_,_,_,h.1⟩
 |succ d=>exact dV.form h
theorem eG.move{Y:Lay}{w w':World}:∀{d:Nat}{F F':Nat->Prop}{v:Value}{l:List Lx.Alt},(∀b,F b->w'.heap[b]?=w.heap[b]?)->(∀b,F b->F' b)->eG Y d F w v l->eG Y d F' w' v l
 |0,_,_,_,_,_,_,h=>h
 |d+1,_,_,_,_,hs,hF,h=>dV.move (K:=fun A w k(a:Lx.Alt)=>dV A w Y.eI Y.sI Y.cI (fun A w i g=>eG Y d A w i g.alts) k a.1) h hs hF fun _ _ _ j m=>
   dV.move (K:=fun A w i(g:Lx.It)=>eG Y d A w i g.alts) m (fun b c=>hs b (j b c)) (fun _ h=>h) fun _ _ _ f n=>eG.move (fun b c=>hs b (j b (f b c))) (fun _ h=>h) n
theorem rO.move{Y:Lay}{d:Nat}{F c:Nat->Prop}{w w':World}(a:∀b,F b->w'.heap[b]?=w.heap[b]?)(j:∀b,F b->c b){v:Value}{l:List Lx.It}(h:rO Y d F w v l):rO Y d c w' v l :=
 dV.move (K:=fun A w m(i:Lx.It)=>eG Y d A w m i.alts) h a j fun _ _ _ k g=>eG.move (fun b f=>a b (k b f)) (fun _ h=>h) g
theorem Iq(Y:Lay)(d:Nat):sW (α:=Lx.It) (fun F w va it=>eG Y d F w va it.alts):=fun _ _ _ _ _ _ b a h=>eG.move b a h
theorem Md(Y:Lay)(d:Nat):sW (α:=Lx.Alt) (fun F w vi a=>rO Y d F w vi a.1):=fun _ _ _ _ _ _ c b h=>rO.move c b h
theorem dV.weak{α:Type}{F:Nat->Prop}{w:World}{e s:Nat}{c:Value×α->List Value}{K:(Nat->Prop)->World->Value->α->Prop}{d:Value->α->Prop}{v:Value}{l:List α}(h:dV F w e s c K v l)(p:∀A v x,(∀b,A b->F b)->K A w v x->d v x):Seq F w e s c d v l:=by
 obtain⟨o,a,h1,h2,h3,h4,r,t,k⟩:=h;refine⟨o,h1,h2,fun g i=>(h3 g i).1,fun q m=>?_⟩;obtain⟨j,f,rfl⟩:=lA m;have n:a[j]?=some a[j]:=cF (by omega);exact p a[j] _ _ (h4 _ (du _)) (k j _ _ (cF f) n)
theorem eG.weak{Y:Lay}{w:World}{G:Nat->Prop}:∀{d:Nat}{F:Nat->Prop}{v:Value}{l:List Lx.Alt},(∀b,F b->G b)->eG Y d F w v l->aO Y d G w v l
 |0,_,_,_,_,h=>h
 |d+1,F,v,l,hG,h=>by
  have o:Seq F w Y.eA Y.sA Y.cA (fun f a=>wV Y (aO Y d G w) G w f a.1) v l:=dV.weak h fun A f a j m=>by
   have h2:Seq A w Y.eI Y.sI Y.cI (fun k i=>aO Y d G w k i.alts) f a.1:=dV.weak m fun p k i g n=>eG.weak (fun b c=>hG b (j b (g b c))) n
   exact Seq.move h2 (fun _ _=>rfl) (fun b c=>hG b (j b c)) (fun _ _ h=>h)
  exact Seq.move o (fun _ _=>rfl) hG (fun _ _ h=>h)
end Tr
section
open Go.RowKit
open Lx (Tk)
open Tr
def YP:Lay:={ eA:=269,sA:=2,cA:=fun q=>[q.1,.string q.2.2.1],eI:=262,sI:=4,cI:=fun q=>[.int .i64 (q.2.kind:Int),.string q.2.name,.int .u8 (q.2.mark:Int),q.1] }
def DR(d lo:Nat)(w':World)(v:Value)(l:List Lx.Alt):Prop:=eG YP d (In lo w'.heap.size) w' v l
def Oa(d lo:Nat)(w':World)(v:Value)(it:Lx.It):Prop:=∃va,v=.agg #[.int .i64 (it.kind:Int),.string it.name,.int .u8 (it.mark:Int),va]/\eG YP d (In lo w'.heap.size) w' va it.alts
def anG(d lo:Nat)(w':World)(v:Value)(a:Lx.Alt):Prop:=∃vi,v=.agg #[vi,.string a.2.1]/\rO YP d (In lo w'.heap.size) w' vi a.1
def R3(d:Nat):Prop:=∀(sb cap:Nat)(L:List Tk)(p:Nat)(w:World)(ts:List Tk)(o:Int),o=8 - (d:Int)->Rd sb cap L p w ts o ->
 Calls prog 155 #[.pointer (some ⟨p,0,none⟩)] w (Ends sb cap L p o (DR (d+1) w.heap.size) w (nJ d ts))
def MH(d:Nat):Prop:=∀(sb cap:Nat)(L:List Tk)(p:Nat)(w:World)(ts:List Tk)(o:Int),o=8 - (d:Int)->Rd sb cap L p w ts o->Lx.hd ts=mM ->
 Calls prog 203 #[.pointer (some ⟨p,0,none⟩)] w (Ends sb cap L p o (DR d w.heap.size) w (iE d ts))
def aa0(d:Nat):Prop:=∀(sb cap:Nat)(L:List Tk)(p:Nat)(w:World)(ts:List Tk)(o:Int),o=8 - (d:Int)->Rd sb cap L p w ts o->rM ts=true ->
 Calls prog 193 #[.pointer (some ⟨p,0,none⟩)] w (Ends sb cap L p o (Oa d w.heap.size) w (iq (iE d) ts))
def abV(d:Nat):Prop:=∀(sb cap:Nat)(L:List Tk)(p:Nat)(w:World)(ts:List Tk)(o:Int),o=8 - (d:Int)->Rd sb cap L p w ts o ->
 Calls prog 176 #[.pointer (some ⟨p,0,none⟩)] w (Ends sb cap L p o (anG d w.heap.size) w (iG (iE d) (d == 8) ts))
theorem DR.move{d c lo':Nat}{w w':World}{v:Value}{l:List Lx.Alt}(h:DR d c w v l)(f:lo'<=c){r:Option Nat}(g:w.grownBy w' r)(i:∀k,r=some k->k<c):DR d lo' w' v l :=
 eG.move (fun b a=>g.block b a.2 fun e=>by have:=i b e.symm;have:=a.1;omega) (fun b a=>⟨de f a.1,dd a.2 g.size⟩) h
theorem ahf:MH 0:=by
 intro k d L p w f o a h hd;have b:=h.op;have g:(o == 8)=true:=tR.2 (by simpa using a);have l:Hid _:=a;have j:Hid _:=hd;clear a hd;go_enter func203,ntmps203;go_wp2_with fail;refine(MQ h 3).mono ?_;rintro e i⟨rfl,c⟩;obtain rfl:=c.symm;go_wp2_with fail;exact⟨rfl,Ends.no rfl (IB _ _)⟩
theorem ahg{d:Nat}(J:d<8)(P:R3 d):MH (d+1):=by
 intro G z L p w j o H h hd;have D:=h.op;have E:=h.Kg;have V:(o == 8)=false:=fY.2 (by omega);have R:0<=o:=by omega
 have F:o<=8:=by omega
 have M:Hid (o+1=8 - (d:Int)):=by show _=_;omega
 have X:Hid _:=hd;have Q:Hid (jy mM j=.ok ((),j.tail)):=dj hd;clear H hd;have K:=h.reopen (o+1);go_enter func203,ntmps203;go_wp2_with fail;refine(Me K mM (by decide)).mono ?_;intro e w1 b;obtain⟨v,rfl,m,q,rfl⟩:=b.ok Q.out;clear b;go_wp2_with fail;refine(P G z L p _ _ _ M.out q).mono ?_;intro e w2 b;have s:=aR (iM w p 1 (.int .i64 (o+1))) m;cases hr2:nJ d j.tail with
 |error x=>
  obtain⟨n,a⟩:=x;obtain⟨rfl,f⟩:=b.err hr2;exact⟨rfl,Ends.no (by simp only[iE,qz,hr2]) (aR s f)⟩
 |ok x=>
  obtain⟨l,S⟩:=x;obtain⟨v,rfl,f,T,I⟩:=b.ok hr2;have g:Hid _:=hr2;clear hr2 b;go_wp2_with fail;refine(Me T BO (by decide)).mono ?_;intro e A b;have B:=aR s f;cases hr3:jy BO S with
  |error x=>
   obtain⟨n,a⟩:=x;obtain⟨rfl,c⟩:=b.err hr3;exact⟨rfl,Ends.no (by simp only[iE,qz,g.out,hr3]) (aR B c)⟩
  |ok x=>
   obtain⟨u,O⟩:=x;obtain⟨W,rfl,c,t,rfl⟩:=b.ok hr3;have r:Hid _:=hr3;clear hr3 b;have U:=aR B c;have C:=t.op;have N:=t.Kg;go_wp2_with fail;go_ret;refine Ends.yes (x:=l) (ts':=O) (by simp only[iE,qz,g.out,r.out]) (aR U (iM A p 1 _)) (t.reopen o) ?_;have y:=s.size;have Y:=h.lt;exact(I.move y c (fun k i=>by cases i;omega)).move (dy _) (iM A p 1 _) (fun k i=>by cases i;omega)
end
section
open Go.RowKit
open Lx (Tk)
open Tr
def aj(w:World)(b:Nat)(cs:Array Value)(e:Nat):Prop:=w.heap[b]?=some (.cells cs e (0,0))
section
variable{w w':World}{b:Nat}{cs:Array Value}{e:Nat}
theorem aj.cell(h:aj w b cs e)(i:Nat):w.cell? ⟨b,i,none⟩=cs[i]?:=by
 unfold aj at h;simp[World.cell?,h]
theorem aj.frozen(h:aj w b cs e)(i:Nat):w.frozen? ⟨b,i,none⟩=false:=by
 unfold aj at h;simp[World.frozen?,h]
theorem aj.lt(h:aj w b cs e):b<w.heap.size:=(ek.1 h).1
theorem aj.set(h:aj w b cs e)(i:Nat)(v:Value):aj (w.setCell ⟨b,i,none⟩ v) b (cs.setIfInBounds i v) e:=by
 unfold aj at *;simp[World.setCell,Array.getElem?_modify,h]
theorem aj.other(h:aj w b cs e){b' i:Nat}(a:b'≠b)(v:Value):aj (w.setCell ⟨b',i,none⟩ v) b cs e:=by
 unfold aj at *;rw[fX _ _ _ _ (vj a)];exact h
theorem aj.alloc(h:aj w b cs e)(o:Obj):aj (w.alloc o) b cs e:=by
 have a:=h.lt;unfold aj at *;rw[dg _ _ _ a];exact h
theorem aj.new(w:World)(cs:Array Value)(e:Nat):aj (w.alloc (.cells cs e)) w.heap.size cs e:=ot w _
theorem aj.grown(h:aj w b cs e){r:Option Nat}(a:w.grownBy w' r)(c:some b≠r):aj w' b cs e:=by
 have d:=h.lt;unfold aj at *;rw[a.block b d c];exact h
theorem bJ(w:World)(o:Obj)(r:Option Nat):w.grownBy (w.alloc o) r:=qS w o r
end
theorem Rd.alloc{c a:Nat}{L:List Tk}{p:Nat}{w:World}{ts:List Tk}{o:Int}(h:Rd c a L p w ts o)(b:Obj):Rd c a L p (w.alloc b) ts o :=
 h.grown (bJ w b none) (by simp) (by simp)
theorem Rd.setOther{c a:Nat}{L:List Tk}{p:Nat}{w:World}{ts:List Tk}{o:Int}(h:Rd c a L p w ts o){b:Nat}(i:Nat)(v:Value)(d:b≠p)(f:b≠c):Rd c a L p (w.setCell ⟨b,i,none⟩ v) ts o :=
 h.grown (iM w b i v) (by simp;exact vj d) (by simp;exact vj f)
theorem eF{w u:World}{r:Option Nat}(h:w.grownBy u r){b:Nat}(d:w.heap.size<=b)(i:Nat)(v:Value):w.grownBy (u.setCell ⟨b,i,none⟩ v) r :=
 ⟨h.os,h.tape,h.output,by have:=h.size;simpa [World.setCell]using this,fun k a c=>(fX _ _ _ _ (fun e=>by have f:k=b:=e;omega)).trans (h.block k a c)⟩
theorem aiu{d:Nat}(y q:Nat)(L:List Tk)(p:Nat)(w:World)(ts:List Tk)(o:Int)(h:Rd y q L p w ts o)(c:¬Lx.hd ts=mM)(r:Lx.isName (Lx.hd ts)=true):
  Calls prog 193 #[.pointer (some ⟨p,0,none⟩)] w (Ends y q L p o (Oa d w.heap.size) w (iq (iE d) ts)):=by
 have hsz:=h.hsz;have J:Hid (iq (iE d) ts=.ok (⟨0,Lx.hd ts,(dJ ts.tail).1,[],Lx.pl ts⟩,(dJ ts.tail).2)):=by
  show _=_;unfold iq;rw[dt c,dj r]
 have M:Hid (eT Lx.isName ts=.ok (Lx.hd ts,ts.tail)):=dj r;have G:Hid _:=r;have F:Hid _:=c;clear r c;have h2:=(h.alloc (.cells #[.int .i64 0,.string ⟨#[]⟩,.int .u8 0,.slice none 0 0] 262)).alloc (.cells #[.int .i64 0,.string ⟨#[]⟩,.int .u8 0,.slice none 0 0] 262);have kB:=(aj.new w #[.int .i64 0,.string ⟨#[]⟩,.int .u8 0,.slice none 0 0] 262).alloc (.cells #[.int .i64 0,.string ⟨#[]⟩,.int .u8 0,.slice none 0 0] 262);have kC:=aj.new (w.alloc (.cells #[.int .i64 0,.string ⟨#[]⟩,.int .u8 0,.slice none 0 0] 262)) #[.int .i64 0,.string ⟨#[]⟩,.int .u8 0,.slice none 0 0] 262;have K:=aR (bJ w (.cells #[.int .i64 0,.string ⟨#[]⟩,.int .u8 0,.slice none 0 0] 262) (some p)) (bJ _ (.cells #[.int .i64 0,.string ⟨#[]⟩,.int .u8 0,.slice none 0 0] 262) (some p));rw[show (w.alloc (.cells #[.int .i64 0,.string ⟨#[]⟩,.int .u8 0,.slice none 0 0] 262)).heap.size=w.heap.size+1 by simp]at kC;have U:=h.lt;have W:=h.Ap;go_enter func193,ntmps193
 go_wp2_with (first
  | (go_at_call 111;refine(oQ h2).mono ?_;rintro e u⟨rfl,n⟩;obtain rfl:=n.symm)
  | (go_at_call 114;refine(wU h2 mM).mono ?_;rintro e u⟨rfl,n⟩;obtain rfl:=n.symm;rw[eE F.out])
  | (go_at_call 72;refine(Dt _ _ hsz).mono ?_;rintro e u⟨rfl,n⟩;obtain rfl:=n.symm;rw[G.out]))
 refine(abU h2).mono ?_;intro e w1 x;obtain⟨v,rfl,f,t,rfl⟩:=x.ok M.out;clear x;have m:=kB.grown f (by simp;omega);have j:=kC.grown f (by simp;omega);have B:w1.cell? ⟨w.heap.size+1,0,none⟩=some (.int .i64 0):=j.cell 0;have O:w1.cell? ⟨w.heap.size+1,1,none⟩=some (.string ⟨#[]⟩):=j.cell 1;have N:∀i,w1.frozen? ⟨w.heap.size+1,i,none⟩=false:=j.frozen;have h3:=(t.setOther (b:=w.heap.size+1) 0 (.int .i64 0) (by omega) (by omega)).setOther (b:=w.heap.size+1) 1 (.string (Lx.hd ts)) (by omega) (by omega);have k:=(m.other (b':=w.heap.size+1) (i:=0) (by omega) (.int .i64 0)).other (b':=w.heap.size+1) (i:=1) (by omega) (.string (Lx.hd ts));have z:=(j.set 0 (.int .i64 0)).set 1 (.string (Lx.hd ts));have I:=aR K f;clear m j kB kC;go_wp2_with fail;refine(SA h3).mono ?_;rintro e w2⟨rfl,g,s⟩;have a:=k.grown g (by simp;omega);have l:=z.grown g (by simp;omega);have V:w2.cell? ⟨w.heap.size+1,0,none⟩=some (.int .i64 0):=l.cell 0;have P:w2.cell? ⟨w.heap.size+1,1,none⟩=some (.string (Lx.hd ts)):=l.cell 1;have R:w2.cell? ⟨w.heap.size+1,2,none⟩=some (.int .u8 0):=l.cell 2;have S:w2.cell? ⟨w.heap.size+1,3,none⟩=some (.slice none 0 0):=l.cell 3;have E:w2.cell? ⟨w.heap.size,0,none⟩=some (.int .i64 0):=a.cell 0;have A:w2.cell? ⟨w.heap.size,1,none⟩=some (.string ⟨#[]⟩):=a.cell 1;have C:w2.cell? ⟨w.heap.size,2,none⟩=some (.int .u8 0):=a.cell 2;have H:w2.cell? ⟨w.heap.size,3,none⟩=some (.slice none 0 0):=a.cell 3;have T:∀i,w2.frozen? ⟨w.heap.size+1,i,none⟩=false:=l.frozen
 have Q:∀i,w2.frozen? ⟨w.heap.size,i,none⟩=false:=a.frozen;have D:=aR (eF (eF I (by omega) 0 (.int .i64 0)) (by omega) 1 (.string (Lx.hd ts))) g;clear k z B O N;go_wp2_with fail;refine fy (v:=.agg #[.int .i64 0,.string (Lx.hd ts),.int .u8 ((dJ ts.tail).1:Int),.slice none 0 0]) (by simp[results,results193,go_sem,E,A,C,H]) rfl ?_;refine Ends.yes J.out (eF (eF (eF (eF (eF D (by omega) _ _) (dy _) _ _) (dy _) _ _) (dy _) _ _) (dy _) _ _) ?_ ⟨_,rfl,eG.nil _ _ _ _⟩;exact((((s.setOther _ _ (by omega) (by omega)).setOther _ _ (by omega) (by omega)).setOther _ _ (by omega) (by omega)).setOther _ _ (by omega) (by omega)).setOther _ _ (by omega) (by omega)
theorem ahh{d:Nat}(z r:Nat)(L:List Tk)(p:Nat)(w:World)(ts:List Tk)(o:Int)(h:Rd z r L p w ts o)(c:¬Lx.hd ts=mM)(g:Lx.isName (Lx.hd ts)=false)(s:Lx.isToken (Lx.hd ts)=true):
  Calls prog 193 #[.pointer (some ⟨p,0,none⟩)] w (Ends z r L p o (Oa d w.heap.size) w (iq (iE d) ts)):=by
 have hsz:=h.hsz;have J:Hid (iq (iE d) ts=.ok (⟨1,Lx.hd ts,(dJ ts.tail).1,[],Lx.pl ts⟩,(dJ ts.tail).2)):=by
  show _=_;unfold iq;rw[dt c,dt (by rw[g];simp),dj s]
 have M:Hid (eT Lx.isToken ts=.ok (Lx.hd ts,ts.tail)):=dj s;have S:Hid _:=s;have G:Hid _:=c;have O:Hid _:=g;clear s c g;have h2:=(h.alloc (.cells #[.int .i64 0,.string ⟨#[]⟩,.int .u8 0,.slice none 0 0] 262)).alloc (.cells #[.int .i64 0,.string ⟨#[]⟩,.int .u8 0,.slice none 0 0] 262);have kB:=(aj.new w #[.int .i64 0,.string ⟨#[]⟩,.int .u8 0,.slice none 0 0] 262).alloc (.cells #[.int .i64 0,.string ⟨#[]⟩,.int .u8 0,.slice none 0 0] 262);have kC:=aj.new (w.alloc (.cells #[.int .i64 0,.string ⟨#[]⟩,.int .u8 0,.slice none 0 0] 262)) #[.int .i64 0,.string ⟨#[]⟩,.int .u8 0,.slice none 0 0] 262;have K:=aR (bJ w (.cells #[.int .i64 0,.string ⟨#[]⟩,.int .u8 0,.slice none 0 0] 262) (some p)) (bJ _ (.cells #[.int .i64 0,.string ⟨#[]⟩,.int .u8 0,.slice none 0 0] 262) (some p));rw[show (w.alloc (.cells #[.int .i64 0,.string ⟨#[]⟩,.int .u8 0,.slice none 0 0] 262)).heap.size=w.heap.size+1 by simp]at kC;have W:=h.lt;have Y:=h.Ap;go_enter func193,ntmps193
 go_wp2_with (first
  | (go_at_call 111;refine(oQ h2).mono ?_;rintro e x⟨rfl,q⟩;obtain rfl:=q.symm)
  | (go_at_call 114;refine(wU h2 mM).mono ?_;rintro e x⟨rfl,q⟩;obtain rfl:=q.symm;rw[eE G.out])
  | (go_at_call 72;refine(Dt _ _ hsz).mono ?_;rintro e x⟨rfl,q⟩;obtain rfl:=q.symm;rw[O.out]))
 refine(Bw h2).mono ?_;intro e w1 y;obtain⟨v,rfl,f,u,rfl⟩:=y.ok M.out;clear y;have n:=kB.grown f (by simp;omega);have k:=kC.grown f (by simp;omega);have C:w1.cell? ⟨w.heap.size+1,0,none⟩=some (.int .i64 0):=k.cell 0;have P:w1.cell? ⟨w.heap.size+1,1,none⟩=some (.string ⟨#[]⟩):=k.cell 1;have N:∀i,w1.frozen? ⟨w.heap.size+1,i,none⟩=false:=k.frozen;have h3:=(u.setOther (b:=w.heap.size+1) 0 (.int .i64 1) (by omega) (by omega)).setOther (b:=w.heap.size+1) 1 (.string (Lx.hd ts)) (by omega) (by omega);have l:=(n.other (b':=w.heap.size+1) (i:=0) (by omega) (.int .i64 1)).other (b':=w.heap.size+1) (i:=1) (by omega) (.string (Lx.hd ts));have A:=(k.set 0 (.int .i64 1)).set 1 (.string (Lx.hd ts));have I:=aR K f;clear n k kB kC;go_wp2_with fail;refine(SA h3).mono ?_;rintro e w2⟨rfl,j,t⟩;have a:=l.grown j (by simp;omega);have m:=A.grown j (by simp;omega);have X:w2.cell? ⟨w.heap.size+1,0,none⟩=some (.int .i64 1):=m.cell 0;have Q:w2.cell? ⟨w.heap.size+1,1,none⟩=some (.string (Lx.hd ts)):=m.cell 1;have T:w2.cell? ⟨w.heap.size+1,2,none⟩=some (.int .u8 0):=m.cell 2;have U:w2.cell? ⟨w.heap.size+1,3,none⟩=some (.slice none 0 0):=m.cell 3;have F:w2.cell? ⟨w.heap.size,0,none⟩=some (.int .i64 0):=a.cell 0;have B:w2.cell? ⟨w.heap.size,1,none⟩=some (.string ⟨#[]⟩):=a.cell 1;have D:w2.cell? ⟨w.heap.size,2,none⟩=some (.int .u8 0):=a.cell 2;have H:w2.cell? ⟨w.heap.size,3,none⟩=some (.slice none 0 0):=a.cell 3;have V:∀i,w2.frozen? ⟨w.heap.size+1,i,none⟩=false:=m.frozen
 have R:∀i,w2.frozen? ⟨w.heap.size,i,none⟩=false:=a.frozen;have E:=aR (eF (eF I (by omega) 0 (.int .i64 1)) (by omega) 1 (.string (Lx.hd ts))) j;clear l A C P N;go_wp2_with fail;refine fy (v:=.agg #[.int .i64 1,.string (Lx.hd ts),.int .u8 ((dJ ts.tail).1:Int),.slice none 0 0]) (by simp[results,results193,go_sem,F,B,D,H]) rfl ?_;refine Ends.yes J.out (eF (eF (eF (eF (eF E (by omega) _ _) (dy _) _ _) (dy _) _ _) (dy _) _ _) (dy _) _ _) ?_ ⟨_,rfl,eG.nil _ _ _ _⟩;exact((((t.setOther _ _ (by omega) (by omega)).setOther _ _ (by omega) (by omega)).setOther _ _ (by omega) (by omega)).setOther _ _ (by omega) (by omega)).setOther _ _ (by omega) (by omega)
theorem ahi{d:Nat}(V:MH d)(F s:Nat)(L:List Tk)(p:Nat)(w:World)(ts:List Tk)(o:Int)(I:o=8 - (d:Int))(h:Rd F s L p w ts o)(J:Lx.hd ts=mM):
  Calls prog 193 #[.pointer (some ⟨p,0,none⟩)] w (Ends F s L p o (Oa d w.heap.size) w (iq (iE d) ts)):=by
 have D:Hid (Lx.hd ts=mM):=J;have X:Hid (o=8 - (d:Int)):=I;clear J I;have h2:=(h.alloc (.cells #[.int .i64 0,.string ⟨#[]⟩,.int .u8 0,.slice none 0 0] 262)).alloc (.cells #[.int .i64 0,.string ⟨#[]⟩,.int .u8 0,.slice none 0 0] 262);have kB:=(aj.new w #[.int .i64 0,.string ⟨#[]⟩,.int .u8 0,.slice none 0 0] 262).alloc (.cells #[.int .i64 0,.string ⟨#[]⟩,.int .u8 0,.slice none 0 0] 262);have kC:=aj.new (w.alloc (.cells #[.int .i64 0,.string ⟨#[]⟩,.int .u8 0,.slice none 0 0] 262)) #[.int .i64 0,.string ⟨#[]⟩,.int .u8 0,.slice none 0 0] 262;have M:=aR (bJ w (.cells #[.int .i64 0,.string ⟨#[]⟩,.int .u8 0,.slice none 0 0] 262) (some p)) (bJ _ (.cells #[.int .i64 0,.string ⟨#[]⟩,.int .u8 0,.slice none 0 0] 262) (some p));rw[show (w.alloc (.cells #[.int .i64 0,.string ⟨#[]⟩,.int .u8 0,.slice none 0 0] 262)).heap.size=w.heap.size+1 by simp]at kC;have hp:=h.lt;have hs:=h.Ap;go_enter func193,ntmps193
 go_wp2_with (first
  | (go_at_call 114;refine(wU h2 mM).mono ?_;rintro e w'⟨rfl,hw⟩;obtain rfl:=hw.symm;rw[fi D.out]))
 refine(V F s L p _ ts o X.out h2 D.out).mono ?_;intro e w1 E;cases hgr:iE d ts with
 |error x=>
  obtain⟨n,a⟩:=x;obtain⟨rfl,g⟩:=E.err hgr;exact⟨rfl,Ends.no (by unfold iq;rw[dj D.out,hgr]) (aR M g)⟩
 |ok x=>
  obtain⟨l,t⟩:=x;obtain⟨v,rfl,g,H,C⟩:=E.ok hgr;obtain⟨j,m,r,rfl⟩:=eG.form C;have HP:Hid (iq (iE d) ts=.ok (⟨2,aW,(dJ t).1,l,Lx.pl ts⟩,(dJ t).2)):=by
   show _=_;unfold iq;rw[dj D.out,hgr]
  clear E hgr;have A:=kB.grown g (by simp;omega);have u:=kC.grown g (by simp;omega);have P:w1.cell? ⟨w.heap.size+1,0,none⟩=some (.int .i64 0):=u.cell 0;have c1:w1.cell? ⟨w.heap.size+1,3,none⟩=some (.slice none 0 0):=u.cell 3;have f0:∀i,w1.frozen? ⟨w.heap.size+1,i,none⟩=false:=u.frozen;have h3:=(H.setOther (b:=w.heap.size+1) 0 (.int .i64 2) (by omega) (by omega)).setOther (b:=w.heap.size+1) 3 (.slice j m r) (by omega) (by omega);have y:=(A.other (b':=w.heap.size+1) (i:=0) (by omega) (.int .i64 2)).other (b':=w.heap.size+1) (i:=3) (by omega) (.slice j m r);have K:=(u.set 0 (.int .i64 2)).set 3 (.slice j m r);have Z:=aR M g;rw[show ((w.alloc (.cells #[.int .i64 0,.string ⟨#[]⟩,.int .u8 0,.slice none 0 0] 262)).alloc (.cells #[.int .i64 0,.string ⟨#[]⟩,.int .u8 0,.slice none 0 0] 262)).heap.size=w.heap.size+2 by simp]at C;clear A u kB kC;go_wp2_with fail;refine(SA h3).mono ?_;rintro e w2⟨rfl,q,G⟩;have f:=y.grown q (by simp;omega);have z:=K.grown q (by simp;omega);have d0:w2.cell? ⟨w.heap.size+1,0,none⟩=some (.int .i64 2):=z.cell 0;have d1:w2.cell? ⟨w.heap.size+1,1,none⟩=some (.string ⟨#[]⟩):=z.cell 1;have d2:w2.cell? ⟨w.heap.size+1,2,none⟩=some (.int .u8 0):=z.cell 2;have d3:w2.cell? ⟨w.heap.size+1,3,none⟩=some (.slice j m r):=z.cell 3;have W:w2.cell? ⟨w.heap.size,0,none⟩=some (.int .i64 0):=f.cell 0;have O:w2.cell? ⟨w.heap.size,1,none⟩=some (.string ⟨#[]⟩):=f.cell 1;have R:w2.cell? ⟨w.heap.size,2,none⟩=some (.int .u8 0):=f.cell 2
  have Y:w2.cell? ⟨w.heap.size,3,none⟩=some (.slice none 0 0):=f.cell 3;have f1:∀i,w2.frozen? ⟨w.heap.size+1,i,none⟩=false:=z.frozen;have f2:∀i,w2.frozen? ⟨w.heap.size,i,none⟩=false:=f.frozen;have U:=aR (eF (eF Z (by omega) 0 (.int .i64 2)) (by omega) 3 (.slice j m r)) q;have B:DR d (w.heap.size+2) w2 (.slice j m r) l:=((C.move (dy _) (iM w1 (w.heap.size+1) 0 (.int .i64 2)) (fun k c=>by cases c;omega)).move (dy _) (iM _ (w.heap.size+1) 3 (.slice j m r)) (fun k c=>by cases c;omega)).move (dy _) q (fun k c=>by cases c;omega);clear y K P c1 f0 C;go_wp2_with fail;refine fy (v:=.agg #[.int .i64 2,.string ⟨#[]⟩,.int .u8 ((dJ t).1:Int),.slice j m r]) (by simp[results,results193,go_sem,W,O,R,Y]) rfl ?_;have N:=iM w2 (w.heap.size+1) 2 (.int .u8 ((dJ t).1:Int));refine Ends.yes HP.out (eF (eF (eF (eF (eF U (by omega) _ _) (dy _) _ _) (dy _) _ _) (dy _) _ _) (dy _) _ _) ?_ ⟨_,rfl,?_⟩
  ·exact((((G.setOther _ _ (by omega) (by omega)).setOther _ _ (by omega) (by omega)).setOther _ _ (by omega) (by omega)).setOther _ _ (by omega) (by omega)).setOther _ _ (by omega) (by omega)
  ·have m0:=B.move (lo':=w.heap.size) (by omega) N (fun k c=>by cases c;omega)
   have S:=B.move (dy _) N (fun k c=>by cases c;omega);have m2:=S.move (dy _) (iM _ w.heap.size 0 (.int .i64 2)) (fun k c=>by cases c;omega);have Q:=m2.move (dy _) (iM _ w.heap.size 1 (.string ⟨#[]⟩)) (fun k c=>by cases c;omega);have T:=Q.move (dy _) (iM _ w.heap.size 2 (.int .u8 ((dJ t).1:Int))) (fun k c=>by cases c;omega);exact T.move (by omega) (iM _ w.heap.size 3 (.slice j m r)) (fun k c=>by cases c;omega)
theorem aa1{d:Nat}(g:MH d):aa0 d:=by
 intro f a L p w b o i h c
 by_cases h1:Lx.hd b=mM
 ·exact ahi g f a L p w b o i h h1
 ·cases h2:Lx.isName (Lx.hd b)
  ·refine ahh f a L p w b o h h1 h2 ?_
   unfold rM at c;rw[eE h1,h2]at c;simpa using c
  ·exact aiu f a L p w b o h h1 h2
end
section
open Go.RowKit
open Lx (Tk)
open Tr
theorem Tryz.alr:(prog.info? 262).map (fun i=>(i.zero,i.size,i.bytes))=some (some (.agg #[.int .i64 0,.string ⟨#[]⟩,.int .u8 0,.slice none 0 0]),4,56):=by kernel_rfl
theorem Tryz.als:(prog.info? 269).map (fun i=>(i.zero,i.size,i.bytes))=some (some (.agg #[.slice none 0 0,.string ⟨#[]⟩]),2,40):=by kernel_rfl
theorem oL(w:World)(r:Option Nat):w.grownBy w.drew r:=⟨rfl,rfl,rfl,dy _,fun _ _ _=>rfl⟩
theorem Rd.drew{b a:Nat}{L:List Tk}{p:Nat}{w:World}{ts:List Tk}{o:Int}(h:Rd b a L p w ts o):Rd b a L p w.drew ts o :=
 h.grown (oL w none) (by simp) (by simp)
theorem aj.drew{w:World}{b:Nat}{cs:Array Value}{e:Nat}(h:aj w b cs e):aj w.drew b cs e:=h
theorem jW{P:Program}{c:Array Oper}{o:Oper}{a:Act}{w:World}{K:Act->World->Prop}{Q:Exit->Act->World->Prop}{E:Prop}(d:o.guard=none)(f:FuncId)(args:Array Value)
  (b:(execOp a.eval o).run P w=.ok (.enter f args) w) {R:Ending->World->Prop} (j:Calls P f args w R) (h:∀e w',R e w'->∃v,e=.returned v/\K (a.put o.dst v) w') :
  if Region.wanted o (yielded c a.tmps)=true then Oper.wp P o a w K Q else E:=by
 have k:Region.wanted o (yielded c a.tmps)=true:=by simp[Region.wanted,d]
 rw[dj k];unfold Oper.wp;rw[b,Oper.upon_enter];refine j.mono ?_;intro e w' g;obtain⟨v,rfl,i⟩:=h e w' g;exact i
theorem uM{P:Program}{d:Array Oper}{o:Oper}{a:Act}{w:World}{K:Act->World->Prop}{Q:Exit->Act->World->Prop}{E:Prop}(g:o.guard=none)(f:FuncId)(args:Array Value)
  (b:(execOp a.eval o).run P w=.ok (.enter f args) w) {R:Ending->World->Prop} (k:Calls P f args w R) (h:∀e w',R e w'->∃c,e=.panicked c/\Q (.panic c) a w') :
  if Region.wanted o (yielded d a.tmps)=true then Oper.wp P o a w K Q else E:=by
 have l:Region.wanted o (yielded d a.tmps)=true:=by simp[Region.wanted,g]
 rw[dj l];unfold Oper.wp;rw[b,Oper.upon_enter];refine k.mono ?_;intro e w' i;obtain⟨v,rfl,j⟩:=h e w' i;exact j
theorem eO{w:World}{g:Nat}{cs:Array Value}{e:Nat}(h:aj w g cs e):∀(j:Nat)(u:Value),cs.toList[j]?=some u->w.cell? ((⟨g,0,none⟩:Addr).add j)=some u:=by
 intro j u b;have a:(⟨g,0,none⟩:Addr).add j=⟨g,j,none⟩:=by unfold Addr.add;split <;> simp_all
 rw[a,h.cell];simpa using b
theorem Dm{w u c b:World}{r s:Option Nat}(h:w.grownBy u s)(h2:u.grownBy c none)(h3:c.grownBy b r)(d:∀k,r=some k->w.heap.size<=k):w.grownBy b s :=
 ⟨h3.os.trans (h2.os.trans h.os),h3.tape.trans (h2.tape.trans h.tape),h3.output.trans (h2.output.trans h.output),de h.size (de h2.size h3.size),fun k a f=>
  (h3.block k (dd a (de h.size h2.size)) (fun e=>by have:=d k e.symm;omega)).trans ((h2.block k (dd a h.size) (by simp)).trans (h.block k a f))⟩
abbrev KA(d:Nat):(Nat->Prop)->World->Value->Lx.It->Prop:=fun F w va it=>eG YP d F w va it.alts
theorem abW{d:Nat}(HI:aa0 d):abV d:=by
 intro sb P L p w s o ho h;obtain⟨i0,hi,af,al,ac⟩:=ft Tryz.alr;have hp:=h.lt;have hs:=h.Ap;have HO:Hid (o=8 - (d:Int)):=ho;have a0:=h.lb;have ao:=h.len;clear ho;have h2:=(h.alloc (.cells #[.slice none 0 0,.string ⟨#[]⟩] 269)).alloc (.cells #[.slice none 0 0,.string ⟨#[]⟩] 269);have kB:=(aj.new w #[.slice none 0 0,.string ⟨#[]⟩] 269).alloc (.cells #[.slice none 0 0,.string ⟨#[]⟩] 269);have kC:=aj.new (w.alloc (.cells #[.slice none 0 0,.string ⟨#[]⟩] 269)) #[.slice none 0 0,.string ⟨#[]⟩] 269;have G0:=aR (bJ w (.cells #[.slice none 0 0,.string ⟨#[]⟩] 269) (some p)) (bJ _ (.cells #[.slice none 0 0,.string ⟨#[]⟩] 269) (some p));rw[show (w.alloc (.cells #[.slice none 0 0,.string ⟨#[]⟩] 269)).heap.size=w.heap.size+1 by simp]at kC;go_enter func176,ntmps176;go_wp2_with fail
 go_loopg [] s.length (fun k wr=>∃(q:List Tk)(l:List Lx.It)(v:Value)(f:Nat),q.length=k/\q.length<=f/\l.length+q.length<=s.length/\w.heap.size+2<=wr.heap.size/\Rd sb P L p wr q o/\aj wr (w.heap.size+1) #[v,.string ⟨#[]⟩] 269/\aj wr w.heap.size #[.slice none 0 0,.string ⟨#[]⟩] 269 /\
   mP (w.heap.size+2) wr 262 4 YP.cI (KA d) v l/\w.grownBy wr (some p)/\Hid (jr (iE d) f q l=jr (iE d) s.length s []))
 case atStart=>exact⟨s,[],_,s.length,rfl,dy _,by simp,by simp,h2,kC,kB,mP.nil _ _ _ _ _ _,G0,rfl⟩
 case round=>
  obtain⟨q,l,v,f,W,hf,ap,hsz,y,R,H,C,hg,z⟩:=hrel;clear h2 kB kC G0;cases Cb:rM q
  ·have A:Hid _:=Cb
   clear Cb;have aa:jr (iE d) s.length s []=.ok (l,q):=by
    rw[<-z.out];have ag:=y.wf.ne;obtain⟨T,rfl⟩:∃T,f=T+1:=⟨f-1,by omega⟩;simp only[jr];rw[dt (by rw[A.out];simp)]
   have Y:Hid (iG (iE d) (d == 8) s=qB (d == 8) l q):=by
    show _=_;unfold iG;rw[aa]
   clear aa z;have a3:=y.op;have u:=C.seq;obtain⟨M,I,J,rfl⟩:=dV.form u;have c0:wr.cell? ⟨w.heap.size+1,0,none⟩=some (.slice M I J):=R.cell 0;have c1:wr.cell? ⟨w.heap.size+1,1,none⟩=some (.string ⟨#[]⟩):=R.cell 1;have b0:wr.cell? ⟨w.heap.size,0,none⟩=some (.slice none 0 0):=H.cell 0;have b1:wr.cell? ⟨w.heap.size,1,none⟩=some (.string ⟨#[]⟩):=H.cell 1;have fB:∀i,wr.frozen? ⟨w.heap.size,i,none⟩=false:=H.frozen;have fC:∀i,wr.frozen? ⟨w.heap.size+1,i,none⟩=false:=R.frozen
   by_cases h8:d=8
   ·have o0:(o == 0)=true:=tR.2 (by have:=HO.out;omega)
    by_cases hpr:Lx.hd q=ku
    ·have ax:Lx.hd q≠aW:=by rw[hpr];decide
     have Vk:Hid (Lx.hd q=ku):=hpr;have H8:Hid (d=8):=h8;clear hpr h8
     go_wp2_with (first
      | (go_at_call 192;refine(Iy y).mono ?_;rintro e w'⟨rfl,G⟩;obtain rfl:=G.symm;rw[A.out]))
     refine(Ml y ku (by decide) Vk.out).mono ?_;rintro e w1⟨rfl,c,S⟩;have Z:=R.grown c (by simp;omega);have ai:=H.grown c (by simp;omega);go_wp2_with fail;refine(Bw S).mono ?_;intro e w2 N;cases hpw:eT Lx.isToken q.tail with
     |error x=>
      obtain⟨n,a⟩:=x;obtain⟨rfl,r⟩:=N.err hpw;exact⟨rfl,Ends.no (by rw[Y.out];unfold qB;rw[dj ⟨by simp[H8.out],Vk.out⟩,hpw]) (aR (aR hg c) r)⟩
     |ok x=>
      obtain⟨b,cu⟩:=x;obtain⟨v,rfl,r,ak,rfl⟩:=N.ok hpw;have HP:Hid (iG (iE d) (d == 8) s=.ok ((l,b,Lx.pl q.tail),cu)):=by
       show _=_;rw[Y.out];unfold qB;rw[dj ⟨by simp[H8.out],Vk.out⟩,hpw]
      clear hpw N;have Q:=Z.grown r (by simp;omega);have B:=ai.grown r (by simp;omega);have d0:w2.cell? ⟨w.heap.size+1,0,none⟩=some (.slice M I J):=Q.cell 0;have d1:w2.cell? ⟨w.heap.size+1,1,none⟩=some (.string ⟨#[]⟩):=Q.cell 1;have e0:w2.cell? ⟨w.heap.size,0,none⟩=some (.slice none 0 0):=B.cell 0;have e1:w2.cell? ⟨w.heap.size,1,none⟩=some (.string ⟨#[]⟩):=B.cell 1;have a2:∀i,w2.frozen? ⟨w.heap.size,i,none⟩=false:=B.frozen;have a5:∀i,w2.frozen? ⟨w.heap.size+1,i,none⟩=false:=Q.frozen;go_wp2_with fail;refine fy (v:=.agg #[.slice M I J,.string b]) (by simp[results,results176,go_sem,e0,e1]) rfl ?_;refine Ends.yes HP.out (eF (eF (eF (aR (aR hg c) r) (by omega) _ _) (dy _) _ _) (dy _) _ _) (((ak.setOther _ _ (by omega) (by omega)).setOther _ _ (by omega) (by omega)).setOther _ _ (by omega) (by omega)) ⟨_,rfl,?_⟩;refine rO.move (F:=In (w.heap.size+2) wr.heap.size) (w:=wr) (fun b t=>?_) (fun b t=>?_) u
      ·have h1:=t.1
       have h2:=t.2;have g1:=c.size;rw[fX _ _ _ _ (fun e=>by have X:b=w.heap.size:=e;omega),fX _ _ _ _ (fun e=>by have X:b=w.heap.size:=e;omega),fX _ _ _ _ (fun e=>by have X:b=w.heap.size+1:=e;omega),r.block b (by omega) (by simp;omega),c.block b h2 (by simp;omega)]
      ·have h1:=t.1
       have h2:=t.2;have g1:=c.size;have g2:=r.size;exact⟨by omega,by simp[World.setCell];omega⟩
    ·have HP:Hid (iG (iE d) (d == 8) s=.ok ((l,aW,0),q)):=by
      show _=_;rw[Y.out];unfold qB;rw[dt (fun hh=>hpr hh.2)]
     have HR:Hid _:=hpr;clear hpr h8 Y
     go_wp2_with (first
      | (go_at_call 192;refine(Iy y).mono ?_;rintro e w'⟨rfl,G⟩;obtain rfl:=G.symm;rw[A.out])
      | (go_at_call 152;refine(IG y ku HR.out).mono ?_;rintro e w'⟨rfl,G⟩;obtain rfl:=G.symm))
     refine fy (v:=.agg #[.slice M I J,.string ⟨#[]⟩]) (by simp[results,results176,go_sem,b0,b1]) rfl ?_;refine Ends.yes HP.out (eF (eF hg (dy _) _ _) (dy _) _ _) ((y.setOther _ _ (by omega) (by omega)).setOther _ _ (by omega) (by omega)) ⟨_,rfl,?_⟩;refine rO.move (F:=In (w.heap.size+2) wr.heap.size) (w:=wr) (fun b t=>?_) (fun b t=>?_) u
     ·have h1:=t.1
      rw[fX _ _ _ _ (fun e=>by have X:b=w.heap.size:=e;omega),fX _ _ _ _ (fun e=>by have X:b=w.heap.size:=e;omega)]
     ·have h1:=t.1
      have h2:=t.2;exact⟨by omega,by simpa [World.setCell]using h2⟩
   ·have o0:(o == 0)=false:=fY.2 (by have:=HO.out;omega)
    have HP:Hid (iG (iE d) (d == 8) s=.ok ((l,aW,0),q)):=by
     show _=_;rw[Y.out];unfold qB;rw[dt (fun hh=>h8 (by simpa using hh.1))]
    clear h8 Y
    go_wp2_with (first
     | (go_at_call 192;refine(Iy y).mono ?_;rintro e w'⟨rfl,G⟩;obtain rfl:=G.symm;rw[A.out]))
    refine fy (v:=.agg #[.slice M I J,.string ⟨#[]⟩]) (by simp[results,results176,go_sem,b0,b1]) rfl ?_;refine Ends.yes HP.out (eF (eF hg (dy _) _ _) (dy _) _ _) ((y.setOther _ _ (by omega) (by omega)).setOther _ _ (by omega) (by omega)) ⟨_,rfl,?_⟩;refine rO.move (F:=In (w.heap.size+2) wr.heap.size) (w:=wr) (fun b t=>?_) (fun b t=>?_) u
    ·have h1:=t.1
     rw[fX _ _ _ _ (fun e=>by have X:b=w.heap.size:=e;omega),fX _ _ _ _ (fun e=>by have X:b=w.heap.size:=e;omega)]
    ·have h1:=t.1
     have h2:=t.2;exact⟨by omega,by simpa [World.setCell]using h2⟩
  ·have A:Hid _:=Cb
   clear Cb;obtain⟨ps,F,U⟩:=C;have m:=U.2.1;obtain⟨M,I,J,rfl⟩:=Fy m;have c0:wr.cell? ⟨w.heap.size+1,0,none⟩=some (.slice M I J):=R.cell 0;have f0:∀i,wr.frozen? ⟨w.heap.size+1,i,none⟩=false:=R.frozen;have jB:=y.drew;have kJ:=aR hg (oL wr (some p));have ag:=y.wf.ne;obtain⟨T,rfl⟩:∃T,f=T+1:=⟨f-1,by omega⟩;cases hit:iq (iE d) q with
   |error x=>
    obtain⟨n,a⟩:=x;have HE:Hid (iG (iE d) (d == 8) s=.error (n,a)):=by
     show _=_;unfold iG;rw[<-z.out];simp only[jr];rw[dj A.out,hit]
    have O:Hid _:=hit;clear hit z
    go_wp2_with (first
     | (go_at_call 192;refine(Iy y).mono ?_;rintro e w'⟨rfl,G⟩;obtain rfl:=G.symm;rw[A.out]))
    refine sv (by kernel_rfl) ?_;refine nz (i:=0) (v:=.pointer (some ⟨w.heap.size+1,0,none⟩)) rfl (by kernel_rfl) (by kernel_rfl) (by kernel_rfl) (fun _ _ _ h=>h) (qh ⟨by rfl,fun w=>by go_simp⟩) ?_;refine nz (i:=2) (v:=.pointer (some ⟨p,0,none⟩)) rfl (by kernel_rfl) (by kernel_rfl) (by kernel_rfl) (fun _ _ _ h=>h) (qh ⟨by rfl,fun w=>by go_simp⟩) ?_;refine pg (rs:=[1,3]) (by kernel_rfl) (by simp) ?_;refine lr rfl (fun K hK=>?_) (lr rfl (fun K hK=>?_) ol)
    ·change if _ then Oper.wp _ _ _ wr.drew _ _ else _
     go_simp
     refine hK _ _ ?_;clear hK K;refine pg (rs:=[3]) (by kernel_rfl) (by simp) ?_;refine lr rfl (fun K hK=>?_) ol;exact uM rfl 193 #[.pointer (some ⟨p,0,none⟩)] (by go_simp) (HI sb P L p _ q o HO.out jB A.out) fun e w1 N=>by obtain⟨rfl,c⟩:=N.err O.out;exact⟨_,rfl,rfl,Ends.no HE.out (aR kJ c)⟩
    ·change if _ then Oper.wp _ _ _ wr.drew _ _ else _
     exact uM rfl 193 #[.pointer (some ⟨p,0,none⟩)] (by go_simp) (HI sb P L p _ q o HO.out jB A.out) fun e w1 N=>by obtain⟨rfl,c⟩:=N.err O.out;exact⟨_,rfl,rfl,Ends.no HE.out (aR kJ c)⟩
   |ok x=>
    obtain⟨it,aG⟩:=x;have a1:=Rs (QJ d) hit;have aq:=y.wf.sV;have Cw:Hid (jr (iE d) T aG (l++[it])=jr (iE d) s.length s []):=by
     show _=_;rw[<-z.out];simp only[jr];rw[dj A.out,hit]
    have O:Hid _:=hit;clear hit z
    go_wp2_with (first
     | (go_at_call 192;refine(Iy y).mono ?_;rintro e w'⟨rfl,G⟩;obtain rfl:=G.symm;rw[A.out]))
    go_region_law (first
     | (refine step_append_lies _ rfl (.tmp 7) (.tmp 10) 267 rfl (w.heap.size+2) 262 i0 _ 4 56 underlying267 hi af al ac rfl (by decide) (.slice M I J) l.length (ps.flatMap YP.cI) (by simp[Act.eval]) (D.alloc _) ⟨w1.heap.size,0,none⟩ 1 1 (YP.cI (.slice xa xk xc,it)) (by simp[Act.eval]) rfl (eO (aj.new w1 _ 262)) (by simp[YP,Value.oneCell']) (by decide) (by unfold maxLen;omega) (by omega) (by have:=c.size;simp at this;simp;omega) _ rfl ?_;intro g an w3 E j ab a6;have Q:=(Z.alloc _).grown j (fun e=>by have:=(m.lt _ e.symm).1;omega);have aw:w3.cell? ⟨w.heap.size+1,0,none⟩=some (.slice M I J):=Q.cell 0;have az:∀i,w3.frozen? ⟨w.heap.size+1,i,none⟩=false:=Q.frozen)
     | (refine jW rfl 193 #[.pointer (some ⟨p,0,none⟩)] (by go_simp) (HI sb P L p _ q o HO.out jB A.out) ?_;intro e w1 N;obtain⟨vv,rfl,c,S,ah⟩:=N.ok O.out;refine⟨_,rfl,?_⟩;obtain⟨vx,rfl,V⟩:=ah;obtain⟨xa,xk,xc,rfl⟩:=eG.form V;have D:=((U.kept (Iq YP d) (oL wr none) (by simp)).kept (Iq YP d) c (fun k W=>by cases W;omega)).2.1;have Z:=R.drew.grown c (by simp;omega);have Vl:w1.cell? ⟨w.heap.size+1,0,none⟩=some (.slice M I J):=Z.cell 0;have am:=Z.lt))
    all_goals
     have G3:=wW.push (Iq YP d) (U.kept (Iq YP d) (oL wr none) (by simp)) (p:=p) (by omega) (by simpa using hsz) c (.slice xa xk xc,it) V (bJ w1 _ none) E j ab;have B:=((H.drew.grown c (by simp;omega)).alloc _).grown j (fun e=>by have:=(m.lt _ e.symm).1;omega);have ad:=(S.alloc _).grown j (fun e=>by have:=(m.lt _ e.symm).1;omega) (fun e=>by have:=(m.lt _ e.symm).1;omega);have OX:=Dm (aR kJ c) (bJ w1 _ none) j (fun k W=>by have:=(m.lt _ W).1;omega);have ae:=j.size;have a4:=c.size;have ar:wr.drew.heap.size=wr.heap.size:=rfl;have av:(w1.alloc (.cells (YP.cI (.slice xa xk xc,it)).toArray 262)).heap.size=w1.heap.size+1:=by simp
     clear E j ab D Z Vl c0 f0 V;go_wp2_with fail;go_roundg aG.length
     case measure=>omega
     case rel=>
      refine⟨aG,l++[it],_,T,rfl,by omega,by simp;omega,?_,ad.setOther _ _ (by omega) (by omega),Q.set 0 _,B.other (by omega) _,?_,eF OX (by omega) _ _,Cw⟩
      ·simp only[World.setCell,Array.size_modify];have:=ae;simp at this;omega
      ·exact mP.kept (Iq YP d) G3 (iM w3 (w.heap.size+1) 0 _) (fun k W=>by cases W;omega)
end
namespace Pk
def mF(b:ByteArray)(i:Nat):Nat:=(b.data.getD i 0).toNat
def BP(b:ByteArray)(k:Nat):Nat->Nat
 |0=>0
 |i+1=>BP b k i*256+mF b (k+i)
structure Rd where
 k:Nat
 bad:Bool
def Rd.fail(r:Rd):Rd:={ r with bad:=true }
def num(b:ByteArray)(n:Nat)(r:Rd):Nat×Rd:=if b.size-r.k<n then (0,r.fail) else (BP b r.k n,{ r with k:=r.k+n })
def below(b:ByteArray)(m n:Nat)(r:Rd):Nat×Rd:=if m<=(num b n r).1 then (0,(num b n r).2.fail) else num b n r
def size(b:ByteArray)(m:Nat)(r:Rd):Nat×Rd:=((below b m 2 r).1+1,(below b m 2 r).2)
theorem Jp(b:ByteArray)(i:Nat):mF b i<256:=(b.data.getD i 0).toNat_lt
theorem R4(b:ByteArray)(k:Nat):∀n,BP b k n<256 ^ n
 |0=>by simp[BP]
 |n+1=>by
  have h1:=R4 b k n;have h2:=Jp b (k+n);rw[BP,Nat.pow_succ];omega
theorem FX(b:ByteArray)(n:Nat)(r:Rd):(num b n r).1<256 ^ n:=by
 unfold num
 split
 ·exact Nat.pow_pos (by decide)
 ·exact R4 b r.k n
theorem yL{b:ByteArray}{m n:Nat}{r:Rd}(h:0<m):(below b m n r).1<m:=by
 unfold below
 split
 ·exact h
 ·omega
end Pk
structure fP(w:World)(rb:Nat)(b:ByteArray)(r:Pk.Rd):Prop where
 blk:aj w rb #[.string (b.extract r.k b.size),.bool r.bad] 71
 le:r.k<=b.size
theorem fP.move{w w':World}{rb:Nat}{b:ByteArray}{r:Pk.Rd}(h:fP w rb b r)(a:w'.heap[rb]?=w.heap[rb]?):fP w' rb b r:=⟨a.trans h.blk,h.le⟩
structure jg(w:World)(rb:Nat)(b:ByteArray)(w':World)(r':Pk.Rd):Prop where
 m:fP w' rb b r'
 g:w.grownBy w' (some rb)
 bX:w'.heap.size=w.heap.size
theorem fP.fail{w:World}{rb:Nat}{b:ByteArray}{r:Pk.Rd}(h:fP w rb b r):jg w rb b (w.setCell ⟨rb,1,none⟩ (.bool true)) r.fail:=⟨⟨h.blk.set 1 _,h.le⟩,iM _ _ _ _,by simp⟩
theorem abX(b:ByteArray)(k n:Nat):(b.extract k b.size).extract n (b.extract k b.size).size=b.extract (k+n) b.size:=by
 rw[xy];congr 1;simp;omega
theorem ext_get(b:ByteArray)(k i:Nat)(h:k+i<b.size)(h2:i<(b.extract k b.size).size):(((b.extract k b.size)[i]).toNat:Int)=((Pk.mF b (k+i):Nat):Int):=by
 unfold Pk.mF;have e:(b.extract k b.size)[i]=b[k+i]:=ByteArray.getElem_extract ..;have a:k+i<b.data.size:=h;rw[e,mT,kk a];rfl
theorem amM(x y:Nat)(d:x<16777216)(b:y<256):bits BinOp.or IntKind.u32 ((x:Int)*256 % 4294967296) ((y:Int) % 4294967296)=((x*256+y:Nat):Int):=by
 have a:(x:Int)*256 % 4294967296=((x*256:Nat):Int):=by omega
 have c:(y:Int) % 4294967296=((y:Nat):Int):=by omega
 rw[a,c,u32_or_nat _ _ (by omega) (by omega),nat_join 8 (x*256) y (by omega) b]
theorem Fz{w:World}{rb n:Nat}{b:ByteArray}{r:Pk.Rd}(h:fP w rb b r)(B:n<=4):Calls prog 29 #[.pointer (some ⟨rb,0,none⟩),.int .i64 (n:Int)] w fun e w'=>e=.returned (.int .u32 ((Pk.num b n r).1:Int))/\jg w rb b w' (Pk.num b n r).2:=by
 obtain⟨s,a⟩:∃s,s=b.extract r.k b.size:=⟨_,rfl⟩;have hsz:s.size=b.size-r.k:=by rw[a];simp
 have q:w.cell? ⟨rb,0,none⟩=some (.string s):=by rw[a];exact h.blk.cell 0
 have A:w.cell? ⟨rb,1,none⟩=some (.bool r.bad):=h.blk.cell 1;have y:=h.blk.frozen 0;have x:=h.blk.frozen 1;have f:Hid (jg w rb b (w.setCell ⟨rb,1,none⟩ (.bool true)) r.fail):=h.fail
 by_cases hlt:s.size<n
 ·have en:Pk.num b n r=(0,r.fail):=by unfold Pk.num;rw[dj (by omega)]
  rw[en];have g:(s.size:Int)<(n:Int):=by omega
  clear hsz a en;go_enter func29,ntmps29;go_wp2_with fail;go_ret;exact⟨rfl,f.out⟩
 ·have en:Pk.num b n r=(Pk.BP b r.k n,{ r with k:=r.k+n }):=by unfold Pk.num;rw[dt (by omega)]
  rw[en];have g:¬(s.size:Int)<(n:Int):=by omega
  have l:Hid (∀i(d:i<s.size),((s[i]).toNat:Int)=((Pk.mF b (r.k+i):Nat):Int)):=by subst a;exact fun i d=>ext_get b r.k i (by omega) d
  have m:Hid (jg w rb b (w.setCell ⟨rb,0,none⟩ (.string (s.extract n s.size))) { r with k:=r.k+n }):=by
   subst a;have o:=h.le;refine⟨⟨?_,by show r.k+n<=b.size;omega⟩,iM _ _ _ _,by simp⟩;rw[abX];exact h.blk.set 0 _
  clear hsz a en f;go_enter func29,ntmps29;go_wp2_with fail
  go_loop [5,18] (fun v i=>∃j:Nat,j<=n/\i=.int .i64 (j:Int)/\v=.int .u32 ((Pk.BP b r.k j:Nat):Int)) (fun _ i=>n - (intOf i).toNat)
  case atStart=>exact⟨0,by omega,rfl,rfl⟩
  case round=>
   obtain⟨j,p,rfl,rfl⟩:=hrel
   by_cases hjn:j<n
   ·have c:j<s.size:=by omega
    have z:(j:Int)<(n:Int):=by omega
    have u:=l.out j c;go_wp2_with fail;refine⟨⟨j+1,by omega,by go_num,?_⟩,by simp[intOf];omega⟩;rw[Pk.BP,amM _ _ (dd (Pk.R4 b r.k j) (sf (by decide) (show j<=3 by omega))) (Pk.Jp b _)]
   ·obtain rfl:j=n:=by omega
    have t:(0:Int)<=(j:Int):=by omega
    go_wp2_with fail;go_ret;exact⟨rfl,m.out⟩
theorem Fp{w:World}{rb m n:Nat}{b:ByteArray}{r:Pk.Rd}(h:fP w rb b r)(c:n<=4):Calls prog 28 #[.pointer (some ⟨rb,0,none⟩),.int .i64 (m:Int),.int .i64 (n:Int)] w fun e w'=>e=.returned (.int .i64 ((Pk.below b m n r).1:Int))/\jg w rb b w' (Pk.below b m n r).2:=by
 have a:=Fz h c;have j:(Pk.num b n r).1<4294967296:=dd (Pk.FX b n r) (by have:256 ^ n<=256 ^ 4:=sf (by decide) c;exact this);have f:Hid (∀w',jg w rb b w' (Pk.num b n r).2->jg w rb b (w'.setCell ⟨rb,1,none⟩ (.bool true)) (Pk.num b n r).2.fail/\w'.cell? ⟨rb,1,none⟩=some (.bool (Pk.num b n r).2.bad)/\w'.frozen? ⟨rb,1,none⟩=false):=fun w' T=>⟨⟨T.m.fail.m,aR T.g T.m.fail.g,T.m.fail.bX.trans T.bX⟩,T.m.blk.cell 1,T.m.blk.frozen 1⟩
 unfold Pk.below;generalize Pk.num b n r=x at *
 by_cases hm:m<=x.1
 ·rw[dj hm]
  have d:(m:Int)<=(x.1:Int):=by omega
  go_enter func28,ntmps28;go_upto_region 2 with (go_at_call 29;refine a.mono ?_;rintro e w1⟨rfl,T⟩)
  obtain⟨i,k,l⟩:=f.out _ T;go_wp2_with fail;go_ret;exact⟨rfl,i⟩
 ·rw[dt hm]
  have d:(x.1:Int)<(m:Int):=by omega
  go_enter func28,ntmps28
  go_wp2_with (go_at_call 29;refine a.mono ?_;rintro e w1⟨rfl,T⟩)
  go_ret;exact⟨rfl,T⟩
theorem MR{w:World}{rb m:Nat}{b:ByteArray}{r:Pk.Rd}(h:fP w rb b r)(c:0<m)(d:m<=100000):Calls prog 26 #[.pointer (some ⟨rb,0,none⟩),.int .i64 (m:Int)] w fun e w'=>e=.returned (.int .i64 ((Pk.size b m r).1:Int))/\jg w rb b w' (Pk.size b m r).2:=by
 have a:=Fp (m:=m) h (show 2<=4 by decide);have f:=Pk.yL (b:=b) (n:=2) (r:=r) c;unfold Pk.size;generalize Pk.below b m 2 r=x at *;go_enter func26,ntmps26
 go_wp2_with (go_at_call 28;refine a.mono ?_;rintro e w1⟨rfl,T⟩)
 go_ret;exact⟨DC (by omega),T⟩
namespace Pk
def emp:ByteArray:=ByteArray.empty
def words(b:ByteArray):Nat->Rd->List ByteArray×Rd
 |0,r=>([],r)
 |n+1,r=>if b.size - (num b 1 r).2.k<(num b 1 r).1 then (List.replicate (n+1) emp,(num b 1 r).2.fail) else
  (b.extract (num b 1 r).2.k ((num b 1 r).2.k+(num b 1 r).1)::(words b n { (num b 1 r).2 with k:=(num b 1 r).2.k+(num b 1 r).1 }).1,(words b n { (num b 1 r).2 with k:=(num b 1 r).2.k+(num b 1 r).1 }).2)
theorem II(b:ByteArray):∀n r,(words b n r).1.length=n
 |0,_=>rfl
 |n+1,r=>by
  rw[words]
  split
  ·simp
  ·simp[II b n]
end Pk
def lQ(l:List ByteArray):Array Value:=(l.map Value.string).toArray
theorem ajM(l:List ByteArray)(i:Nat)(s:ByteArray):(lQ l).setIfInBounds i (.string s)=lQ (l.set i s):=by
 unfold lQ;rw[kf,oj]
theorem ajN(l:List ByteArray){i:Nat}{s:ByteArray}(h:l[i]?=some s):(lQ l)[i]?=some (.string s):=by
 unfold lQ;simp[h]
theorem Tryz.amN:(prog.info? 9).map (fun i=>(i.zero,i.size,i.bytes))=some (some (.string Pk.emp),1,16):=by kernel_rfl
theorem aiv(n:Nat):madeCells #[.string Pk.emp] (n*1)=lQ (List.replicate n Pk.emp):=by
 unfold madeCells lQ;apply qe
 ·simp
 ·intro i h1 h2
  simp[Nat.mod_one]
theorem aiw{n:Nat}(g:n<=100000)(w:World):(Instr.makeSlice 53 (.int .i64 (n:Int)) (.int .i64 (n:Int))).run prog w=.ok (.slice (some ⟨w.heap.size,0,none⟩) n n) (w.alloc (.cells (lQ (List.replicate n Pk.emp)) 9)):=by
 obtain⟨f,d,b,c,a⟩:=ft Tryz.amN;have h:=pA (P:=prog) w 53 9 f _ (by kernel_rfl) d b .i64 .i64 (n:Int) (n:Int) (by omega) (nF _) (by rw[a];omega) (by omega);rw[h,im,c];have e:Value.cells (.string Pk.emp)=#[.string Pk.emp]:=rfl;rw[e,aiv]
theorem amO(b:ByteArray)(k n:Nat)(a:k<=b.size)(h:n<=b.size-k):(b.extract k b.size).extract 0 n=b.extract k (k+n):=by
 rw[xy];congr 1;omega
theorem fV(W:World){g k i:Nat}(u:Value)(h:k≠g):(W.setCell ⟨g,i,none⟩ u).heap[k]?=W.heap[k]?:=fX _ _ _ _ h
theorem Z0{w:World}{rb n:Nat}{b:ByteArray}{r:Pk.Rd}(h:fP w rb b r)(K:n<=1000):Calls prog 27 #[.pointer (some ⟨rb,0,none⟩),.int .i64 (n:Int)] w fun e w'=>e=.returned (.slice (some ⟨w.heap.size,0,none⟩) n n)/\aj w' w.heap.size (lQ (Pk.words b n r).1) 9/\fP w' rb b (Pk.words b n r).2/\w.grownBy w' (some rb):=by
 have E:=fun w=>aiw (n:=n) (by omega) w
 have G:=h.blk.lt;obtain⟨g,N⟩:∃g,w.heap.size=g:=⟨_,rfl⟩;obtain⟨w1,v⟩:∃V,V=w.alloc (.cells (lQ (List.replicate n Pk.emp)) 9):=⟨_,rfl⟩;have A:Hid (fP w1 rb b r/\aj w1 w.heap.size (lQ (List.replicate n Pk.emp)) 9/\w.grownBy w1 (some rb)):=by
  rw[v];exact⟨h.move (dg _ _ _ G),aj.new ..,bJ ..⟩
 clear h;rw[N]at A|-;go_enter func27,ntmps27;go_wp2_with fail;rw[<-v];clear v E
 go_loopw [12] (fun i wr=>∃(j:Nat)(t:Pk.Rd)(l:List ByteArray),i=.int .i64 (j:Int)/\Hid (j<=n/\l.length=j/\fP wr rb b t/\aj wr g (lQ (l++List.replicate (n-j) Pk.emp)) 9/\w.grownBy wr (some rb)/\Pk.words b n r=(l++(Pk.words b (n-j) t).1,(Pk.words b (n-j) t).2))) (fun i _=>n - (intOf i).toNat)
 case atStart=>exact⟨0,r,[],rfl,by omega,rfl,A.out.1,A.out.2.1,A.out.2.2,rfl⟩
 case round=>
  clear A;obtain⟨j,t,l,rfl,I⟩:=hrel;obtain⟨hj,D,a,f,d,o⟩:=I.out;clear I
  by_cases hjn:j<n
  ·have j1:(j:Int)<(n:Int):=by omega
   have j0:(0:Int)<=(j:Int):=by omega
   have C:=Fz a (show 1<=4 by decide);have Z:=Pk.FX b 1 t;obtain⟨m,J⟩:∃m,n-j=m+1:=⟨n-j-1,by omega⟩;rw[J,Pk.words]at o;obtain⟨x,z⟩:∃x,Pk.num b 1 t=x:=⟨_,rfl⟩;rw[z]at C Z o;have p:rb≠g:=by omega
   have L:Hid (∀w2,jg wr rb b w2 x.2->fP w2 rb b x.2/\aj w2 g (lQ (l++List.replicate (m+1) Pk.emp)) 9/\w.grownBy w2 (some rb)):=fun w2 T=>⟨T.m,by rw[<-J];exact f.grown T.g (by simp;omega),aR d T.g⟩
   clear z a f d;go_upto_region 6 with (go_at_call 29;refine C.mono ?_;rintro e w2⟨rfl,T⟩)
   obtain⟨a,f,d⟩:=L.out _ T;clear L C T;obtain⟨s,y⟩:∃s,s=b.extract x.2.k b.size:=⟨_,rfl⟩;have hsz:s.size=b.size-x.2.k:=by rw[y];simp
   have c0:w2.cell? ⟨rb,0,none⟩=some (.string s):=by rw[y];exact a.blk.cell 0
   have c1:w2.cell? ⟨rb,1,none⟩=some (.bool x.2.bad):=a.blk.cell 1;have f0:=a.blk.frozen 0;have f1:=a.blk.frozen 1
   by_cases hlt:s.size<x.1
   ·rw[dj (by omega)]at o
    have P:(s.size:Int)<(x.1:Int):=by omega
    have Q:Hid (aj (w2.setCell ⟨rb,1,none⟩ (.bool true)) g (lQ (Pk.words b n r).1) 9/\fP (w2.setCell ⟨rb,1,none⟩ (.bool true)) rb b (Pk.words b n r).2/\w.grownBy (w2.setCell ⟨rb,1,none⟩ (.bool true)) (some rb)):=by
     rw[o];exact⟨f.other p _,a.fail.m,aR d a.fail.g⟩
    clear f a d hsz y o;go_wp2_with fail;go_ret;exact⟨rfl,Q.out⟩
   ·rw[dt (by omega)]at o
    have P:(x.1:Int)<=(s.size:Int):=by omega
    have S:w2.cell? ⟨g,j,none⟩=some (.string Pk.emp):=(f.cell j).trans (ajN _ (by rw[eN (by omega),D,ib];rfl));have fj:=f.frozen j;have Y:Hid (∀c,Below w2.heap.size w2 c->c.cell? ⟨rb,0,none⟩=some (.string s)/\c.frozen? ⟨rb,0,none⟩=false/\c.cell? ⟨g,j,none⟩=some (.string Pk.emp)/\c.frozen? ⟨g,j,none⟩=false/\fP ((c.setCell ⟨g,j,none⟩ (.string (s.extract 0 x.1))).setCell ⟨rb,0,none⟩ (.string (s.extract x.1 s.size))) rb b { x.2 with k:=x.2.k+x.1 }/\aj ((c.setCell ⟨g,j,none⟩ (.string (s.extract 0 x.1))).setCell ⟨rb,0,none⟩ (.string (s.extract x.1 s.size))) g (lQ (l++[b.extract x.2.k (x.2.k+x.1)]++List.replicate m Pk.emp)) 9/\w.grownBy ((c.setCell ⟨g,j,none⟩ (.string (s.extract 0 x.1))).setCell ⟨rb,0,none⟩ (.string (s.extract x.1 s.size))) (some rb)):=fun c q=>by
     have F:=a.move (q.block _ a.blk.lt);have u:aj c g (lQ (l++List.replicate (m+1) Pk.emp)) 9:=(q.block _ f.lt).trans f;have B:=a.le;refine⟨by rw[y];exact F.blk.cell 0,F.blk.frozen 0,(u.cell j).trans ((f.cell j).symm.trans S),u.frozen j,⟨?_,by show x.2.k+x.1<=b.size;omega⟩,?_,?_⟩
     ·subst y
      have:=(F.blk.other (b':=g) (i:=j) (fun e=>p e.symm) (.string ((b.extract x.2.k b.size).extract 0 x.1))).set 0 (.string ((b.extract x.2.k b.size).extract x.1 (b.extract x.2.k b.size).size));rw[abX]at this|-;exact this
     ·have:=(u.set j (.string (s.extract 0 x.1))).other (b':=rb) (i:=0) p (.string (s.extract x.1 s.size))
      rw[ajM,mB _ _ (by omega),D,ib,nh,oe]at this;rw[dq,zt,<-amO b x.2.k x.1 B (by omega),<-y];exact this
     ·refine aR (b:=c.setCell ⟨g,j,none⟩ (.string (s.extract 0 x.1))) ⟨q.1.trans d.1,q.2.trans d.2,q.3.trans d.3,?_,fun k B K=>?_⟩ (iM _ _ _ _)
      ·simp only[World.size_setCell]
       exact de d.size q.size
      ·rw[fV _ _ (by omega),q.block k (dd B d.size)]
       exact d.block k B K
    have O:Hid (Pk.words b n r=(l++[b.extract x.2.k (x.2.k+x.1)]++(Pk.words b m { x.2 with k:=x.2.k+x.1 }).1,(Pk.words b m { x.2 with k:=x.2.k+x.1 }).2)):=by
     rw[o,dq];rfl
    clear a f d y hsz o;have n0:(0:Int)<=(x.1:Int):=by omega
    go_upto_region 10 with (go_at_call 57;refine(MG _ _ (by simp;omega)).mono ?_;rintro e c⟨rfl,q⟩;obtain⟨X,H,k3,k4,k5,R,M⟩:=Y.out _ q)
    have U:(c.setCell ⟨g,j,none⟩ (.string (s.extract 0 x.1))).cell? ⟨rb,0,none⟩=some (.string s):=(cM (w:=c) (fV _ _ p)).trans X;have W:(c.setCell ⟨g,j,none⟩ (.string (s.extract 0 x.1))).frozen? ⟨rb,0,none⟩=false:=by
     unfold World.frozen? at H|-;rw[fV _ _ p];exact H
    go_wp2_with fail;refine⟨⟨j+1,_,l++[b.extract x.2.k (x.2.k+x.1)],by go_num,by omega,by simp[D],k5,?_,M,?_⟩,by simp[intOf];omega⟩
    ·rw[show n - (j+1)=m by omega]
     exact R
    ·rw[show n - (j+1)=m by omega]
     exact O.out
  ·obtain rfl:j=n:=by omega
   rw[ib,Pk.words]at o;rw[ib,sX,<-show (Pk.words b j r).1=l++[] by rw[o]]at f;rw[<-show (Pk.words b j r).2=t by rw[o]]at a;clear o;go_wp2_with fail;go_ret;exact⟨rfl,f,a,d⟩
theorem aC{w:World}{base e size:Nat}{v:Value}{n:Nat}{b:List Value}(h:w.ownsRow base e size v n b):∃a c,v=.slice a n c/\n<=maxLen:=by
 rcases h.2 with ⟨rfl,rfl⟩|⟨g,f,d,rfl,_,_,h1,h2,_⟩
 ·exact⟨_,_,rfl,ff _⟩
 ·exact⟨_,_,rfl,de h1 h2⟩
theorem own_below{w w':World}{base e size:Nat}{v:Value}{n:Nat}{a:List Value}(h:w.ownsRow base e size v n a)(b:Below w.heap.size w w'):w'.ownsRow base e size v n a :=
 aD h fun g c=>b.block g (h.lt g c).2
