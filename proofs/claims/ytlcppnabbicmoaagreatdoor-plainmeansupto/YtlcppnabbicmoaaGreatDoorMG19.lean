import Derived.Test.YtlcppnabbicmoaaGreatDoorMG18
import Derived.Laws.BitsLemmas
set_option maxHeartbeats 8000000
set_option maxRecDepth 1000000
namespace Go.Proofs.YtlcppnabbicmoaaGreatDoor
open Lx Go.Proofs.Tryz
open Go.RowKit Tr
theorem wrap_small {n:Int}(h0:0<=n)(h1:n<=9223372036854775807):IntKind.i64.wrap n=n:=by rw[IntKind.wrap_i64];omega
def gV (r:List Nat):List Value:=r.map fun (s:Nat)=>.int .i64 (s:Int)
theorem xg (r:List Nat):(gV r).length=r.length:=by simp[gV]
theorem yE (a b:List Nat):gV (a++b)=gV a++gV b:=by simp[gV]
theorem KU (r:List Nat):∀ u∈gV r,u.oneCell'=true:=by
 intro u hu;obtain⟨s,-,rfl⟩:=List.mem_map.1 hu;rfl
theorem ahf {r:List Nat}{j:Nat}(h:j<r.length):(gV r)[j]?=some (.int .i64 (r[j]:Int)):=by simp[gV,h]
def IR (B:Nat)(w:World)(v:Value)(r:List Nat):Prop:=w.ownsRow B 3 1 v r.length (gV r)
def Lx.oG (b n:Nat):List Nat:=(List.range n).map fun k=>b+1+k
structure Dl (F:Nat->Prop) (w:World) (mb:Nat) (T N:List ByteArray) (b:Nat) (H:List Lx.It):Prop where
 ex:∃ vT vN vP vB vK vH vL,aj w mb #[vT,vN,vP,vB,vK,vH,vL] 135/\w.ownsRow 0 9 1 vT T.length (T.map Value.string)/\w.ownsRow 0 9 1 vN N.length (N.map Value.string)/\HR 0 F w vH H/\IR 0 w vL (oG b H.length)
 lt:∀ g,F g->g<w.heap.size
 tn:T.length+N.length<=100000
 bn:b+H.length<=200000
 FK:(H.map Lx.It.place).Pairwise (·< ·)
theorem Dl.below {F:Nat->Prop}{w w':World}{mb:Nat}{T N:List ByteArray}{b:Nat}{H:List Lx.It}(h:Dl F w mb T N b H)(hb:Below w.heap.size w w'):Dl F w' mb T N b H:=by
 obtain⟨⟨vT,vN,vP,vB,vK,vH,vL,h1,h2,h3,h4,h5⟩,hl,h6,h7,h8⟩:=h;have hH:∀ g,vH.ownBlock=some g->g<w.heap.size:=fun g hg=>by
  obtain⟨ps,-,k2,-⟩:=h4;exact (k2.lt g hg).2
 exact⟨⟨vT,vN,vP,vB,vK,vH,vL,(hb.block _ h1.lt).trans h1,aD h2 fun g hg=>hb.block g (h2.lt g hg).2,aD h3 fun g hg=>hb.block g (h3.lt g hg).2,h4.move (fun b hF=>hb.block b (hl b hF)) (fun g hg=>hb.block g (hH g hg)),aD h5 fun g hg=>hb.block g (h5.lt g hg).2⟩,fun g hg=>Nat.lt_of_lt_of_le (hl g hg) hb.size,h6,h7,h8⟩
def Dm (va:Value)(it:Lx.It):Value:=.agg #[.int .i64 (it.kind:Int),.string it.name,.int .u8 (it.mark:Int),va,.int .i64 (it.place:Int)]
def Lx.qi (T N:List ByteArray)(it:Lx.It):Prop:=if it.kind=1 then 0<=bA T it.name else 0<=bA N it.name
theorem V3 {F:Nat->Prop} {w:World} {mb:Nat} {T N:List ByteArray} {b:Nat} {H:List Lx.It} (h:Dl F w mb T N b H) (it:Lx.It) (sa:Option Addr) (sn sc:Nat) (hp:qi T N it) :
  Calls prog 109 #[.pointer (some ⟨mb,0,none⟩),Dm (.slice sa sn sc) it] w fun e w'=>e=.returned (.int .i64 (fU T N it:Int))/\Below w.heap.size w w':=by
 obtain⟨⟨vT,vN,vP,vB,vK,vH,vL,h1,h2,h3,h4,h5⟩,hl,h6,h7,h8⟩:=h;obtain⟨ta,tc,tF,-⟩:=aI h2;obtain⟨na,nc,Dn,-⟩:=aI h3;subst tF Dn;have jL:=h1.lt;unfold Dm;go_enter func109,ntmps109;obtain⟨W1,hW1⟩:∃ W1,W1=w.alloc (.cells #[.int .i64 (it.kind:Int),.string it.name,.int .u8 (it.mark:Int),.slice sa sn sc,.int .i64 (it.place:Int)] 148):=⟨_,rfl⟩;have hb1:Below w.heap.size w W1:=by rw[hW1];exact (Below.refl _ _).alloc (lr0) _
 have hs1:W1.heap.size=w.heap.size+1:=by rw[hW1];simp
 have k1:aj W1 mb _ 135:=(hb1.block _ jL).trans h1;have kx:aj W1 w.heap.size #[.int .i64 (it.kind:Int),.string it.name,.int .u8 (it.mark:Int),.slice sa sn sc,.int .i64 (it.place:Int)] 148:=by rw[hW1];exact aj.new w _ 148
 have o2:W1.ownsRow 0 9 1 (.slice ta T.length tc) T.length (T.map Value.string):=aD h2 fun g hg=>hb1.block g (h2.lt g hg).2
 have o3:W1.ownsRow 0 9 1 (.slice na N.length nc) N.length (N.map Value.string):=aD h3 fun g hg=>hb1.block g (h3.lt g hg).2
 unfold qi at hp
 by_cases hk:it.kind=1
 ·have e1:fU T N it=Lx.fix T it.name:=if_pos hk
  rw[if_pos hk]at hp;have hkb:((it.kind:Int) == 1)=true:=by simp[hk]
  rw[e1];clear hk e1;go_wp2_with fail;rw[<-hW1];refine (Pj k1 o2 it.name hp).mono ?_;rintro e w2 ⟨rfl,hb2⟩;go_wp2_with fail;go_ret;exact⟨rfl,hb1.trans (hb2.mono hb1.size)⟩
 ·have e1:fU T N it=T.length+Lx.fix N it.name:=if_neg hk
  rw[if_neg hk]at hp;have hkb:((it.kind:Int) == 1)=false:=bq0 (by omega);obtain⟨hf1,hf2⟩:=uo hp;rw[e1];clear hk e1 hp;have c0:W1.cell? ⟨mb,0,none⟩=some (.slice ta T.length tc):=k1.cell 0;have c1:W1.cell? ⟨mb,1,none⟩=some (.slice na N.length nc):=k1.cell 1;have x1:W1.cell? ⟨w.heap.size,1,none⟩=some (.string it.name):=kx.cell 1;have q1:=Ez N it.name _ W1.drew (aD (w':=W1.drew) o3 fun g hg=>rfl);rw[hf1]at q1;have lm1:mb<W1.heap.size:=by omega
  go_wp2_with fail;rw[<-hW1];clear hW1
  go_region_law (refine mZ rfl 70 #[.slice na N.length nc,.string it.name] (by go_simp) q1 ?_;rintro e w2 ⟨rfl,hb2⟩;refine⟨_,rfl,?_⟩;have k2:aj w2 mb _ 135:=(hb2.block _ (show mb<W1.drew.heap.size from lm1)).trans (show aj W1.drew mb _ 135 from k1);have c20:w2.cell? ⟨mb,0,none⟩=some (.slice ta T.length tc):=k2.cell 0)
  all_goals
   have hb3:Below W1.heap.size W1 w2:=(Below.refl _ W1).drew.trans hb2;go_wp2_with fail;go_ret;refine⟨?_,hb1.trans (hb3.mono hb1.size)⟩;simp[Act.put,go_sem]
   all_goals exact wrap_small (by omega) (by omega)
section
open Go.RowKit
open Lx (Tk)
open Tr
section
variable {α:Type} {B:Nat} {aJ nZ:Value} {w w':World} {e s:Nat} {c:Value × α -> List Value} {K:(Nat -> Prop) -> World -> Value -> α -> Prop} {v:Value} {l:List α} {q:Nat}
theorem jd.one (hm:jP K) {w1 w2:World} (x:Value × α) (hB:B<=w.heap.size) (h1:w.heap.size<=w1.heap.size) (ho1:∀ g,nZ.ownBlock=some g->g<w1.heap.size) (hx:K (Fp w.heap.size nZ w1) w1 x.1 x.2) (hc:(c x).length=s) (g2:w1.grownBy w2 none) :
  jd B nZ (w2.alloc (.cells (c x).toArray e)) e s c K (.slice (some ⟨w2.heap.size,0,none⟩) 1 1) [x.2] [x] (Fp w.heap.size nZ w1):=by
 have s2:=g2.size;refine⟨⟨rfl,⟨by simp[hc],.inr ⟨w2.heap.size,1,(c x).toArray,rfl,by omega,heap_alloc_new w2 _,lr0,by unfold maxLen;omega,by simp[hc],?_⟩⟩,?_,?_,?_⟩,?_,?_⟩
 ·simp only[List.length_cons,List.length_nil,List.flatMap_cons,List.flatMap_nil,List.append_nil]
  exact List.take_of_length_le (by omega)
 ·intro q' hq'
  simp at hq';subst hq';exact hm _ _ w1 _ _ _ (fun b hb=>by rw[Below.heap_alloc _ _ _ (by have:=hb.2.1;omega),g2.block b hb.2.1 (by simp)]) (fun _ h=>h) hx
 ·intro b hb
  have:=hb.1;have:=hb.2.1;simp;omega
 ·intro g hg hF
  have:w2.heap.size=g:=by simpa [Value.ownBlock]using hg
  have:=hF.2.1;omega
 ·exact fun b hb=>hb.2.2
 ·intro g hg e'
  have:w2.heap.size=g:=by simpa [Value.ownBlock]using hg
  have:=ho1 _ e';omega
theorem jd.ajW {ps:List (Value × α)} {F:Nat->Prop} {A:Nat} (hm:jP K) (h:jd B aJ w e s c K v l ps F) (hq:q<B) (hB:B<=w.heap.size) (hA:A<w.heap.size) (Dh:¬ F A) {w1 w2 w3:World} (g1:Mv q aJ w w1) (n1:Nx aJ w nZ) (ho1:∀ g,nZ.ownBlock=some g->g<w1.heap.size) (x:Value × α)
  (hx:K (Fp w.heap.size nZ w1) w1 x.1 x.2) (g2:w1.grownBy w2 (some A)) {g cap:Nat} (ho:w3.ownsRow B e s (.slice (some ⟨g,0,none⟩) (l.length+1) cap) (l.length+1) (ps.flatMap c++c x))
  (g3:w2.grownBy w3 v.ownBlock) (ha:v.ownBlock=some g\/g=w2.heap.size):jd B nZ w3 e s c K (.slice (some ⟨g,0,none⟩) (l.length+1) cap) (l++[x.2]) (ps++[x]) (fun b=>F b\/Fp w.heap.size nZ w1 b):=by
 obtain⟨⟨h1,h2,h3,h4,h5⟩,h6,h7⟩:=h;have s1:=g1.size;have s2:=g2.size;have s3:=g3.size;have e1:∀ b,F b->w3.heap[b]?=w.heap[b]?:=fun b hF=>by
  have hb:=h4 b hF;rw[g3.block b (by omega) (fun e=>h5 b e.symm hF),g2.block b (by omega) (fun e=>Dh (by cases e;exact hF)),g1.block b hb.2 (by omega) (h6 b hF)]
 have e2:∀ b,Fp w.heap.size nZ w1 b->w3.heap[b]?=w1.heap[b]?:=fun b hI=>by
  rw[g3.block b (by have:=hI.2.1;omega) (fun e=>by have:=(h2.lt b e.symm).2;have:=hI.1;omega),g2.block b hI.2.1 (fun e=>by cases e;have:=hI.1;omega)]
 refine⟨⟨?_,?_,?_,?_,?_⟩,?_,?_⟩
 ·rw[List.map_append,h1];rfl
 ·rw[List.flatMap_append,List.length_append];simpa using ho
 ·intro q' hq'
  rcases List.mem_append.1 hq' with h' | h'
  ·exact hm F _ w w3 _ _ e1 (fun _ h=>.inl h) (h3 q' h')
  ·simp at h';subst h'
   exact hm _ _ w1 w3 _ _ e2 (fun _ h=>.inr h) hx
 ·intro b hb
  rcases hb with hb | hb
  ·have:=h4 b hb;omega
  ·have:=hb.1;have:=hb.2.1;omega
 ·intro g' hg'
  have:g=g':=by simpa [Value.ownBlock]using hg'
  subst this;rintro (hF | hI)
  ·rcases ha with ha | ha
   ·exact h5 _ ha hF
   ·have:=h4 _ hF;omega
  ·rcases ha with ha | ha
   ·have:=(h2.lt _ ha).2;have:=hI.1;omega
   ·have:=hI.2.1;omega
 ·intro b hb
  rcases hb with hb | hb
  ·exact n1.keep (h4 b hb).2 (h6 b hb)
  ·exact hb.2.2
 ·intro g' hg'
  have:g=g':=by simpa [Value.ownBlock]using hg'
  subst this;rcases ha with ha | ha
  ·exact n1.keep (h2.lt _ ha).2 (h7 _ ha)
  ·intro e';have:=ho1 _ e';omega
end
abbrev KIr (d:Nat):(Nat->Prop)->World->Value->Lx.Alt->Prop:=fun F w vi a=>bJ YR d F w vi a.1
theorem aie (t:Bool) (s:ByteArray) (q:Nat) (w:World) (nest:Int) (n a:Nat) (av:Value) (sg:List ByteArray) (h:RX s q w nest n a av sg) :
  Calls prog 117 #[.pointer (some ⟨q,0,none⟩),.bool t] w fun e w'=>∃ v,e=.returned v/\aak v/\Mv q av w w'/\RX s q w' nest n a av sg:=by
 have hp:=h.lt;go_enter func117,ntmps117;go_wp2_with fail;refine (ajd t s q _ nest n a av sg h).mono ?_;rintro e w1 ⟨rfl,m1,h1⟩;have M2:=(m1.alloc (.cells #[.slice none 0 0,.string ⟨#[]⟩,.int .i64 0] 145)).alloc (.cells #[.slice none 0 0,.string ⟨#[]⟩,.int .i64 0] 145);have h2:=(h1.alloc (.cells #[.slice none 0 0,.string ⟨#[]⟩,.int .i64 0] 145)).alloc (.cells #[.slice none 0 0,.string ⟨#[]⟩,.int .i64 0] 145);go_wp2_with fail
 go_loopg [6] 0 (fun k v wr=>(∃ xa xk xc,v=.slice xa xk xc)/\Mv q av w wr/\RX s q wr nest n a av sg)
 case atStart=>exact⟨⟨_,_,_,rfl⟩,M2,h2⟩
 case round =>
  obtain⟨⟨xa,xk,xc,rfl⟩,M3,h3⟩:=hrel
  go_wp2_with (first
   | (go_at_call 140;refine (LK h3 _).mono ?_;rintro e w' ⟨rfl,hw⟩;obtain rfl:=hw.symm))
  go_ret;exact⟨_,rfl,⟨_,_,_,rfl⟩,M3,h3⟩
theorem XL {d:Nat}(HA:YC d):KS d:=by
 intro s q w ts nest av sg sO h;obtain⟨i0,hi,hz0,hz1,hz2⟩:=info_parts Tryz.ajc;have hp:=h.lt;have HO:Hid (nest=8 - (d:Int)):=sO;have hcnt:=h.cnt;clear sO;have HE:Hid _:=Yi d ts;go_enter func117,ntmps117;go_wp2_with fail;refine (HA s q w ts nest av sg HO.out h).mono ?_;intro e w1 he;cases hr1:dJ (bE d) (d == 8) ts with
 | error x =>
  obtain⟨n,a⟩:=x;obtain⟨v1,sg1,sl1,rfl,m1,x1,hx1,xa,xl,xc,xb,xp,rfl⟩:=he.err hr1;have Jc:Hid (iN d ts=.error (n,a)):=by show _=_;rw[HE.out];unfold ni;rw[hr1]
  have M2:=(m1.alloc (.cells #[.slice xa xl xc,.string xb,.int .i64 xp] 145)).alloc (.cells #[.slice xa xl xc,.string xb,.int .i64 xp] 145);have h2:=(hx1.alloc (.cells #[.slice xa xl xc,.string xb,.int .i64 xp] 145)).alloc (.cells #[.slice xa xl xc,.string xb,.int .i64 xp] 145);clear hr1 he HE;go_wp2_with fail
  go_loopg [6] 0 (fun k v wr=>(∃ xa xk xc,v=.slice xa xk xc)/\Mv q av w wr/\RX s q wr nest n a sg1 sl1)
  case atStart=>exact⟨⟨_,_,_,rfl⟩,M2,h2⟩
  case round =>
   obtain⟨⟨xa,xk,xc,rfl⟩,M3,h3⟩:=hrel
   go_wp2_with (first
    | (go_at_call 140;refine (LK h3 _).mono ?_;rintro e w' ⟨rfl,hw⟩;obtain rfl:=hw.symm))
   go_ret;exact bM.no Jc.out M3 x1 h3 ⟨_,_,_,rfl⟩
 | ok x =>
  obtain⟨a1,aC⟩:=x;obtain⟨v1,sg1,sl1,rfl,m1,x1,Ra,vi,rfl,hv⟩:=he.ok hr1;have hl1:=BZ (zV d) hr1;have Db:Hid (iN d ts=iZ (bE d) (d == 8) aC.length aC [a1]):=by
   show _=_;rw[HE.out];unfold ni;rw[hr1]
  obtain⟨va,vk,vc,rfl⟩:=bJ.form hv;have s1:=m1.size;have hrA:=(Ra.alloc (.cells #[.slice va vk vc,.string a1.2.1,.int .i64 (a1.2.2:Int)] 145)).alloc (.cells #[.slice va vk vc,.string a1.2.1,.int .i64 (a1.2.2:Int)] 145);have r9:=(aj.new w1 #[.slice va vk vc,.string a1.2.1,.int .i64 (a1.2.2:Int)] 145).alloc (.cells #[.slice va vk vc,.string a1.2.1,.int .i64 (a1.2.2:Int)] 145);have MA:=(m1.alloc (.cells #[.slice va vk vc,.string a1.2.1,.int .i64 (a1.2.2:Int)] 145)).alloc (.cells #[.slice va vk vc,.string a1.2.1,.int .i64 (a1.2.2:Int)] 145);have fA0:sg1.ownBlock≠some w1.heap.size:=Ra.fresh (lr0);have G1:=jd.one (e:=145) (s:=3) (c:=YR.cA) (Gp YR d) (B:=w.heap.size) (.slice va vk vc,a1) (lr0) s1 Ra.eD hv rfl (cK w1 (.cells #[.slice va vk vc,.string a1.2.1,.int .i64 (a1.2.2:Int)] 145) none);rw[show (w1.alloc (.cells #[.slice va vk vc,.string a1.2.1,.int .i64 (a1.2.2:Int)] 145)).heap.size=w1.heap.size+1 by simp]at G1;have nF:¬ Fp w.heap.size sg1 w1 w1.heap.size:=fun e=>by have:=e.2.1;omega
  clear hr1 he HE;go_wp2_with fail
  go_loopg [6] (aC.length+1) (fun k v wr=>(∃ (aB:List Tk) (acc:List Lx.Alt) (bI:Value) (gI:List ByteArray) (f:Nat) (ps:List (Value × Lx.Alt)) (F:Nat->Prop) (ca:Option Addr) (ck cc:Nat) (cb:ByteArray) (cp:Int),aB.length+1=k/\aB.length<=f/\acc.length+aB.length<=ts.length+1/\RR s q wr aB nest bI gI/\aj wr w1.heap.size #[.slice ca ck cc,.string cb,.int .i64 cp] 145/\bI.ownBlock≠some w1.heap.size /\
    jd w.heap.size bI wr 145 3 YR.cA (KIr d) v acc ps F/\¬ F w1.heap.size/\v.ownBlock≠some w1.heap.size/\Mv q av w wr/\Nx av w bI/\Hid (iN d ts=iZ (bE d) (d == 8) f aB acc)) \/
   (∃ (n a:Nat) (bI:Value) (gI:List ByteArray) (xa:Option Addr) (xk xc:Nat),k=0/\v=.slice xa xk xc/\RX s q wr nest n a bI gI/\Mv q av w wr/\Nx av w bI/\Hid (iN d ts=.error (n,a))))
  case atStart=>exact .inl ⟨aC,[a1],sg1,sl1,aC.length,_,_,_,_,_,_,_,rfl,lr0,by simp;omega,hrA,r9,fA0,G1,nF,by simp[Value.ownBlock],MA,x1,Db⟩
  case round =>
   clear hrA r9 MA fA0 G1 nF hv;rcases hrel with ⟨aB,acc,bI,gI,f,ps,F,ca,ck,cc,cb,cp,hk,hf,hacc,hr,kA,fA,hrg,Dh,Di,M,X,hpm⟩ | ⟨n,a,bI,gI,xa,xk,xc,hk,rfl,hx,M,X,Jc⟩
   ·have hne:=hr.wf.ne
    obtain⟨f',rfl⟩:∃ f',f=f'+1:=⟨f-1,by omega⟩;obtain⟨tJ,Nr,Ns,rfl⟩:=sG hrg.1.2.1
    by_cases hb:Lx.hd aB=sP
    ·have HB:Hid (Lx.hd aB=sP):=hb
     clear hb;have htl:=hr.wf.mJ;go_wp2_with fail;refine (Zh hr sP (by decide) (by decide) HB.out).mono ?_;rintro e w2 ⟨rfl,sg2,m2,x2,hr2⟩;go_wp2_with fail;refine (HA s q w2 aB.tail nest sg2 _ HO.out hr2).mono ?_;intro e w3 he;cases hr3:dJ (bE d) (d == 8) aB.tail with
     | error x =>
      obtain⟨n,a⟩:=x;obtain⟨v3,lI,qU,rfl,m3,x3,hx3,ya,yl,yc,yb,yp,rfl⟩:=he.err hr3;have Jc:Hid (iN d ts=.error (n,a)):=by
       show _=_;rw[hpm.out];simp only[iZ];rw[if_pos HB.out,hr3]
      clear hr3 he hpm;have Jd:=x2.keep (b:=w1.heap.size) kA.lt fA;have kA2:=kA.mv m2 (by omega) fA;have Bd:=x3.keep (b:=w1.heap.size) kA2.lt Jd;have kA3:=kA2.mv m3 (by omega) Jd;have m23:=m2.trans x2 m3;have x23:=x2.trans m2.size x3;have hrg3:=hrg.mv (Gp YR d) m23 x23 (by omega);have M3:=M.trans X m23;have X3:=X.trans M.size x23;have Je:=M3.size;have szr:=M.size;have c0:w3.cell? ⟨w1.heap.size,0,none⟩=some (.slice ca ck cc):=kA3.cell 0;have c1:w3.cell? ⟨w1.heap.size,1,none⟩=some (.string cb):=kA3.cell 1;have c2:w3.cell? ⟨w1.heap.size,2,none⟩=some (.int .i64 cp):=kA3.cell 2;have ff:∀ i,w3.frozen? ⟨w1.heap.size,i,none⟩=false:=kA3.frozen;have lA3:w1.heap.size<w3.heap.size:=kA3.lt;have tO:(((w3.setCell ⟨w1.heap.size,0,none⟩ (.slice ya yl yc)).setCell ⟨w1.heap.size,1,none⟩ (.string yb)).setCell ⟨w1.heap.size,2,none⟩ (.int .i64 yp)).heap.size=w3.heap.size:=by simp[World.setCell]
      have kN:=aj.new (((w3.setCell ⟨w1.heap.size,0,none⟩ (.slice ya yl yc)).setCell ⟨w1.heap.size,1,none⟩ (.string yb)).setCell ⟨w1.heap.size,2,none⟩ (.int .i64 yp)) #[.slice ya yl yc,.string yb,.int .i64 yp] 145;rw[tO]at kN;have QT:=aD (w':=(((w3.setCell ⟨w1.heap.size,0,none⟩ (.slice ya yl yc)).setCell ⟨w1.heap.size,1,none⟩ (.string yb)).setCell ⟨w1.heap.size,2,none⟩ (.int .i64 yp))) hrg3.1.2.1 (fun g hg=>by
       have hgA:g≠w1.heap.size:=fun e=>Di (by rw[hg,e])
       rw[hs0 hgA,hs0 hgA,hs0 hgA])
      have SX:=((kA3.set 0 (.slice ya yl yc)).set 1 (.string yb)).set 2 (.int .i64 yp);have hU:=((hx3.other 0 (.slice ya yl yc) (by omega) Bd).other 1 (.string yb) (by omega) Bd).other 2 (.int .i64 yp) (by omega) Bd;have MU:=((M3.new (b:=w1.heap.size) (by omega) 0 (.slice ya yl yc)).new (b:=w1.heap.size) (by omega) 1 (.string yb)).new (b:=w1.heap.size) (by omega) 2 (.int .i64 yp)
      go_wp2_with (first
       | (at_builtin;refine wpList_append_lies _ rfl _ _ 97 rfl w.heap.size 145 i0 _ 3 48 underlying97 hi hz0 hz1 hz2 rfl (by decide) (.slice tJ Nr Ns) acc.length (ps.flatMap YR.cA) rfl (QT.alloc _) ⟨w3.heap.size,0,none⟩ 1 1 [.slice ya yl yc,.string yb,.int .i64 yp] rfl rfl (bP kN) (by simp[Value.oneCell']) (by decide) (by unfold maxLen;omega) (by omega) (by simp[World.setCell];omega) _ rfl ?_;intro g4 cap4 w4 vG bX nE xE))
      have hv4:∀ k,(Value.slice tJ Nr Ns).ownBlock=some k->w.heap.size<=k:=fun k hk=>(hrg3.1.2.1.lt _ hk).1
      have Jf:=(SX.alloc (.cells #[.slice ya yl yc,.string yb,.int .i64 yp] 145)).grown bX (fun e=>Di e.symm);have M4:=(MU.alloc (.cells #[.slice ya yl yc,.string yb,.int .i64 yp] 145)).grown bX (fun k hk=>.inl (hv4 k hk));have SY:=(hU.alloc (.cells #[.slice ya yl yc,.string yb,.int .i64 yp] 145)).move (bX.block q (by simp[World.setCell];omega) (fun e=>by have:=hv4 _ e.symm;omega)) (fun g hg=>bX.block g (by have:=hx3.eD g hg;simp[World.setCell];omega) (fun e=>hrg3.2.2 g e.symm hg));go_roundg 0
      case measure=>omega
      case rel=>exact .inr ⟨n,a,lI,qU,_,_,_,rfl,rfl,SY,M4,X3,Jc⟩
     | ok x =>
      obtain⟨a3,fu⟩:=x;obtain⟨v3,lI,qU,rfl,m3,x3,Rb,vi3,rfl,hv3⟩:=he.ok hr3;have hl3:=BZ (zV d) hr3;have uV:Hid (iN d ts=iZ (bE d) (d == 8) f' fu (acc++[a3])):=by
       show _=_;rw[hpm.out];simp only[iZ];rw[if_pos HB.out,hr3]
      obtain⟨ya,yl,yc,rfl⟩:=bJ.form hv3;clear hr3 he hpm;have Jd:=x2.keep (b:=w1.heap.size) kA.lt fA;have kA2:=kA.mv m2 (by omega) fA;have Bd:=x3.keep (b:=w1.heap.size) kA2.lt Jd;have kA3:=kA2.mv m3 (by omega) Jd;have m23:=m2.trans x2 m3;have x23:=x2.trans m2.size x3;have hrg3:=hrg.mv (Gp YR d) m23 x23 (by omega);have M3:=M.trans X m23;have X3:=X.trans M.size x23;have Je:=M3.size;have szr:=M.size;have c0:w3.cell? ⟨w1.heap.size,0,none⟩=some (.slice ca ck cc):=kA3.cell 0;have c1:w3.cell? ⟨w1.heap.size,1,none⟩=some (.string cb):=kA3.cell 1;have c2:w3.cell? ⟨w1.heap.size,2,none⟩=some (.int .i64 cp):=kA3.cell 2;have ff:∀ i,w3.frozen? ⟨w1.heap.size,i,none⟩=false:=kA3.frozen;have lA3:w1.heap.size<w3.heap.size:=kA3.lt;have tO:(((w3.setCell ⟨w1.heap.size,0,none⟩ (.slice ya yl yc)).setCell ⟨w1.heap.size,1,none⟩ (.string a3.2.1)).setCell ⟨w1.heap.size,2,none⟩ (.int .i64 (a3.2.2:Int))).heap.size=w3.heap.size:=by simp[World.setCell]
      have kN:=aj.new (((w3.setCell ⟨w1.heap.size,0,none⟩ (.slice ya yl yc)).setCell ⟨w1.heap.size,1,none⟩ (.string a3.2.1)).setCell ⟨w1.heap.size,2,none⟩ (.int .i64 (a3.2.2:Int))) #[.slice ya yl yc,.string a3.2.1,.int .i64 (a3.2.2:Int)] 145;rw[tO]at kN;have QT:=aD (w':=(((w3.setCell ⟨w1.heap.size,0,none⟩ (.slice ya yl yc)).setCell ⟨w1.heap.size,1,none⟩ (.string a3.2.1)).setCell ⟨w1.heap.size,2,none⟩ (.int .i64 (a3.2.2:Int)))) hrg3.1.2.1 (fun g hg=>by
       have hgA:g≠w1.heap.size:=fun e=>Di (by rw[hg,e])
       rw[hs0 hgA,hs0 hgA,hs0 hgA])
      have SX:=((kA3.set 0 (.slice ya yl yc)).set 1 (.string a3.2.1)).set 2 (.int .i64 (a3.2.2:Int));have hU:=((Rb.other 0 (.slice ya yl yc) (by omega) Bd).other 1 (.string a3.2.1) (by omega) Bd).other 2 (.int .i64 (a3.2.2:Int)) (by omega) Bd;have MU:=((M3.new (b:=w1.heap.size) (by omega) 0 (.slice ya yl yc)).new (b:=w1.heap.size) (by omega) 1 (.string a3.2.1)).new (b:=w1.heap.size) (by omega) 2 (.int .i64 (a3.2.2:Int))
      go_wp2_with (first
       | (at_builtin;refine wpList_append_lies _ rfl _ _ 97 rfl w.heap.size 145 i0 _ 3 48 underlying97 hi hz0 hz1 hz2 rfl (by decide) (.slice tJ Nr Ns) acc.length (ps.flatMap YR.cA) rfl (QT.alloc _) ⟨w3.heap.size,0,none⟩ 1 1 [.slice ya yl yc,.string a3.2.1,.int .i64 (a3.2.2:Int)] rfl rfl (bP kN) (by simp[Value.oneCell']) (by decide) (by unfold maxLen;omega) (by omega) (by simp[World.setCell];omega) _ rfl ?_;intro g4 cap4 w4 vG bX nE xE))
      have hv4:∀ k,(Value.slice tJ Nr Ns).ownBlock=some k->w.heap.size<=k:=fun k hk=>(hrg3.1.2.1.lt _ hk).1
      have Jf:=(SX.alloc (.cells #[.slice ya yl yc,.string a3.2.1,.int .i64 (a3.2.2:Int)] 145)).grown bX (fun e=>Di e.symm);have M4:=(MU.alloc (.cells #[.slice ya yl yc,.string a3.2.1,.int .i64 (a3.2.2:Int)] 145)).grown bX (fun k hk=>.inl (hv4 k hk));have SY:=(hU.alloc (.cells #[.slice ya yl yc,.string a3.2.1,.int .i64 (a3.2.2:Int)] 145)).move (bX.block q (by simp[World.setCell];omega) (fun e=>by have:=hv4 _ e.symm;omega)) (fun g hg=>bX.block g (by have:=Rb.eD g hg;simp[World.setCell];omega) (fun e=>hrg3.2.2 g e.symm hg));have akq:bJ YR d (Fp wr.heap.size lI w3) w3 (.slice ya yl yc) a3.1:=bJ.move (fun _ _=>rfl) (fun b hb=>⟨Nat.le_trans m2.size hb.1,hb.2⟩) hv3;have G4:=jd.ajW (A:=w1.heap.size) (Gp YR d) hrg (q:=q) (by omega) szr kA.lt Dh m23 x23 Rb.eD (.slice ya yl yc,a3) akq (aY (aY (aY (gK w3 w1.heap.size 0 _) (gK _ w1.heap.size 1 _)) (gK _ w1.heap.size 2 _)) (cK _ _ _)) vG bX nE;go_roundg (fu.length+1)
      case measure=>omega
      case rel =>
       refine .inl ⟨fu,acc++[a3],lI,qU,f',_,_,_,_,_,_,_,rfl,by omega,by simp;omega,SY,Jf,Bd,G4,?_,?_,M4,X3,uV⟩
       ·rintro (h1 | h1)
        ·exact Dh h1
        ·have:=h1.1;have:=kA.lt;omega
       ·intro e
        have e':g4=w1.heap.size:=by simpa [Value.ownBlock]using e
        rcases nE with h1 | h1
        ·exact Di (by rw[h1,e'])
        ·have:((((w3.setCell ⟨w1.heap.size,0,none⟩ (.slice ya yl yc)).setCell ⟨w1.heap.size,1,none⟩ (.string a3.2.1)).setCell ⟨w1.heap.size,2,none⟩ (.int .i64 (a3.2.2:Int))).alloc (.cells #[.slice ya yl yc,.string a3.2.1,.int .i64 (a3.2.2:Int)] 145)).heap.size=w3.heap.size+1:=by simp[World.setCell]
         omega
    ·have HB:Hid (¬ Lx.hd aB=sP):=hb
     clear hb
     go_wp2_with (first
      | (go_at_call 140;refine (ZO hr sP (by decide) (by decide) HB.out).mono ?_;rintro e w' ⟨rfl,hw⟩;obtain rfl:=hw.symm))
     go_ret;refine bM.yes (x:=acc) (ts':=aB) (by rw[hpm.out];simp only[iZ];rw[if_neg HB.out]) M X hr ?_;exact jH.seq (Gp YR d) ⟨ps,F,hrg⟩
   ·go_wp2_with (first
     | (go_at_call 140;refine (LK hx _).mono ?_;rintro e w' ⟨rfl,hw⟩;obtain rfl:=hw.symm))
    go_ret;exact bM.no Jc.out M X hx ⟨_,_,_,rfl⟩
theorem YE:∀ d,d<=8->KS d
 | 0,_=>XL (YD (XK (by omega) (fun d' h=>by omega)))
 | d+1,h=>XL (YD (XK h (fun d' h'=>by cases h';exact YE d (by omega))))
end
section
open Go.RowKit
open Lx (Tk)
open Tr
def ajA (lo:Nat)(aJ:Value)(w':World)(v:Value)(r:Lx.Rl):Prop:=∃ va,v=.agg #[.string r.name,va,.int .i64 (r.place:Int)]/\ay YR 9 (Fp lo aJ w') w' va r.alts
def ajX (v:Value):Prop:=∃ n a l c p,v=.agg #[.string n,.slice a l c,.int .i64 p]
theorem RR.drew {s:ByteArray}{q:Nat}{w:World}{ts:List Tk}{nest:Int}{av:Value}{sg:List ByteArray}(h:RR s q w ts nest av sg):RR s q w.drew ts nest av sg:=h.move rfl fun _ _=>rfl
theorem YF (s:ByteArray) (q:Nat) (w:World) (ts:List Tk) (av:Value) (sg:List ByteArray) (h:RR s q w ts 0 av sg) :
  Calls prog 78 #[.pointer (some ⟨q,0,none⟩)] w (bM s q 0 (ajA w.heap.size) ajX w av (dI ts)):=by
 have hp:=h.lt;have qy:=h.SL;have kq:=h.blk;have c1:w.cell? ⟨q,1,none⟩=some (.int .i64 (Lx.pl ts:Int)):=kq.cell 1;have c2:w.cell? ⟨q,2,none⟩=some (.string (fJ (Lx.hd ts))):=kq.cell 2;have hZ:=h.alloc (.cells #[.string ⟨#[]⟩,.slice none 0 0,.int .i64 0] 99);have kZ:=aj.new w #[.string ⟨#[]⟩,.slice none 0 0,.int .i64 0] 99;have MZ:=(Mv.refl q av w).alloc (.cells #[.string ⟨#[]⟩,.slice none 0 0,.int .i64 0] 99);have qQ:av.ownBlock≠some w.heap.size:=h.fresh (lr0);have FL:av.ownBlock≠some (w.heap.size+1):=h.fresh (by omega);cases hn:Lx.isName (Lx.hd ts)
 ·have HN:Hid _:=hn
  have HE:Hid (dI ts=.error (2,Lx.pl ts)):=by
   show _=_;unfold dI dz;rw[if_neg (by rw[hn];simp)]
  clear hn;go_enter func78,ntmps78
  go_wp2_with (first
   | (go_at_call 116;refine (zY _ _ qy).mono ?_;rintro e w' ⟨rfl,hw⟩;obtain rfl:=hw.symm;rw[BM,HN.out]))
  refine (Ll hZ 2 (Lx.pl ts) (by decide)).mono ?_;rintro e w1 ⟨rfl,m1,hx1⟩;have kB1:=kZ.mv m1 (by omega) qQ;have e0:w1.cell? ⟨w.heap.size,0,none⟩=some (.string ⟨#[]⟩):=kB1.cell 0;have e1:w1.cell? ⟨w.heap.size,1,none⟩=some (.slice none 0 0):=kB1.cell 1;have e2:w1.cell? ⟨w.heap.size,2,none⟩=some (.int .i64 0):=kB1.cell 2;have ff:∀ i,w1.frozen? ⟨w.heap.size,i,none⟩=false:=kB1.frozen;have M1:=MZ.trans (Nx.refl _ _) m1;go_wp2_with fail;refine bodyPost_ret (v:=.agg #[.string ⟨#[]⟩,.slice none 0 0,.int .i64 0]) (by simp[results,results78,go_sem,e0,e1,e2]) rfl ?_;exact bM.no HE.out (((M1.new (lr0) _ _).new (lr0) _ _).new (lr0) _ _) (Nx.refl _ _) (((hx1.other _ _ (by omega) qQ).other _ _ (by omega) qQ).other _ _ (by omega) qQ) ⟨_,_,_,_,_,rfl⟩
 ·have HN:Hid _:=hn
  have HK:Hid (Lx.known (Lx.hd ts)=true):=Vr hn;have wD:Hid (Lx.hd ts≠aM):=by show _≠_;intro e;rw[e]at hn;revert hn;decide
  have HR1:Hid (dz Lx.isName ts=.ok (Lx.hd ts,ts.tail)):=by
   show _=_;unfold dz;rw[if_pos hn]
  have hrf:=nO HK.out;clear hn;rw[hrf]at c2 qy;clear hrf;have hX:=(hZ.alloc (.cells #[.string (Lx.hd ts),.slice none 0 0,.int .i64 (Lx.pl ts:Int)] 99)).drew;have kB0:=(kZ.alloc (.cells #[.string (Lx.hd ts),.slice none 0 0,.int .i64 (Lx.pl ts:Int)] 99)).drew;have xP:=aj.new (w.alloc (.cells #[.string ⟨#[]⟩,.slice none 0 0,.int .i64 0] 99)) #[.string (Lx.hd ts),.slice none 0 0,.int .i64 (Lx.pl ts:Int)] 99;rw[show (w.alloc (.cells #[.string ⟨#[]⟩,.slice none 0 0,.int .i64 0] 99)).heap.size=w.heap.size+1 by simp]at xP;have xP:=xP.drew;have M0:=(MZ.alloc (.cells #[.string (Lx.hd ts),.slice none 0 0,.int .i64 (Lx.pl ts:Int)] 99)).drew;go_enter func78,ntmps78
  go_wp2_with (first
   | (go_at_call 116;refine (zY _ _ qy).mono ?_;rintro e w' ⟨rfl,hw⟩;obtain rfl:=hw.symm;rw[HN.out]))
  go_region
  go_wp2_with fail;refine (oV hX HK.out wD.out).mono ?_;rintro e w1 ⟨rfl,sg1,m1,x1,h1⟩;have bg:=x1.keep (b:=w.heap.size) kB0.lt qQ;have Dq:=x1.keep (b:=w.heap.size+1) xP.lt FL;have kB1:=kB0.mv m1 (by omega) qQ;have sj:=xP.mv m1 (by omega) FL;have M1:=M0.trans (Nx.refl _ _) m1;have X1:=(Nx.refl av w).trans M0.size x1;go_wp2_with fail;refine (Lm h1 kV (by decide) (by decide)).mono ?_;intro e w2 he;cases hr2:gU kV ts.tail with
  | error x =>
   obtain⟨n,a⟩:=x;obtain⟨v2,sg2,sl2,rfl,m2,x2,h2,rfl⟩:=he.err hr2;have HE:Hid (dI ts=.error (n,a)):=by show _=_;unfold dI;simp only[HR1.out,hr2]
   clear hr2 he;have lY:=x2.keep (b:=w.heap.size) kB1.lt bg;have Dr:=x2.keep (b:=w.heap.size+1) sj.lt Dq;have kB2:=kB1.mv m2 (by omega) bg;have qV:=sj.mv m2 (by omega) Dq;have M2:=M1.trans X1 m2;have X2:=X1.trans M1.size x2;go_wp2_with fail;refine (aie true s q _ 0 n a _ _ h2).mono ?_;rintro e w3 ⟨v3,rfl,⟨va,vk,vc,rfl⟩,m3,h3⟩;have jM:=qV.mv m3 (by omega) Dr;have kB3:=kB2.mv m3 (by omega) lY;have M3:=M2.trans X2 m3;have X3:=X2;have pK:=Dr;have lJ:=lY;have c31:w3.cell? ⟨w.heap.size+1,1,none⟩=some (.slice none 0 0):=jM.cell 1;have S9:∀ i,w3.frozen? ⟨w.heap.size+1,i,none⟩=false:=jM.frozen;have h3':=h3.other (b:=w.heap.size+1) 1 (.slice va vk vc) (by omega) pK;have Fg:=jM.set 1 (.slice va vk vc);have AL:aj (w3.setCell ⟨w.heap.size+1,1,none⟩ (.slice va vk vc)) w.heap.size #[.string ⟨#[]⟩,.slice none 0 0,.int .i64 0] 99:=kB3.other (by omega) _;have Bf:=M3.new (b:=w.heap.size+1) (by omega) 1 (.slice va vk vc);go_wp2_with fail;refine (Lp h3' _).mono ?_;rintro e w4 ⟨rfl,hw⟩;obtain rfl:=hw.symm;have gW:=Fg;have bC:=AL;have M4:=Bf;have X4:=X3;have h4:=h3';have l5:=lJ;have d0:(w3.setCell ⟨w.heap.size+1,1,none⟩ (.slice va vk vc)).cell? ⟨w.heap.size+1,0,none⟩=some (.string (Lx.hd ts)):=gW.cell 0;have d1:(w3.setCell ⟨w.heap.size+1,1,none⟩ (.slice va vk vc)).cell? ⟨w.heap.size+1,1,none⟩=some (.slice va vk vc):=gW.cell 1;have d2:(w3.setCell ⟨w.heap.size+1,1,none⟩ (.slice va vk vc)).cell? ⟨w.heap.size+1,2,none⟩=some (.int .i64 (Lx.pl ts:Int)):=gW.cell 2;have e0:(w3.setCell ⟨w.heap.size+1,1,none⟩ (.slice va vk vc)).cell? ⟨w.heap.size,0,none⟩=some (.string ⟨#[]⟩):=bC.cell 0
   have e1:(w3.setCell ⟨w.heap.size+1,1,none⟩ (.slice va vk vc)).cell? ⟨w.heap.size,1,none⟩=some (.slice none 0 0):=bC.cell 1;have e2:(w3.setCell ⟨w.heap.size+1,1,none⟩ (.slice va vk vc)).cell? ⟨w.heap.size,2,none⟩=some (.int .i64 0):=bC.cell 2;have ff:∀ i,(w3.setCell ⟨w.heap.size+1,1,none⟩ (.slice va vk vc)).frozen? ⟨w.heap.size,i,none⟩=false:=bC.frozen;go_wp2_with fail;refine bodyPost_ret (v:=.agg #[.string (Lx.hd ts),.slice va vk vc,.int .i64 (Lx.pl ts:Int)]) (by simp[results,results78,go_sem,e0,e1,e2]) rfl ?_;exact bM.no HE.out (((M4.new (lr0) _ _).new (lr0) _ _).new (lr0) _ _) X4 (((h4.other _ _ (by omega) l5).other _ _ (by omega) l5).other _ _ (by omega) l5) ⟨_,_,_,_,_,rfl⟩
  | ok x =>
   obtain⟨u2,bL⟩:=x;obtain⟨v2,sg2,sl2,rfl,m2,x2,h2,rfl⟩:=he.ok hr2;have HR2:Hid _:=hr2;clear hr2 he;have lY:=x2.keep (b:=w.heap.size) kB1.lt bg;have Dr:=x2.keep (b:=w.heap.size+1) sj.lt Dq;have kB2:=kB1.mv m2 (by omega) bg;have qV:=sj.mv m2 (by omega) Dq;have M2:=M1.trans X1 m2;have X2:=X1.trans M1.size x2;go_wp2_with fail;refine (YE 8 (lr0) s q w2 bL 0 sg2 sl2 rfl h2).mono ?_;intro e w3 he;cases hr3:iN 8 bL with
   | error x =>
    obtain⟨n,a⟩:=x;obtain⟨v3,lI,qU,rfl,m3,x3,h3,va,vk,vc,rfl⟩:=he.err hr3;have HE:Hid (dI ts=.error (n,a)):=by show _=_;unfold dI;simp only[HR1.out,HR2.out,hr3]
    clear hr3 he;have lJ:=x3.keep (b:=w.heap.size) kB2.lt lY;have pK:=x3.keep (b:=w.heap.size+1) qV.lt Dr;have kB3:=kB2.mv m3 (by omega) lY;have jM:=qV.mv m3 (by omega) Dr;have M3:=M2.trans X2 m3;have X3:=X2.trans M2.size x3;have c31:w3.cell? ⟨w.heap.size+1,1,none⟩=some (.slice none 0 0):=jM.cell 1;have S9:∀ i,w3.frozen? ⟨w.heap.size+1,i,none⟩=false:=jM.frozen;have h3':=h3.other (b:=w.heap.size+1) 1 (.slice va vk vc) (by omega) pK;have Fg:=jM.set 1 (.slice va vk vc);have AL:aj (w3.setCell ⟨w.heap.size+1,1,none⟩ (.slice va vk vc)) w.heap.size #[.string ⟨#[]⟩,.slice none 0 0,.int .i64 0] 99:=kB3.other (by omega) _;have Bf:=M3.new (b:=w.heap.size+1) (by omega) 1 (.slice va vk vc);go_wp2_with fail;refine (Lp h3' _).mono ?_;rintro e w4 ⟨rfl,hw⟩;obtain rfl:=hw.symm;have gW:=Fg;have bC:=AL;have M4:=Bf;have X4:=X3;have h4:=h3';have l5:=lJ;have d0:(w3.setCell ⟨w.heap.size+1,1,none⟩ (.slice va vk vc)).cell? ⟨w.heap.size+1,0,none⟩=some (.string (Lx.hd ts)):=gW.cell 0;have d1:(w3.setCell ⟨w.heap.size+1,1,none⟩ (.slice va vk vc)).cell? ⟨w.heap.size+1,1,none⟩=some (.slice va vk vc):=gW.cell 1;have d2:(w3.setCell ⟨w.heap.size+1,1,none⟩ (.slice va vk vc)).cell? ⟨w.heap.size+1,2,none⟩=some (.int .i64 (Lx.pl ts:Int)):=gW.cell 2;have e0:(w3.setCell ⟨w.heap.size+1,1,none⟩ (.slice va vk vc)).cell? ⟨w.heap.size,0,none⟩=some (.string ⟨#[]⟩):=bC.cell 0;have e1:(w3.setCell ⟨w.heap.size+1,1,none⟩ (.slice va vk vc)).cell? ⟨w.heap.size,1,none⟩=some (.slice none 0 0):=bC.cell 1;have e2:(w3.setCell ⟨w.heap.size+1,1,none⟩ (.slice va vk vc)).cell? ⟨w.heap.size,2,none⟩=some (.int .i64 0):=bC.cell 2
    have ff:∀ i,(w3.setCell ⟨w.heap.size+1,1,none⟩ (.slice va vk vc)).frozen? ⟨w.heap.size,i,none⟩=false:=bC.frozen;go_wp2_with fail;refine bodyPost_ret (v:=.agg #[.string (Lx.hd ts),.slice va vk vc,.int .i64 (Lx.pl ts:Int)]) (by simp[results,results78,go_sem,e0,e1,e2]) rfl ?_;exact bM.no HE.out (((M4.new (lr0) _ _).new (lr0) _ _).new (lr0) _ _) X4 (((h4.other _ _ (by omega) l5).other _ _ (by omega) l5).other _ _ (by omega) l5) ⟨_,_,_,_,_,rfl⟩
   | ok x =>
    obtain⟨l,fu⟩:=x;obtain⟨v3,lI,qU,rfl,m3,x3,h3,hv⟩:=he.ok hr3;obtain⟨va,vk,vc,rfl⟩:=ay.form hv;have HR3:Hid _:=hr3;clear hr3 he;have lJ:=x3.keep (b:=w.heap.size) kB2.lt lY;have pK:=x3.keep (b:=w.heap.size+1) qV.lt Dr;have kB3:=kB2.mv m3 (by omega) lY;have jM:=qV.mv m3 (by omega) Dr;have M3:=M2.trans X2 m3;have X3:=X2.trans M2.size x3;have l2:=qV.lt;have c31:w3.cell? ⟨w.heap.size+1,1,none⟩=some (.slice none 0 0):=jM.cell 1;have S9:∀ i,w3.frozen? ⟨w.heap.size+1,i,none⟩=false:=jM.frozen;have h3':=h3.other (b:=w.heap.size+1) 1 (.slice va vk vc) (by omega) pK;have Fg:=jM.set 1 (.slice va vk vc);have AL:aj (w3.setCell ⟨w.heap.size+1,1,none⟩ (.slice va vk vc)) w.heap.size #[.string ⟨#[]⟩,.slice none 0 0,.int .i64 0] 99:=kB3.other (by omega) _;have Bf:=M3.new (b:=w.heap.size+1) (by omega) 1 (.slice va vk vc);go_wp2_with fail;refine (Lm h3' iI (by decide) (by decide)).mono ?_;intro e w4 he;cases hr4:gU iI fu with
    | error x =>
     obtain⟨n,a⟩:=x;obtain⟨v4,A9,SQ,rfl,m4,x4,h4,rfl⟩:=he.err hr4;have HE:Hid (dI ts=.error (n,a)):=by show _=_;unfold dI;simp only[HR1.out,HR2.out,HR3.out,hr4]
     clear hr4 he;have l5:=x4.keep (b:=w.heap.size) AL.lt lJ;have bC:=AL.mv m4 (by omega) lJ;have gW:=Fg.mv m4 (by omega) pK;have M4:=Bf.trans X3 m4;have X4:=X3.trans Bf.size x4;have d0:w4.cell? ⟨w.heap.size+1,0,none⟩=some (.string (Lx.hd ts)):=gW.cell 0;have d1:w4.cell? ⟨w.heap.size+1,1,none⟩=some (.slice va vk vc):=gW.cell 1;have d2:w4.cell? ⟨w.heap.size+1,2,none⟩=some (.int .i64 (Lx.pl ts:Int)):=gW.cell 2;have e0:w4.cell? ⟨w.heap.size,0,none⟩=some (.string ⟨#[]⟩):=bC.cell 0;have e1:w4.cell? ⟨w.heap.size,1,none⟩=some (.slice none 0 0):=bC.cell 1;have e2:w4.cell? ⟨w.heap.size,2,none⟩=some (.int .i64 0):=bC.cell 2;have ff:∀ i,w4.frozen? ⟨w.heap.size,i,none⟩=false:=bC.frozen;go_wp2_with fail;refine bodyPost_ret (v:=.agg #[.string (Lx.hd ts),.slice va vk vc,.int .i64 (Lx.pl ts:Int)]) (by simp[results,results78,go_sem,e0,e1,e2]) rfl ?_;exact bM.no HE.out (((M4.new (lr0) _ _).new (lr0) _ _).new (lr0) _ _) X4 (((h4.other _ _ (by omega) l5).other _ _ (by omega) l5).other _ _ (by omega) l5) ⟨_,_,_,_,_,rfl⟩
    | ok x =>
     obtain⟨u4,fV⟩:=x;obtain⟨v4,A9,SQ,rfl,m4,x4,h4,rfl⟩:=he.ok hr4;have HP:Hid (dI ts=.ok (⟨Lx.hd ts,l,Lx.pl ts⟩,fV)):=by show _=_;unfold dI;simp only[HR1.out,HR2.out,HR3.out,hr4]
     clear hr4 he;have l5:=x4.keep (b:=w.heap.size) AL.lt lJ;have bC:=AL.mv m4 (by omega) lJ;have gW:=Fg.mv m4 (by omega) pK;have M4:=Bf.trans X3 m4;have X4:=X3.trans Bf.size x4;have d0:w4.cell? ⟨w.heap.size+1,0,none⟩=some (.string (Lx.hd ts)):=gW.cell 0;have d1:w4.cell? ⟨w.heap.size+1,1,none⟩=some (.slice va vk vc):=gW.cell 1;have d2:w4.cell? ⟨w.heap.size+1,2,none⟩=some (.int .i64 (Lx.pl ts:Int)):=gW.cell 2;have e0:w4.cell? ⟨w.heap.size,0,none⟩=some (.string ⟨#[]⟩):=bC.cell 0;have e1:w4.cell? ⟨w.heap.size,1,none⟩=some (.slice none 0 0):=bC.cell 1;have e2:w4.cell? ⟨w.heap.size,2,none⟩=some (.int .i64 0):=bC.cell 2;have ff:∀ i,w4.frozen? ⟨w.heap.size,i,none⟩=false:=bC.frozen;go_wp2_with fail;refine bodyPost_ret (v:=.agg #[.string (Lx.hd ts),.slice va vk vc,.int .i64 (Lx.pl ts:Int)]) (by simp[results,results78,go_sem,e0,e1,e2]) rfl ?_;refine bM.yes HP.out (((M4.new (lr0) _ _).new (lr0) _ _).new (lr0) _ _) X4 (((h4.other _ _ (by omega) l5).other _ _ (by omega) l5).other _ _ (by omega) l5) ⟨_,rfl,?_⟩;have sS:(w3.setCell ⟨w.heap.size+1,1,none⟩ (.slice va vk vc)).heap.size=w3.heap.size:=by simp[World.setCell]
     have s4:=m4.size;refine ay.move (fun b hb=>?_) (fun b hb=>⟨by have:=hb.1;omega,by have:=hb.2.1;simp[World.setCell];rw[sS]at s4;omega,x4.keep (by rw[sS];exact hb.2.1) hb.2.2⟩) hv;have hb1:=hb.1;have hbb:b≠w.heap.size:=by omega
     have hbc:b≠w.heap.size+1:=by omega
     rw[hs0 hbb,hs0 hbb,hs0 hbb,m4.block b (by rw[sS];exact hb.2.1) (by omega) hb.2.2,hs0 hbc]
end
end Go.Proofs.YtlcppnabbicmoaaGreatDoor
