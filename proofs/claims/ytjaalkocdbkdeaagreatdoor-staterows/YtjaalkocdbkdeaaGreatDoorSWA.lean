import Derived.Test.YtjaalkocdbkdeaaGreatDoorSO00
import Derived.Test.YtjaalkocdbkdeaaGreatDoorSA30
import Derived.Test.YtjaalkocdbkdeaaGreatDoorSA34
import Derived.Laws.Cover3
set_option maxHeartbeats 8000000
set_option maxRecDepth 1000000
namespace Go.Proofs.YtjaalkocdbkdeaaGreatDoor
open Lx Go.Proofs.Tryz
section
open Go Go.RowKit
namespace Lx
theorem ko.qG{P:List Pd}{sz st:Nat}(hp:mR P sz st){R:bK}:∀(f i:Nat)(S:bK),ko P i 0 S->qG P sz f i S=some R->∃m,R.ks.length<=m/\ko P m 0 R/\(S.ks.length<=300->R.ks.length<=300)
 |0,i,S,_,h=>by cases h
 |f+1,i,S,hI,h=>by
  rw[Lx.qG]at h
  split at h
  ·rename_i hi
   split at h
   ·cases h
   ·rename_i hle
    have hK:S.ks[i]?=some S.ks[i]:=List.getElem?_eq_getElem hi;have h1:=(ko.leave (K:=S.ks[i]) sz 0 S hI hK).1;rw[Nat.zero_add,<-List.range_eq_range']at h1;obtain⟨m,h2,h3,h4⟩:=ko.qG hp f (i+1) _ (h1.next hp) h;exact⟨m,h2,h3,fun _=>h4 (by omega)⟩
  ·cases h
   exact⟨i,by omega,hI,id⟩
theorem states_inv{P:List Pd}{sz st:Nat}(hp:mR P sz st){R:bK}(h:jV P sz=some R):∃m,R.ks.length<=m/\ko P m 0 R/\R.ks.length<=300:=by
 obtain⟨m,h1,h2,h3⟩:=ko.qG hp 302 0 _ (ko.first P) h;exact⟨m,h1,h2,h3 (by simp)⟩
theorem nxt_open{P:List Pd}{K:List av}:(∃n,eU P K n≠[])↔∃s∈K,bE P s≠none:=by
 constructor
 ·rintro⟨n,hn⟩
  apply Decidable.byContradiction;intro hc;have hno:∀s∈K,bE P s=none:=fun s hs=>Decidable.byContradiction fun h=>hc ⟨s,hs,h⟩
  have hclo:∀i,mZ P K i K:=by
   have:∀(d i:Nat),K.length-i<=d->mZ P K i K:=by
    intro d
    induction d with
    |zero=>exact fun i h=>.done (by omega)
    |succ d ih=>
     intro i h
     by_cases hi:i<K.length
     ·refine .step hi ?_
      rw[hno _ (List.getElem_mem hi),F8];exact ih (i+1) (by omega)
     ·exact .done (by omega)
   exact fun i=>this _ i (Nat.le_refl _)
  have hk:=(hclo 0).gM;apply hn;refine List.eq_nil_iff_forall_not_mem.2 fun x hx=>?_
  obtain⟨t,ht,h1,-⟩:=El.1 hx;rw[<-hk]at ht;rw[hno t ht]at h1;cases h1
 ·rintro⟨s,hs,hb⟩
  cases h:bE P s with
  |none=>exact absurd h hb
  |some n=>
   refine⟨n,fun e=>?_⟩;have hc:s∈gM P K:=by
    have h1:l9 P K (gM P K):=by
     have:∀{l r:List av}{i:Nat},mZ P l i r->l9 P K l->l9 P K r:=by
      intro l r i hd
      induction hd with
      |done _=>exact id
      |step _ _ ih=>exact fun hz=>ih (hz.add _)
     exact this (KP P K) (l9.refl P K)
    obtain⟨Z,hz,-⟩:=h1;rw[hz];exact List.mem_append.2 (.inl hs)
   have:(s.1,s.2+1)∈eU P K n:=El.2 ⟨s,hc,h,rfl⟩;rw[e]at this;cases this
theorem stR_pos{s:ByteArray}{x:Nat×Nat}(h:kY s=.error x):x.1≠0:=by
 unfold kY at h;cases hm:eZ s with
 |error y=>rw[hm]at h;cases h;exact Yp hm
 |ok g=>
  rw[hm]at h;simp only at h
  split at h
  ·cases h;decide
  ·cases h
theorem stR_inv{s:ByteArray}{S:bK}(h:kY s=.ok S):∃g,eZ s=.ok g/\jV (bI g) (DR g)=some S:=by
 unfold kY at h;cases hm:eZ s with
 |error y=>rw[hm]at h;cases h
 |ok g=>
  rw[hm]at h;simp only at h
  split at h
  ·cases h
  ·rename_i S' hS
   cases h;exact⟨g,rfl,hS⟩
end Lx
end
section
open Go Go.RowKit
namespace Lx
theorem oh.leave'{P:List Pd}{sz st:Nat}(hp:mR P sz st){i:Nat}{K:List av}:∀(ns:List Nat)(S:bK),oh P S->S.ks[i]?=some K->oh P (Lx.leave P i K S ns)
 | [],_,h,_=>h
 |n::ns,S,h,hK=>oh.leave' hp ns (Lx.edge P i K S n) (h.edge hp hK n) (Pk hK)
theorem oh.qG{P:List Pd}{sz st:Nat}(hp:mR P sz st){R:bK}:∀(f i:Nat)(S:bK),oh P S->qG P sz f i S=some R->oh P R
 |0,_,_,_,h=>by cases h
 |f+1,i,S,hI,h=>by
  rw[Lx.qG]at h
  split at h
  ·rename_i hi
   split at h
   ·cases h
   ·exact oh.qG hp f (i+1) _ (oh.leave' hp _ S hI (List.getElem?_eq_getElem hi)) h
  ·cases h
   exact hI
structure StF(P:List Pd)(S:bK):Prop where
 wK:∀(i:Nat)(K:List av),S.ks[i]?=some K->∀s∈K,s.1<P.length/\s.2<=(qD P s.1).length
 rgt:∀k,(qD P k).length<=2002
 rise:∀(i:Nat)(K:List av),S.ks[i]?=some K->K.Pairwise dP
 nd:S.ks.Nodup
 pw:S.es.Pairwise fun a b=>a.1<b.1\/(a.1=b.1/\a.2.1<b.2.1)
 edge:∀(i:Nat)(K:List av),S.ks[i]?=some K->((∃e∈S.es,e.1=i)↔∃s∈K,bE P s≠none)
 es:∀e∈S.es,0<e.2.2/\∃K,S.ks[e.1]?=some K/\S.ks[e.2.2]?=some (eU P K e.2.1)
 kn:∀j,j<S.ks.length->0<j->∃e∈S.es,e.2.2=j
 zero:0<S.ks.length
 kl:S.ks.length<=300
 tot:∀(i:Nat)(K:List av)(m:Nat),S.ks[i]?=some K->eU P K m≠[]->∃t,(i,m,t)∈S.es
 fst:S.ks[0]?=some [(0,0)]
theorem stF{P:List Pd}{sz st:Nat}(hp:mR P sz st){S:bK}(h:jV P sz=some S):StF P S:=by
 obtain⟨m,hm,hI,hl⟩:=states_inv hp h;have hO:=oh.qG hp 302 0 _ (oh.first hp) h;have hz:=(List.getElem?_eq_some_iff.1 hI.zero).1;have htot:∀(i:Nat)(K:List av)(n:Nat),S.ks[i]?=some K->eU P K n≠[]->∃t,(i,n,t)∈S.es:=fun i K n hK hn=>by
  have hi:=(List.getElem?_eq_some_iff.1 hK).1;exact hI.all i K n hK (.inl (by omega)) hn
 refine⟨fun i K hK s hs=>⟨((hO i K hK).wK s hs).1,((hO i K hK).wK s hs).2.1⟩,Pj hp,hI.rise,hI.nd,hI.pw,fun i K hK=>?_,fun e he=>?_,fun j h1 h2=>?_,hz,hl,htot,hI.zero⟩
 ·rw[<-nxt_open]
  constructor
  ·rintro⟨e,he,rfl⟩
   obtain⟨-,-,K',h1,-,h3⟩:=hI.es e he;rw[hK]at h1;cases h1;exact⟨_,h3⟩
  ·rintro⟨n,hn⟩
   obtain⟨t,ht⟩:=htot i K n hK hn;exact⟨_,ht,rfl⟩
 ·obtain⟨-,h2,K,h3,h4,-⟩:=hI.es e he
  exact⟨h2,K,h3,h4⟩
 ·obtain⟨f,n,h3⟩:=hI.kn j h1 h2
  exact⟨_,h3,rfl⟩
end Lx
open Tr in
theorem ahP.form{s:ByteArray}{w:World}{e:Ending}{w':World}(h:ahP s w e w'):∃(ta na pa ba ka:Option Addr)(nT tc nN nc nP pc nb bc nk kc:Nat)(n a:Int),e=.returned (.tuple #[.agg #[.slice ta nT tc,.slice na nN nc,.slice pa nP pc,.slice ba nb bc,.slice ka nk kc],.int .i64 n,.int .i64 a])/\Below w.heap.size w w':=by
 obtain⟨v,n,a,rfl,hb,hok,sH⟩:=h;cases hm:Lx.eZ s with
 |error x=>
  obtain⟨-,-,rfl⟩:=sH x hm;exact⟨none,none,none,none,none,0,0,0,0,0,0,0,0,0,0,_,_,rfl,hb⟩
 |ok g=>
  obtain⟨-,-,vT,vN,vP,vB,vK,rfl,h1,h2,h3,h4,h5⟩:=hok g hm;obtain⟨ta,tc,rfl,-⟩:=aF h1;obtain⟨na,nc,rfl,-⟩:=aF h2;obtain⟨ba,bc,rfl,-⟩:=aF h4;obtain⟨ka,kc,rfl,-⟩:=aF h5;obtain⟨pa,pc,rfl,-⟩:∃a c,vP=.slice a (Lx.bI g).length c/\(Lx.bI g).length<=maxLen:=by obtain⟨ps,h1,h2,-⟩:=h3;exact aF h2
  exact⟨_,_,_,_,_,_,_,_,_,_,_,_,_,_,_,_,_,rfl,hb⟩
end
section
open Go.RowKit
open Tr
theorem lbehind_any{D:Nat->Prop}{w:World}{ta na ba ka:Option Addr}{nT tc nN nc nb bc nk kc:Nat}{vP:Value}{P:List Lx.Pd}(hP:PP D w vP P)(s:Lx.av)(hs:s.1<P.length)(hd:s.2<=(Lx.qD P s.1).length)(hrm:(Lx.qD P s.1).length<=100000):Calls Tryz.prog 14 #[.agg #[.slice ta nT tc,.slice na nN nc,vP,.slice ba nb bc,.slice ka nk kc],.agg #[.int .i64 (s.1:Int),.int .i64 (s.2:Int)]] w fun e w'=>e=.returned (.int .i64 (rQ P s))/\Below w.heap.size w w':=by
 obtain⟨gP,Ao,u,hvp,hu,x0,x1,x2⟩:=hP.at hs;subst hvp;obtain⟨ua,uc,hva,-⟩:=aF hu;have hb:rQ P s=match (P[s.1].right)[s.2]? with
  |some n=>(n:Int)
  |none=>-1:=by unfold rQ Lx.bE;rw[Ep hs];cases (P[s.1].right)[s.2]? <;> rfl
 rw[Ep hs]at hd hrm;have hur:IR 0 w u P[s.1].right:=hu;obtain⟨k,d⟩:=s;simp only at hs hd hrm x0 x1 x2 hb hva hur|-;generalize P[k].right=r at *;subst hva;have HB:Hid (rQ P (k,d)=match r[d]? with
  |some n=>(n:Int)
  |none=>-1):=hb
 clear hb hu hP;have i1:(0:Int)<=(k:Int):=by omega
 have i2:(k:Int)<(P.length:Int):=by omega
 have i3:((k:Int)<0)=False:=eq_false (by omega);have i4:((P.length:Int)<=(k:Int))=False:=eq_false (by omega);have i5:((d:Int)<0)=False:=eq_false (by omega);have i6:((r.length:Int)<(d:Int))=False:=eq_false (by omega);obtain⟨W0,hW0⟩:∃W,W=(w.alloc (.cells #[.slice ta nT tc,.slice na nN nc,.slice (some ⟨gP,0,none⟩) P.length Ao,.slice ba nb bc,.slice ka nk kc] 45)).alloc (.cells #[.int .i64 (k:Int),.int .i64 (d:Int)] 36):=⟨_,rfl⟩;have hb0:Below w.heap.size w W0:=by rw[hW0];exact((Below.refl _ _).alloc (Nat.le_refl _) _).alloc (by simp) _
 have rO:aj W0 w.heap.size #[.slice ta nT tc,.slice na nN nc,.slice (some ⟨gP,0,none⟩) P.length Ao,.slice ba nb bc,.slice ka nk kc] 45:=by rw[hW0];exact(aj.new w _ 45).alloc _
 have AY:aj W0 (w.heap.size+1) #[.int .i64 (k:Int),.int .i64 (d:Int)] 36:=by rw[hW0];simpa using aj.new (w.alloc (.cells #[.slice ta nT tc,.slice na nN nc,.slice (some ⟨gP,0,none⟩) P.length Ao,.slice ba nb bc,.slice ka nk kc] 45)) #[.int .i64 (k:Int),.int .i64 (d:Int)] 36
 have a2:W0.cell? ⟨w.heap.size,2,none⟩=some (.slice (some ⟨gP,0,none⟩) P.length Ao):=rO.cell 2;have s0:W0.cell? ⟨w.heap.size+1,0,none⟩=some (.int .i64 (k:Int)):=AY.cell 0;have s1:W0.cell? ⟨w.heap.size+1,1,none⟩=some (.int .i64 (d:Int)):=AY.cell 1;have y1:W0.cell? ⟨gP,k*3+1,none⟩=some (.slice ua r.length uc):=jS hb0 x1;have hs0:=hb0.size;go_enter Tryz.func14,Tryz.ntmps14;go_upto_region 1 with fail
 rw[<-hW0];clear hW0 x0 x1 x2 rO AY
 go_quiet (fail)
 obtain⟨W1,hW1⟩:∃V,V=W0.drewN nq:=⟨_,rfl⟩;have hb1:Below W0.heap.size W0 W1:=by rw[hW1];exact⟨rfl,rfl,rfl,Nat.le_refl _,fun _ _=>rfl⟩
 rw[<-hW1];clear hW1;have a21:=jS hb1 a2;have s01:=jS hb1 s0;have s11:=jS hb1 s1;have y11:=jS hb1 y1;have hur1:IR 0 W1 (.slice ua r.length uc) r:=own_below (own_below hur hb0) hb1;have fM:Below w.heap.size w W1:=hb0.trans (hb1.mono hs0);clear a2 s0 s1 y1 hur;go_upto_region 3 with fail
 go_quiet (fail)
 obtain⟨W2,hW2⟩:∃V,V=W1.drewN nq:=⟨_,rfl⟩;have hb2:Below W1.heap.size W1 W2:=by rw[hW2];exact⟨rfl,rfl,rfl,Nat.le_refl _,fun _ _=>rfl⟩
 rw[<-hW2];clear hW2;have a22:=jS hb2 a21;have s02:=jS hb2 s01;have s12:=jS hb2 s11;have y12:=jS hb2 y11;have hur2:IR 0 W2 (.slice ua r.length uc) r:=own_below hur1 hb2;have hbw2:Below w.heap.size w W2:=fM.trans (hb2.mono fM.size);clear a21 s01 s11 y11 hur1
 by_cases hdl:d=r.length
 ·have HB2:Hid (rQ P (k,d)=-1):=by show _=_;rw[HB.out,List.getElem?_eq_none (by omega)]
  have j1:((d:Int) == (r.length:Int))=true:=by simp[hdl]
  have j2:(d:Int)=(r.length:Int):=by omega
  clear HB hur2 hdl;go_wp2_with fail;go_ret;exact⟨by rw[HB2.out];rfl,hbw2⟩
 ·have hlt:d<r.length:=by omega
  obtain⟨gU,ZJ,hvu,lU,cU⟩:=hur2.at hlt;cases hvu;have HB2:Hid (rQ P (k,d)=(r[d]:Int)):=by show _=_;rw[HB.out,List.getElem?_eq_getElem hlt]
  generalize r[d]=n at cU HB2;have j1:((d:Int) == (r.length:Int))=false:=beq_eq_false_iff_ne.2 (by omega);have j2:¬(d:Int)=(r.length:Int):=by omega
  have j3:¬d=r.length:=hdl;have j4:(0:Int)<=(d:Int):=by omega
  have j5:(d:Int)<(r.length:Int):=by omega
  clear HB hdl;go_wp2_with fail
  go_quiet (fail)
  have hbd:Below w.heap.size w (W2.drewN nq):=hbw2.trans ⟨rfl,rfl,rfl,Nat.le_refl _,fun _ _=>rfl⟩;go_wp2_with fail;go_ret;exact⟨by rw[HB2.out];rfl,hbd⟩
end
section
open Go Go.RowKit
namespace Lx
inductive CloM (P:List Pd) (K:List av):av->Prop
 | ker {s:av} (h:s∈K):CloM P K s
 | opn {t:av} {n k:Nat} (h:CloM P K t) (hb:bE P t=some n) (hl:P[k]?.map Pd.left=some n):CloM P K (k,0)
theorem mem_dadd{P:List Pd}{n:Nat}{l:List av}{s:av}:s∈fu P (some n) l P.length↔s∈l\/(s.2=0/\P[s.1]?.map Pd.left=some n):=by
 rw[Gg,List.mem_append,List.mem_filter,BG];constructor
 ·rintro(h | ⟨⟨h1,-,h3⟩,-⟩)
  ·exact .inl h
  ·exact .inr ⟨h1,h3⟩
 ·rintro(h | ⟨h1,h2⟩)
  ·exact .inl h
  ·by_cases hs:s∈l
   ·exact .inl hs
   ·refine .inr ⟨⟨h1,?_,h2⟩,by simpa using hs⟩
    apply Decidable.byContradiction;intro hn;rw[List.getElem?_eq_none (by omega)]at h2;cases h2
theorem mZ.sound{P:List Pd}{K l r:List av}{i:Nat}(h:mZ P l i r):(∀s∈l,CloM P K s)->∀s∈r,CloM P K s:=by
 induction h with
 |done _=>exact id
 | @step l r i hi _ ih=>
  intro hl;refine ih fun s hs=>?_
  cases hb:bE P l[i] with
  |none=>rw[hb,F8]at hs;exact hl s hs
  |some n=>
   rw[hb,mem_dadd]at hs;rcases hs with hs|⟨h1,h2⟩
   ·exact hl s hs
   ·have:s=(s.1,0):=Prod.ext rfl h1
    rw[this];exact .opn (hl _ (List.getElem_mem hi)) hb h2
theorem mZ.sub{P:List Pd}{l r:List av}{i:Nat}(h:mZ P l i r):∃a,r=l++a:=by
 induction h with
 |done _=>exact⟨[],by simp⟩
 | @step l r i hi _ ih=>
  obtain⟨a,rfl⟩:=ih;cases bE P l[i] with
  |none=>rw[F8];exact⟨a,rfl⟩
  |some n=>rw[Gg];exact⟨(fT P n P.length).filter (fun s=>decide (s∉l))++a,by rw[List.append_assoc]⟩
theorem mZ.full{P:List Pd}{l r:List av}{i:Nat}(h:mZ P l i r):(∀j t n k,j<i->l[j]?=some t->bE P t=some n->P[k]?.map Pd.left=some n->(k,0)∈l)->∀t∈r,∀n k,bE P t=some n->P[k]?.map Pd.left=some n->(k,0)∈r:=by
 induction h with
 | @done l i hi=>
  intro hl t ht n k hb hk;obtain⟨j,hj⟩:=List.mem_iff_getElem?.1 ht;exact hl j t n k (by have:=(List.getElem?_eq_some_iff.1 hj).1;omega) hj hb hk
 | @step l r i hi _ ih=>
  intro hl;refine ih fun j t n k hj ht hb hk=>?_
  have hsub:∀s∈l,s∈fu P (bE P l[i]) l P.length:=fun s hs=>by
   cases bE P l[i] with
   |none=>rw[F8];exact hs
   |some m=>exact mem_dadd.2 (.inl hs)
  have hpre:∀q,q<l.length->(fu P (bE P l[i]) l P.length)[q]?=l[q]?:=fun q hq=>by
   cases bE P l[i] with
   |none=>rw[F8]
   |some m=>rw[Gg,List.getElem?_append_left hq]
  by_cases e:j=i
  ·subst e
   rw[hpre j hi,List.getElem?_eq_getElem hi]at ht;cases ht;rw[hb];exact mem_dadd.2 (.inr ⟨rfl,hk⟩)
  ·rw[hpre j (by omega)]at ht
   exact hsub _ (hl j t n k (by omega) ht hb hk)
theorem mem_clo{P:List Pd}{K:List av}{s:av}:s∈gM P K↔CloM P K s:=by
 constructor
 ·exact(KP P K).sound (fun s hs=>.ker hs) s
 ·intro h
  induction h with
  |ker h=>obtain⟨a,ha⟩:=(KP P K).sub;rw[ha];exact List.mem_append.2 (.inl h)
  |opn _ hb hl ih=>exact(KP P K).full (fun j _ _ _ h=>absurd h (Nat.not_lt_zero _)) _ ih _ _ hb hl
inductive Pth (P:List Pd) (row:List Int):Nat->av->Nat->av->Prop
 | nil {i:Nat} {s:av}:Pth P row i s i s
 | sh {i j:Nat} {s t:av} {n:Nat} (h:Pth P row i s j t) (hb:bE P t=some n) (hr:row[j]?=some (n:Int)):Pth P row i s (j+1) (t.1,t.2+1)
 | cl {i j:Nat} {s t:av} {n k:Nat} (h:Pth P row i s j t) (hb:bE P t=some n) (hl:P[k]?.map Pd.left=some n):Pth P row i s j (k,0)
def kerR(P:List Pd)(row:List Int):Nat->List av
 |0=>[(0,0)]
 |p+1=>match row[p]? with
  |some x=>if 0<=x then eU P (kerR P row p) x.toNat else []
  |none=>[]
theorem Pth.le{P:List Pd}{row:List Int}{i j:Nat}{s t:av}(h:Pth P row i s j t):i<=j:=by
 induction h with
 |nil=>exact Nat.le_refl _
 |sh _ _ _ ih=>omega
 |cl _ _ _ ih=>exact ih
theorem Pth.inC{P:List Pd}{row:List Int}{j:Nat}{t:av}(h:Pth P row 0 (0,0) j t):t∈gM P (kerR P row j):=by
 generalize hs:((0,0):av)=s at h
 induction h with
 |nil=>subst hs;exact mem_clo.2 (.ker (by simp[kerR]))
 |sh _ hb hr ih=>
  have h1:=ih hs;refine mem_clo.2 (.ker ?_);rw[kerR,hr];simp only[Int.natCast_nonneg,if_true,Int.toNat_natCast];exact El.2 ⟨_,h1,hb,rfl⟩
 |cl _ hb hl ih=>exact mem_clo.2 (.opn (mem_clo.1 (ih hs)) hb hl)
theorem Pth.ofC{P:List Pd}{row:List Int}:∀(j:Nat)(t:av),t∈gM P (kerR P row j)->Pth P row 0 (0,0) j t:=by
 intro j
 induction j with
 |zero=>
  intro t h;have h':=mem_clo.1 h;clear h
  induction h' with
  |ker h=>rw[kerR,List.mem_singleton]at h;subst h;exact .nil
  |opn _ hb hl ih=>exact .cl ih hb hl
 |succ j ihj=>
  intro t h;have h':=mem_clo.1 h;clear h
  induction h' with
  | @ker s h=>
   rw[kerR]at h;cases hr:row[j]? with
   |none=>rw[hr]at h;cases h
   |some x=>
    rw[hr]at h;simp only at h
    split at h
    ·rename_i hx
     obtain⟨t,ht,hb,rfl⟩:=El.1 h;refine .sh (ihj t ht) hb ?_;rw[hr];congr 1;omega
    ·cases h
  |opn _ hb hl ih=>exact .cl ih hb hl
theorem kerR_pth{P:List Pd}{row:List Int}{j:Nat}:kerR P row j≠[]↔∃t,Pth P row 0 (0,0) j t:=by
 constructor
 ·intro h
  obtain⟨t,ht⟩:=List.exists_mem_of_ne_nil _ h;exact⟨t,.ofC j t (mem_clo.2 (.ker ht))⟩
 ·rintro⟨t,ht⟩e
  have h:=ht.inC;rw[e]at h;have h:=mem_clo.1 h;have:∀{s},¬CloM P [] s:=by
   intro s hs
   induction hs with
   |ker h=>cases h
   |opn _ _ _ ih=>exact ih
  exact this h
theorem kerR_mono{P:List Pd}{row:List Int}{j:Nat}(h:kerR P row (j+1)≠[]):kerR P row j≠[]:=by
 intro e;apply h;rw[kerR];cases row[j]? with
 |none=>rfl
 |some x=>
  simp only
  split
  ·rw[e]
   refine List.eq_nil_iff_forall_not_mem.2 fun s hs=>?_
   obtain⟨t,ht,-⟩:=El.1 hs;have:∀{s},¬CloM P [] s:=by
    intro s hs
    induction hs with
    |ker h=>cases h
    |opn _ _ _ ih=>exact ih
   exact this (mem_clo.1 ht)
  ·rfl
inductive Via (P:List Pd) (row:List Int) (nT:Nat):Nat->Nat->Prop
 | fin {A k d i:Nat} (hl:P[k]?.map Pd.left=some A) (hd:d<=(qD P k).length) (hi:i+d=row.length) (hr:∀j,j<d->∃n:Nat,(qD P k)[j]?=some n/\row[i+j]?=some (n:Int)):Via P row nT A i
 | sub {A B k d i:Nat} (hl:P[k]?.map Pd.left=some A) (hi:i+d<=row.length) (hr:∀j,j<d->∃n:Nat,(qD P k)[j]?=some n/\row[i+j]?=some (n:Int)) (hB:(qD P k)[d]?=some B) (hT:nT<=B) (h:Via P row nT B (i+d)):Via P row nT A i
inductive Pfw (P:List Pd) (row:List Int):Nat->av->Prop
 | nil {s:av}:Pfw P row row.length s
 | sh {i:Nat} {t:av} {n:Nat} (h:Pfw P row (i+1) (t.1,t.2+1)) (hb:bE P t=some n) (hr:row[i]?=some (n:Int)):Pfw P row i t
 | cl {i:Nat} {t:av} {n k:Nat} (h:Pfw P row i (k,0)) (hb:bE P t=some n) (hl:P[k]?.map Pd.left=some n):Pfw P row i t
theorem Pth.fw{P:List Pd}{row:List Int}{i j:Nat}{s t:av}(h:Pth P row i s j t):Pfw P row j t->Pfw P row i s:=by
 induction h with
 |nil=>exact id
 |sh _ hb hr ih=>exact fun k=>ih (.sh k hb hr)
 |cl _ hb hl ih=>exact fun k=>ih (.cl k hb hl)
theorem Pth.trans{P:List Pd}{row:List Int}{i j k:Nat}{s t u:av}(h:Pth P row i s j t)(h2:Pth P row j t k u):Pth P row i s k u:=by
 induction h2 with
 |nil=>exact h
 |sh _ hb hr ih=>exact .sh (ih h) hb hr
 |cl _ hb hl ih=>exact .cl (ih h) hb hl
theorem Pfw.pth{P:List Pd}{row:List Int}{i:Nat}{s:av}(h:Pfw P row i s):∃t,Pth P row i s row.length t:=by
 induction h with
 |nil=>exact⟨_,.nil⟩
 |sh _ hb hr ih=>obtain⟨t,ht⟩:=ih;exact⟨t,(Pth.sh .nil hb hr).trans ht⟩
 |cl _ hb hl ih=>obtain⟨t,ht⟩:=ih;exact⟨t,(Pth.cl .nil hb hl).trans ht⟩
theorem Pfw.le{P:List Pd}{row:List Int}{i:Nat}{s:av}(h:Pfw P row i s):i<=row.length:=by
 induction h with
 |nil=>exact Nat.le_refl _
 |sh _ _ _ ih=>omega
 |cl _ _ _ ih=>exact ih
theorem Pfw.via{P:List Pd}{row:List Int}{nT:Nat}(hT:∀(k A:Nat),P[k]?.map Pd.left=some A->nT<=A){i:Nat}{s:av}(h:Pfw P row i s):∀A i0,P[s.1]?.map Pd.left=some A->i0+s.2=i->s.2<=(qD P s.1).length->(∀j,j<s.2->∃n:Nat,(qD P s.1)[j]?=some n/\row[i0+j]?=some (n:Int))->Via P row nT A i0:=by
 induction h with
 | @nil s=>exact fun A i0 hl hi hd hr=>.fin hl hd hi hr
 | @sh i t n h hb hr' ih=>
  intro A i0 hl hi hd hr;have hbl:t.2<(qD P t.1).length:=(List.getElem?_eq_some_iff.1 hb).1;refine ih A i0 hl (by simp only;omega) (by simp only;omega) fun j hj=>?_
  simp only at hj
  by_cases e:j=t.2
  ·subst e
   exact⟨n,hb,by rw[hi];exact hr'⟩
  ·exact hr j (by omega)
 | @cl i t n k h hb hl' ih=>
  intro A i0 hl hi hd hr;have h1:=ih n i hl' (by simp) (Nat.zero_le _) (fun j hj=>absurd hj (Nat.not_lt_zero _));exact .sub hl (by have:=h.le;omega) hr hb (hT k n hl') (by rw[hi];exact h1)
theorem pfw_run{P:List Pd}{row:List Int}{k i:Nat}:∀d,(∀j,j<d->∃n:Nat,(qD P k)[j]?=some n/\row[i+j]?=some (n:Int))->Pfw P row (i+d) (k,d)->Pfw P row i (k,0)
 |0,_,h=>h
 |d+1,hr,h=>by
  obtain⟨n,h1,h2⟩:=hr d (Nat.lt_succ_self _);exact pfw_run d (fun j hj=>hr j (by omega)) (.sh (n:=n) h h1 h2)
theorem Via.pfw{P:List Pd}{row:List Int}{nT:Nat}{A i:Nat}(h:Via P row nT A i):∃k,P[k]?.map Pd.left=some A/\Pfw P row i (k,0):=by
 induction h with
 | @fin A k d i hl hd hi hr=>exact⟨k,hl,pfw_run d hr (by rw[hi];exact .nil)⟩
 | @sub A B k d i hl hi hr hB hT h ih=>
  obtain⟨q,h1,h2⟩:=ih;exact⟨k,hl,pfw_run d hr (.cl h2 hB h1)⟩
theorem via_kerR{P:List Pd}{row:List Int}{nT:Nat}(hT:∀(k A:Nat),P[k]?.map Pd.left=some A->nT<=A)(h0:∀(k:Nat),P[k]?.map Pd.left=some nT↔k=0):Via P row nT nT 0↔kerR P row row.length≠[]:=by
 rw[kerR_pth];constructor
 ·intro h
  obtain⟨k,h1,h2⟩:=h.pfw;rw[(h0 k).1 h1]at h2;exact h2.pth
 ·rintro⟨t,ht⟩
  exact(ht.fw .nil).via hT nT 0 ((h0 0).2 rfl) rfl (Nat.zero_le _) (fun j hj=>absurd hj (Nat.not_lt_zero _))
def stepE(es:List CU)(a x:Int):Int:=es.foldl (fun t e=>if (e.1:Int)=a/\(e.2.1:Int)=x then (e.2.2:Int) else t) (-1)
end Lx
end
section
open Go Go.RowKit
namespace Lx
def stepT(es:List CU)(a x:Int)(k:Nat):Int:=stepE (es.take k) a x
theorem stepT_zero(es:List CU)(a x:Int):stepT es a x 0=-1:=by simp[stepT,stepE]
theorem stepT_succ{es:List CU}{a x:Int}{k:Nat}(hk:k<es.length):stepT es a x (k+1)=if (es[k].1:Int)=a/\(es[k].2.1:Int)=x then (es[k].2.2:Int) else stepT es a x k:=by
 unfold stepT stepE;rw[List.take_succ_eq_append_getElem hk,List.foldl_append];rfl
theorem stepT_all(es:List CU)(a x:Int):stepT es a x es.length=stepE es a x:=by unfold stepT;rw[List.take_length]
theorem stepE_go{es:List CU}{a x:Int}:∀(l:List CU)(t:Int),(∀e∈l,¬((e.1:Int)=a/\(e.2.1:Int)=x))->l.foldl (fun t e=>if (e.1:Int)=a/\(e.2.1:Int)=x then (e.2.2:Int) else t) t=t
 | [],_,_=>rfl
 |e::l,t,h=>by
  rw[List.foldl_cons,if_neg (h e List.mem_cons_self)];exact stepE_go (es:=es) l t fun e' he=>h e' (List.mem_cons_of_mem _ he)
theorem stepE_miss{es:List CU}{a x:Int}(h:∀e∈es,¬((e.1:Int)=a/\(e.2.1:Int)=x)):stepE es a x=-1:=stepE_go (es:=es) es (-1) h
theorem stepE_hit{es:List CU}(hp:es.Pairwise fun a b=>a.1<b.1\/(a.1=b.1/\a.2.1<b.2.1)){j n t:Nat}(h:(j,n,t)∈es):stepE es (j:Int) (n:Int)=(t:Int):=by
 obtain⟨l1,l2,rfl⟩:=List.append_of_mem h;unfold stepE;rw[List.foldl_append,List.foldl_cons,if_pos ⟨rfl,rfl⟩];refine stepE_go (es:=l2) l2 _ fun e he hc=>?_
 rw[List.pairwise_append,List.pairwise_cons]at hp;have:=hp.2.1.1 e he;simp only at this;omega
def atR(es:List CU)(row:List Int):Nat->Int
 |0=>0
 |p+1=>stepE es (atR es row p) (row.getD p 0)
structure Fol(P:List Pd)(S:bK)(row:List Int)(p:Nat)(a:Int):Prop where
 or:(∃j:Nat,a=(j:Int)/\S.ks[j]?=some (kerR P row p)/\kerR P row p≠[])\/(a=-1/\kerR P row p=[])
theorem Fol.first{P:List Pd}{m n:Nat}{S:bK}(hI:ko P m n S)(row:List Int):Fol P S row 0 0:=⟨.inl ⟨0,rfl,hI.zero,by simp[kerR]⟩⟩
theorem Fol.step{P:List Pd}{m:Nat}{S:bK}(hm:S.ks.length<=m)(hI:ko P m 0 S){row:List Int}{p:Nat}{a x:Int}(h:Fol P S row p a)(ha:0<=a)(hx:row[p]?=some x):Fol P S row (p+1) (stepE S.es a x):=by
 rcases h.or with ⟨j,rfl,hj,hne⟩|⟨rfl,-⟩
 ·have hk:kerR P row (p+1)=if 0<=x then eU P (kerR P row p) x.toNat else []:=by rw[kerR,hx]
  have hjl:=(List.getElem?_eq_some_iff.1 hj).1
  by_cases h0:0<=x
  ·rw[if_pos h0]at hk
   by_cases hn:eU P (kerR P row p) x.toNat=[]
   ·refine⟨.inr ⟨stepE_miss fun e he hc=>?_,hk.trans hn⟩⟩
    obtain⟨-,-,K,h1,-,h3⟩:=hI.es e he;have e1:e.1=j:=by omega
    have e2:e.2.1=x.toNat:=by omega
    rw[e1,hj]at h1;cases h1;rw[e2]at h3;exact h3 hn
   ·obtain⟨t,ht⟩:=hI.all j _ x.toNat hj (.inl (by omega)) hn
    have hs:=stepE_hit hI.pw ht;rw[show ((x.toNat:Nat):Int)=x by omega]at hs;obtain⟨-,-,K,h1,h2,-⟩:=hI.es _ ht;simp only at h1 h2;rw[hj]at h1;cases h1;exact⟨.inl ⟨t,hs,by rw[hk];exact h2,by rw[hk];exact hn⟩⟩
  ·rw[if_neg h0]at hk
   exact⟨.inr ⟨stepE_miss fun e he hc=>by omega,hk⟩⟩
 ·omega
theorem kerR_end{P:List Pd}{row:List Int}{p:Nat}(h:kerR P row p=[]):∀q,p<=q->kerR P row q=[]
 |0,hq=>by
  have:p=0:=by omega
  rw[<-this];exact h
 |q+1,hq=>by
  by_cases e:p=q+1
  ·rw[<-e];exact h
  ·have:=kerR_end h q (by omega)
   exact Decidable.byContradiction fun hn=>kerR_mono hn this
end Lx
end
section
open Go Go.RowKit
namespace Lx
def bAt(bm:List (List Bool))(s i:Nat):Bool:=aS (bm.getD s []) i
structure OkD(P:List Pd)(row:List Int)(nT:Nat)(bm:List (List Bool))(k i d:Nat):Prop where
 le:d<=(qD P k).length
 hi:i+d<=row.length
 eq:∀j,j<d->∃n:Nat,(qD P k)[j]?=some n/\row[i+j]?=some (n:Int)
 or:i+d=row.length\/∃B,(qD P k)[d]?=some B/\nT<=B/\bAt bm B (i+d)=true
def SndB(P:List Pd)(row:List Int)(nT:Nat)(bm:List (List Bool)):Prop:=∀s i,bAt bm s i=true->Via P row nT s i
theorem OkD.via{P:List Pd}{row:List Int}{nT:Nat}{bm:List (List Bool)}{k i d A:Nat}(h:OkD P row nT bm k i d)(hS:SndB P row nT bm)(hl:P[k]?.map Pd.left=some A):Via P row nT A i:=by
 rcases h.or with he|⟨B,h1,h2,h3⟩
 ·exact .fin hl h.le he h.eq
 ·exact .sub hl h.hi h.eq h1 h2 (hS B _ h3)
def ClsA(P:List Pd)(row:List Int)(nT:Nat)(bm:List (List Bool))(k i:Nat):Prop:=∀A,P[k]?.map Pd.left=some A->bAt bm A i=true\/∀d,¬OkD P row nT bm k i d
theorem Via.le{P:List Pd}{row:List Int}{nT A i:Nat}(h:Via P row nT A i):i<=row.length:=by
 cases h with
 |fin _ _ hi _=>omega
 |sub _ hi _ _ _ _=>omega
theorem via_closed{P:List Pd}{row:List Int}{nT:Nat}{bm:List (List Bool)}(hc:∀k i,k<P.length->i<=row.length->ClsA P row nT bm k i){A i:Nat}(h:Via P row nT A i):bAt bm A i=true:=by
 have hk:∀{k A:Nat},P[k]?.map Pd.left=some A->k<P.length:=fun{k A}h=>by
  apply Decidable.byContradiction;intro hn;rw[List.getElem?_eq_none (by omega)]at h;cases h
 induction h with
 | @fin A k d i hl hd hi hr=>
  rcases hc k i (hk hl) (by omega) A hl with h|h
  ·exact h
  ·exact absurd ⟨hd,by omega,hr,.inl hi⟩ (h d)
 | @sub A B k d i hl hi hr hB hT h ih=>
  rcases hc k i (hk hl) (by omega) A hl with h'|h'
  ·exact h'
  ·refine absurd ⟨?_,hi,hr,.inr ⟨B,hB,hT,ih⟩⟩ (h' d)
   have:=(List.getElem?_eq_some_iff.1 hB).1;omega
def setB(bm:List (List Bool))(s i:Nat):List (List Bool):=bm.set s ((bm.getD s []).set i true)
theorem bAt_set{bm:List (List Bool)}{s i t j:Nat}(hs:s<bm.length)(hi:i<(bm.getD s []).length):bAt (setB bm s i) t j=if t=s/\j=i then true else bAt bm t j:=by
 unfold bAt setB
 by_cases e:t=s
 ·subst e
  have h1:(bm.set t ((bm.getD t []).set i true)).getD t []=(bm.getD t []).set i true:=by simp[List.getD,hs]
  rw[h1]
  by_cases e2:j=i
  ·subst e2
   rw[if_pos ⟨rfl,rfl⟩];unfold aS;rw[List.getElem?_set_self hi];rfl
  ·rw[if_neg (fun h=>e2 h.2)]
   have:¬i=j:=fun h=>e2 h.symm
   simp[aS,this]
 ·rw[if_neg (fun h=>e h.1)]
  have h1:(bm.set s ((bm.getD s []).set i true)).getD t []=bm.getD t []:=by
   have:¬s=t:=fun h=>e h.symm
   simp[List.getD,this]
  rw[h1]
theorem SndB.set{P:List Pd}{row:List Int}{nT:Nat}{bm:List (List Bool)}(h:SndB P row nT bm){s i:Nat}(hs:s<bm.length)(hi:i<(bm.getD s []).length)(hv:Via P row nT s i):SndB P row nT (setB bm s i):=fun t j ht=>by
 rw[bAt_set hs hi]at ht
 split at ht
 ·rename_i e
  obtain⟨rfl,rfl⟩:=e;exact hv
 ·exact h t j ht
def cntR(l:List Bool):Nat:=l.countP fun b=>!b
def cntM(bm:List (List Bool)):Nat:=(bm.map cntR).sum
theorem cntR_set:∀{l:List Bool}{i:Nat},i<l.length->aS l i=false->cntR (l.set i true)+1=cntR l
 |b::l,0,_,h=>by
  simp[aS]at h;subst h;simp[cntR]
 |b::l,i+1,hi,h=>by
  have:=cntR_set (l:=l) (i:=i) (by simpa using hi) (by simpa [aS]using h);unfold cntR at *;rw[List.set_cons_succ,List.countP_cons,List.countP_cons];omega
theorem cntM_set:∀{bm:List (List Bool)}{s i:Nat},s<bm.length->i<(bm.getD s []).length->bAt bm s i=false->cntM (setB bm s i)+1=cntM bm
 |l::bm,0,i,_,hi,h=>by
  have h1:=cntR_set (l:=l) (i:=i) (by simpa using hi) (by simpa [bAt]using h);unfold cntM setB;simp only[List.set_cons_zero,List.map_cons,List.sum_cons,List.getD_cons_zero];omega
 |l::bm,s+1,i,hs,hi,h=>by
  have h1:=cntM_set (bm:=bm) (s:=s) (i:=i) (by simpa using hs) (by simpa using hi) (by simpa [bAt]using h);unfold cntM setB at *;simp only[List.set_cons_succ,List.map_cons,List.sum_cons,List.getD_cons_succ];omega
end Lx
end
section
open Go Go.RowKit
theorem jd.below3{w w':World}(ht:jd w)(hb:Below w.heap.size w w'):jd w':=((Lib.tabBelow_of_tabIs ht).on hb).here
end
section
open Go.RowKit
open Tr
def RowZ(w:World)(v:Value)(r:List Int):Prop:=∃a c,v=.slice a r.length c/\r.length<=c/\∀t(h:t<r.length),∃g o,a=some ⟨g,o,none⟩/\g<w.heap.size/\w.cell? ⟨g,o+t,none⟩=some (.int .i64 r[t])
theorem RowZ.below{w w':World}{v:Value}{r:List Int}(h:RowZ w v r)(hb:Below w.heap.size w w'):RowZ w' v r:=by
 obtain⟨a,c,h1,h2,h3⟩:=h;refine⟨a,c,h1,h2,fun t ht=>?_⟩;obtain⟨g,o,e,hl,hc⟩:=h3 t ht;exact⟨g,o,e,Nat.lt_of_lt_of_le hl hb.size,jS hb hc⟩
theorem Tryz.info48:(Tryz.prog.info? 48).map (fun i=>(i.zero,i.size,i.bytes))=some (some (.slice none 0 0),1,24):=by kernel_rfl
theorem Tryz.underlying58':Tryz.prog.underlying 58=some (.slice 48):=by kernel_rfl
theorem make_boolsM{n:Nat}(hn:n<=10000000)(w:World):(Instr.makeSlice 48 (.int .i64 (n:Int)) (.int .i64 (n:Int))).run Tryz.prog w=.ok (.slice (some ⟨w.heap.size,0,none⟩) n n) (w.alloc (.cells (bF (List.replicate n false)) 4)):=by
 obtain⟨i0,hi,hz0,hz1,hz2⟩:=info_parts Tryz.Zh;have h:=run_make (P:=Tryz.prog) w 48 4 i0 _ (by kernel_rfl) hi hz0 .i64 .i64 (n:Int) (n:Int) (by omega) (Int.le_refl _) (by rw[hz2];omega) (by omega);rw[h,Int.toNat_natCast,hz1];have e:Value.cells (.bool false)=#[.bool false]:=rfl;rw[e,Vk]
def begC(n:Nat)(r:Nat):List Value:=[.slice (some ⟨r,0,none⟩) n n]
theorem begE(n:Nat):sw (begC n) 1:=⟨fun _=>rfl,fun r u hu=>by simp only[begC,List.mem_singleton]at hu;subst hu;rfl⟩
structure Beg(B:Nat)(w:World)(v:Value)(n:Nat)(rbs:List Nat)(bm:List (List Bool)):Prop where
 top:aJ 48 1 (begC n) B w v rbs
 len:rbs.length=bm.length
 row:∀(s r:Nat)(l:List Bool),rbs[s]?=some r->bm[s]?=some l->aj w r (bF l) 4
 ge:∀r∈rbs,B<=r
 nd:rbs.Nodup
 ln:∀l∈bm,l.length=n
theorem Beg.nil(B:Nat)(w:World)(n:Nat):Beg B w (.slice none 0 0) n [] []:=⟨World.ownsRow_nil _ _ _ _,rfl,(fun _ _ _ h=>by simp at h),(fun _ h=>absurd h List.not_mem_nil),List.nodup_nil,(fun _ h=>absurd h List.not_mem_nil)⟩
theorem Beg.move{B:Nat}{w w':World}{v:Value}{n:Nat}{rbs:List Nat}{bm:List (List Bool)}(h:Beg B w v n rbs bm)(hk:∀g,g<w.heap.size->B<=g->w'.heap[g]?=w.heap[g]?):Beg B w' v n rbs bm:=by
 refine⟨aC h.top fun g hg=>hk g (h.top.lt g hg).2 (h.top.lt g hg).1,h.len,fun s r l h1 h2=>?_,h.ge,h.nd,h.ln⟩;have hb:=h.row s r l h1 h2;exact(hk r hb.lt (h.ge r (List.mem_of_getElem? h1))).trans hb
theorem Beg.at{B:Nat}{w:World}{v:Value}{n:Nat}{rbs:List Nat}{bm:List (List Bool)}(h:Beg B w v n rbs bm){s:Nat}(hs:s<bm.length):∃g cap r,v=.slice (some ⟨g,0,none⟩) bm.length cap/\w.cell? ⟨g,s,none⟩=some (.slice (some ⟨r,0,none⟩) n n)/\rbs[s]?=some r/\B<=r/\aj w r (bF (bm.getD s [])) 4/\(bm.getD s []).length=n:=by
 have hs':s<rbs.length:=by rw[h.len];exact hs
 obtain⟨g,cap,hv,-,-,hc⟩:=aJ.at (begE n) h.top hs';have h1:rbs[s]?=some rbs[s]:=List.getElem?_eq_getElem hs';have e:bm.getD s []=bm[s]:=by simp[List.getD,hs]
 refine⟨g,cap,rbs[s],by rw[<-h.len];exact hv,?_,h1,h.ge _ (List.getElem_mem hs'),?_,?_⟩
 ·have:=hc 0 _ (by decide) rfl
  simpa using this
 ·rw[e];exact h.row s _ _ h1 (List.getElem?_eq_getElem hs)
 ·rw[e];exact h.ln _ (List.getElem_mem hs)
theorem Beg.cell{B:Nat}{w:World}{v:Value}{n:Nat}{rbs:List Nat}{bm:List (List Bool)}(h:Beg B w v n rbs bm){s i:Nat}(hs:s<bm.length)(hi:i<n):∃g cap r,v=.slice (some ⟨g,0,none⟩) bm.length cap/\w.cell? ⟨g,s,none⟩=some (.slice (some ⟨r,0,none⟩) n n)/\w.cell? ⟨r,i,none⟩=some (.bool (Lx.bAt bm s i))/\w.frozen? ⟨r,i,none⟩=false/\B<=r/\Beg B (w.setCell ⟨r,i,none⟩ (.bool true)) v n rbs (Lx.setB bm s i):=by
 obtain⟨g,cap,r,hv,hc,hr,hB,hb,hl⟩:=h.at hs;have hsl:s<rbs.length:=by rw[h.len];exact hs
 refine⟨g,cap,r,hv,hc,?_,hb.frozen i,hB,?_⟩
 ·rw[hb.cell i,qx _ (by rw[hl];exact hi)];rfl
 ·refine⟨aC h.top fun g hg=>Below.heap_setCell _ _ _ _ (own_ne h.top hb (by decide) g hg),?_,fun t q l h1 h2=>?_,h.ge,h.nd,?_⟩
  ·unfold Lx.setB;rw[List.length_set];exact h.len
  ·unfold Lx.setB at h2
   by_cases e:t=s
   ·subst e
    rw[hr]at h1;cases h1;rw[List.getElem?_set_self hs]at h2;cases h2;rw[<-zL];exact hb.set i _
   ·rw[List.getElem?_set_ne (Ne.symm e)]at h2
    have hq:=h.row t q l h1 h2;refine hq.other (fun e2=>e ?_) _;subst e2;have ht:=(List.getElem?_eq_some_iff.1 h1).1;have e3:rbs[t]=rbs[s]:=by
     have a1:=(List.getElem?_eq_some_iff.1 h1).2;have a2:=(List.getElem?_eq_some_iff.1 hr).2;rw[a1,a2]
    exact(List.getElem_inj h.nd).1 e3
  ·intro l hl'
   unfold Lx.setB at hl';rcases List.mem_or_eq_of_mem_set hl' with h1|rfl
   ·exact h.ln l h1
   ·rw[List.length_set];exact hl
structure VM(w0 wr:World)(cs:Array Value)(vB:Value)(n:Nat)(rbs:List Nat)(bm:List (List Bool)):Prop where
 bel:Below w0.heap.size w0 wr
 box:aj wr w0.heap.size cs 60
 beg:Beg (w0.heap.size+1) wr vB n rbs bm
theorem VM.drewN{w0 wr:World}{cs:Array Value}{vB:Value}{n:Nat}{rbs:List Nat}{bm:List (List Bool)}(h:VM w0 wr cs vB n rbs bm)(q:Nat):VM w0 (wr.drewN q) cs vB n rbs bm:=⟨h.bel.trans ⟨rfl,rfl,rfl,Nat.le_refl _,fun _ _=>rfl⟩,h.box.drewN q,h.beg.move fun _ _ _=>rfl⟩
theorem VM.drew{w0 wr:World}{cs:Array Value}{vB:Value}{n:Nat}{rbs:List Nat}{bm:List (List Bool)}(h:VM w0 wr cs vB n rbs bm):VM w0 wr.drew cs vB n rbs bm:=⟨h.bel.trans ⟨rfl,rfl,rfl,Nat.le_refl _,fun _ _=>rfl⟩,h.box.drew,h.beg.move fun _ _ _=>rfl⟩
theorem VM.cell{w0 wr:World}{cs:Array Value}{vB:Value}{n:Nat}{rbs:List Nat}{bm:List (List Bool)}(h:VM w0 wr cs vB n rbs bm){s i:Nat}(hs:s<bm.length)(hi:i<n):∃g cap r,vB=.slice (some ⟨g,0,none⟩) bm.length cap/\wr.cell? ⟨g,s,none⟩=some (.slice (some ⟨r,0,none⟩) n n)/\wr.cell? ⟨r,i,none⟩=some (.bool (Lx.bAt bm s i))/\wr.frozen? ⟨r,i,none⟩=false/\VM w0 (wr.setCell ⟨r,i,none⟩ (.bool true)) cs vB n rbs (Lx.setB bm s i):=by
 obtain⟨g,cap,r,h1,h2,h3,h4,h5,h6⟩:=h.beg.cell hs hi;exact⟨g,cap,r,h1,h2,h3,h4,h.bel.setCell (p:=⟨r,i,none⟩) (by show w0.heap.size<=r;omega) _,h.box.other (by omega) _,h6⟩
theorem VM.at{w0 wr:World}{cs:Array Value}{g sz cap:Nat}{n:Nat}{rbs:List Nat}{bm:List (List Bool)}(h:VM w0 wr cs (.slice (some ⟨g,0,none⟩) sz cap) n rbs bm)(hl:bm.length=sz){s i:Nat}(hs:s<sz)(hi:i<n):∃r,wr.cell? ⟨g,s,none⟩=some (.slice (some ⟨r,0,none⟩) n n)/\wr.cell? ⟨r,i,none⟩=some (.bool (Lx.bAt bm s i))/\wr.frozen? ⟨r,i,none⟩=false/\VM w0 (wr.setCell ⟨r,i,none⟩ (.bool true)) cs (.slice (some ⟨g,0,none⟩) sz cap) n rbs (Lx.setB bm s i):=by
 obtain⟨g',cap',r,hv,h2,h3,h4,h5⟩:=h.cell (s:=s) (i:=i) (by omega) hi;cases hv;exact⟨r,h2,h3,h4,h5⟩
theorem VM.lnr{w0 wr:World}{cs:Array Value}{v:Value}{n:Nat}{rbs:List Nat}{bm:List (List Bool)}(h:VM w0 wr cs v n rbs bm){s:Nat}(hs:s<bm.length):(bm.getD s []).length=n:=by
 have e:bm.getD s []=bm[s]:=by simp[List.getD,hs]
 rw[e];exact h.beg.ln _ (List.getElem_mem hs)
theorem VM.push{w0 wr W1 w5:World}{cs:Array Value}{va:Option Addr}{vc:Nat}{v5:Value}{n:Nat}{rbs:List Nat}{bm:List (List Bool)}{l:List Bool}(hV:VM w0 wr cs (.slice va rbs.length vc) n rbs bm)(hbW:Below wr.heap.size wr W1)(kA:aj W1 wr.heap.size (bF l) 4)(hl:l.length=n)(hgrow:W1.grownBy w5 (Value.slice va rbs.length vc).ownBlock)(hown:w5.ownsRow (w0.heap.size+1) 48 1 v5 (rbs.length+1) (rbs.flatMap (begC n)++[.slice (some ⟨wr.heap.size,0,none⟩) n n]))(kX5:aj w5 w0.heap.size cs 60):VM w0 (w5.setCell ⟨w0.heap.size,6,none⟩ v5) (cs.setIfInBounds 6 v5) v5 n (rbs++[wr.heap.size]) (bm++[l]):=by
 have oA:aJ 48 1 (begC n) (w0.heap.size+1) W1 (.slice va rbs.length vc) rbs:=aJ.below hV.beg.top hbW;have hlx:=hV.box.lt;have IW:=hbW.size;have h0r:w0.heap.size<=wr.heap.size:=hV.bel.size;have hrl:∀r∈rbs,r<wr.heap.size:=fun r hr=>by
  obtain⟨s,hs⟩:=List.mem_iff_getElem?.1 hr;have hs':=(List.getElem?_eq_some_iff.1 hs).1;exact(hV.beg.row s r _ hs (List.getElem?_eq_getElem (by rw[<-hV.beg.len];exact hs'))).lt
 refine⟨?_,kX5.set 6 _,?_⟩
 ·refine Below.setCell (p:=⟨w0.heap.size,6,none⟩) ?_ (Nat.le_refl _) _
  refine(hV.bel.trans (hbW.mono h0r)).trans ⟨hgrow.os,hgrow.tape,hgrow.output,hgrow.size,fun b hb=>hgrow.block b (by omega) (fun e=>absurd (World.ownsRow.lt oA b e.symm).1 (by omega))⟩
 ·refine⟨?_,?_,fun s r x h1 h2=>?_,fun r hr=>?_,?_,fun x hx=>?_⟩
  ·have e:(rbs++[wr.heap.size]).flatMap (begC n)=rbs.flatMap (begC n)++[.slice (some ⟨wr.heap.size,0,none⟩) n n]:=by simp[begC]
   unfold aJ;rw[e,List.length_append];exact aC hown fun g hg=>Below.heap_setCell _ _ _ _ (fun e=>by have:=(hown.lt g hg).1;have e':g=w0.heap.size:=e;omega)
  ·rw[List.length_append,List.length_append,hV.beg.len];rfl
  ·rw[List.getElem?_append]at h1 h2
   rw[hV.beg.len]at h1
   by_cases hs:s<bm.length
   ·rw[if_pos hs]at h1 h2
    have hb:=hV.beg.row s r x h1 h2;have hr:=hV.beg.ge r (List.mem_of_getElem? h1);have hbW1:aj W1 r (bF x) 4:=(hbW.block r hb.lt).trans hb;exact(hbW1.grown hgrow (fun e=>own_ne oA hbW1 (by decide) r e.symm rfl)).other (by omega) _
   ·rw[if_neg hs]at h1 h2
    have hs0:s-bm.length=0:=by
     have:=(List.getElem?_eq_some_iff.1 h1).1;simp at this;omega
    rw[hs0]at h1 h2;cases h1;cases h2;exact(kA.grown hgrow (fun e=>own_ne oA kA (by decide) _ e.symm rfl)).other (by omega) _
  ·rcases List.mem_append.1 hr with h | h
   ·exact hV.beg.ge r h
   ·rw[List.mem_singleton]at h;omega
  ·rw[List.nodup_append]
   refine⟨hV.beg.nd,by simp,fun a ha b hb=>?_⟩;rw[List.mem_singleton]at hb;have:=hrl a ha;omega
  ·rcases List.mem_append.1 hx with h | h
   ·exact hV.beg.ln x h
   ·rw[List.mem_singleton]at h;rw[h];exact hl
def ViaE(w0:World)(P:List Lx.Pd)(row:List Int)(nT:Nat)(e:Ending)(w':World):Prop:=∃b:Bool,e=.returned (.bool b)/\Below w0.heap.size w0 w'/\(b=true↔Lx.Via P row nT nT 0)
namespace Lx
structure Pas(P:List Pd)(row:List Int)(nT:Nat)(bm0 bm:List (List Bool))(more:Bool)(k i:Nat):Prop where
 snd:SndB P row nT bm
 no:more=false->bm=bm0/\(∀k' i',k'<k->i'<=row.length->ClsA P row nT bm k' i')/\∀i',i'<i->ClsA P row nT bm k i'
 yes:more=true->cntM bm<cntM bm0
theorem Pas.first{P:List Pd}{row:List Int}{nT:Nat}{bm:List (List Bool)}(h:SndB P row nT bm):Pas P row nT bm bm false 0 0:=⟨h,fun _=>⟨rfl,fun _ _ h=>absurd h (Nat.not_lt_zero _),fun _ h=>absurd h (Nat.not_lt_zero _)⟩,fun h=>by cases h⟩
theorem Pas.nextI{P:List Pd}{row:List Int}{nT:Nat}{bm0 bm:List (List Bool)}{more:Bool}{k i:Nat}(h:Pas P row nT bm0 bm more k i)(hc:ClsA P row nT bm k i):Pas P row nT bm0 bm more k (i+1):=by
 refine⟨h.snd,fun e=>?_,h.yes⟩;obtain⟨h1,h2,h3⟩:=h.no e;refine⟨h1,h2,fun i' hi=>?_⟩
 by_cases e2:i'=i
 ·subst e2;exact hc
 ·exact h3 i' (by omega)
theorem Pas.nextK{P:List Pd}{row:List Int}{nT:Nat}{bm0 bm:List (List Bool)}{more:Bool}{k:Nat}(h:Pas P row nT bm0 bm more k (row.length+1)):Pas P row nT bm0 bm more (k+1) 0:=by
 refine⟨h.snd,fun e=>?_,h.yes⟩;obtain⟨h1,h2,h3⟩:=h.no e;refine⟨h1,fun k' i' hk hi=>?_,fun _ h=>absurd h (Nat.not_lt_zero _)⟩
 by_cases e2:k'=k
 ·subst e2;exact h3 i' (by omega)
 ·exact h2 k' i' (by omega) hi
theorem Pas.put{P:List Pd}{row:List Int}{nT:Nat}{bm0 bm:List (List Bool)}{more:Bool}{k i d A:Nat}(h:Pas P row nT bm0 bm more k i)(hl:P[k]?.map Pd.left=some A)(hA:A<bm.length)(hi:i<(bm.getD A []).length)(hf:bAt bm A i=false)(hO:OkD P row nT bm k i d):Pas P row nT bm0 (setB bm A i) true k (i+1):=by
 refine⟨h.snd.set hA hi (hO.via h.snd hl),fun e=>(by cases e),fun _=>?_⟩;have h1:=cntM_set hA hi hf;cases more with
 |false=>rw[<-(h.no rfl).1];omega
 |true=>have:=h.yes rfl;omega
theorem bAt_none{m n s i:Nat}:bAt (List.replicate m (List.replicate n false)) s i=false:=by
 unfold bAt aS List.getD;rw[List.getElem?_replicate]
 split
 ·simp only[Option.getD_some,List.getElem?_replicate]
  split <;> rfl
 ·rfl
theorem SndB.none(P:List Pd)(row:List Int)(nT m n:Nat):SndB P row nT (List.replicate m (List.replicate n false)):=fun s i h=>by rw[bAt_none]at h;cases h
theorem ClsA.all{P:List Pd}{row:List Int}{nT:Nat}{bm:List (List Bool)}{k i d:Nat}(hd:∀d',d'<d->¬OkD P row nT bm k i d')(hn:(qD P k).length<d\/row.length<i+d):ClsA P row nT bm k i:=fun _ _=>.inr fun d' h=>hd d' (by have:=h.le;have:=h.hi;omega) h
theorem ClsA.has{P:List Pd}{row:List Int}{nT:Nat}{bm:List (List Bool)}{k i A:Nat}(hA:P[k]?.map Pd.left=some A)(h:bAt bm A i=true):ClsA P row nT bm k i:=fun A' hA'=>by rw[hA]at hA';cases hA';exact .inl h
theorem OkD.next{P:List Pd}{row:List Int}{nT:Nat}{bm:List (List Bool)}{k i d:Nat}(hd:∀d',d'<d->¬OkD P row nT bm k i d')(h:¬OkD P row nT bm k i d):∀d',d'<d+1->¬OkD P row nT bm k i d':=fun d' h'=>by
 by_cases e:d'=d
 ·subst e;exact h
 ·exact hd d' (by omega)
def EqJ(P:List Pd)(row:List Int)(k i j:Nat):Prop:=∀j',j'<j->∃n:Nat,(qD P k)[j']?=some n/\row[i+j']?=some (n:Int)
theorem EqJ.next{P:List Pd}{row:List Int}{k i j n:Nat}(h:EqJ P row k i j)(h1:(qD P k)[j]?=some n)(h2:row[i+j]?=some (n:Int)):EqJ P row k i (j+1):=fun j' hj=>by
 by_cases e:j'=j
 ·subst e;exact⟨n,h1,h2⟩
 ·exact h j' (by omega)
structure OkJ(P:List Pd)(row:List Int)(nT:Nat)(bm:List (List Bool))(k i d:Nat)(b:Bool)(j:Nat):Prop where
 yes:b=true->(i+d=row.length\/∃B,(qD P k)[d]?=some B/\nT<=B/\bAt bm B (i+d)=true)/\EqJ P row k i j
 no:b=false->¬OkD P row nT bm k i d
theorem OkJ.fin{P:List Pd}{row:List Int}{nT:Nat}{bm:List (List Bool)}{k i d:Nat}(h:i+d=row.length):OkJ P row nT bm k i d true 0:=⟨fun _=>⟨.inl h,fun _ h=>absurd h (Nat.not_lt_zero _)⟩,fun h=>by cases h⟩
theorem OkJ.far{P:List Pd}{row:List Int}{nT:Nat}{bm:List (List Bool)}{k i d:Nat}(h:¬i+d=row.length)(h2:(qD P k).length<=d):OkJ P row nT bm k i d false 0:=⟨fun h=>(by cases h),fun _ hO=>by
 rcases hO.or with h3|⟨B,h3,-⟩
 ·exact h h3
 ·have:=(List.getElem?_eq_some_iff.1 h3).1;omega⟩
theorem OkJ.tok{P:List Pd}{row:List Int}{nT:Nat}{bm:List (List Bool)}{k i d B:Nat}(h:¬i+d=row.length)(h2:(qD P k)[d]?=some B)(h3:B<nT):OkJ P row nT bm k i d false 0:=⟨fun h=>(by cases h),fun _ hO=>by
 rcases hO.or with h4|⟨B',h4,h5,-⟩
 ·exact h h4
 ·rw[h2]at h4;cases h4;omega⟩
theorem OkJ.sub{P:List Pd}{row:List Int}{nT:Nat}{bm:List (List Bool)}{k i d B:Nat}(h:¬i+d=row.length)(h2:(qD P k)[d]?=some B)(h3:nT<=B):OkJ P row nT bm k i d (bAt bm B (i+d)) 0:=⟨fun hb=>⟨.inr ⟨B,h2,h3,hb⟩,fun _ h=>absurd h (Nat.not_lt_zero _)⟩,fun hb hO=>by
 rcases hO.or with h4|⟨B',h4,h5,h6⟩
 ·exact h h4
 ·rw[h2]at h4;cases h4;rw[hb]at h6;cases h6⟩
theorem OkJ.step{P:List Pd}{row:List Int}{nT:Nat}{bm:List (List Bool)}{k i d j n:Nat}{z:Int}(h:OkJ P row nT bm k i d true j)(hj:j<d)(h1:(qD P k)[j]?=some n)(h2:row[i+j]?=some z):OkJ P row nT bm k i d (z == (n:Int)) (j+1):=by
 refine⟨fun hb=>⟨(h.yes rfl).1,(h.yes rfl).2.next h1 ?_⟩,fun hb hO=>?_⟩
 ·rw[h2,eq_of_beq hb]
 ·obtain⟨m,h3,h4⟩:=hO.eq j hj
  rw[h1]at h3;cases h3;rw[h2]at h4;cases h4;simp at hb
theorem OkJ.done{P:List Pd}{row:List Int}{nT:Nat}{bm:List (List Bool)}{k i d:Nat}(h:OkJ P row nT bm k i d true d)(hd:d<=(qD P k).length)(hi:i+d<=row.length):OkD P row nT bm k i d:=⟨hd,hi,(h.yes rfl).2,(h.yes rfl).1⟩
theorem Pas.gM{P:List Pd}{row:List Int}{nT:Nat}{bm0 bm:List (List Bool)}{k:Nat}(h:Pas P row nT bm0 bm false k 0)(hk:k=P.length):bm=bm0/\∀k i,k<P.length->i<=row.length->ClsA P row nT bm k i:=by
 subst hk;obtain⟨h1,h2,-⟩:=h.no rfl;exact⟨h1,h2⟩
theorem setB_len{bm:List (List Bool)}{s i:Nat}:(setB bm s i).length=bm.length:=by unfold setB;rw[List.length_set]
end Lx
end
end Go.Proofs.YtjaalkocdbkdeaaGreatDoor
