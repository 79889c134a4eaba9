import Derived.Test.YtjaalkocdbkdeaaGreatDoorSA21
set_option maxHeartbeats 8000000
set_option maxRecDepth 1000000
namespace Go.Proofs.YtjaalkocdbkdeaaGreatDoor
open Lx Go.Proofs.Tryz
open Go.RowKit Tr
theorem Tryz.zY:(prog.info? 70).map (fun i=>(i.zero,i.size,i.bytes))=some (some (.agg #[.int .i64 0,.int .i64 0]),2,16):=by kernel_rfl
theorem Tryz.zD:prog.underlying 69=some (.slice 70):=by kernel_rfl
abbrev aJ(T k:Nat){α:Type}(enc:α->List Value)(B:Nat)(w:World)(v:Value)(l:List α):Prop:=w.ownsRow B T k v l.length (l.flatMap enc)
structure sw{α:Type}(enc:α->List Value)(k:Nat):Prop where
 len:∀x,(enc x).length=k
 one:∀x,∀u∈enc x,u.oneCell'=true
theorem sw.G7{α:Type}{enc:α->List Value}{k:Nat}(h:sw enc k):∀l:List α,(l.flatMap enc).length=l.length*k
 | []=>by simp
 |x::l=>by rw[List.flatMap_cons,List.length_append,h.G7 l,h.len,List.length_cons,Nat.succ_mul];omega
theorem sw.ajP{α:Type}{enc:α->List Value}{k:Nat}(h:sw enc k)(l:List α):∀u∈l.flatMap enc,u.oneCell'=true:=by
 intro u hu;obtain⟨s,-,hs⟩:=List.mem_flatMap.1 hu;exact h.one s u hs
theorem sw.Qd{α:Type}{enc:α->List Value}{k:Nat}(h:sw enc k):∀{l:List α}{j i:Nat}(hj:j<l.length),i<k->(l.flatMap enc)[j*k+i]?=(enc l[j])[i]?
 | [],j,i,hj,_=>absurd hj (Nat.not_lt_zero _)
 |x::l,0,i,_,hi=>by rw[List.flatMap_cons,Nat.zero_mul,Nat.zero_add,List.getElem?_append_left (by rw[h.len];exact hi)];rfl
 |x::l,j+1,i,hj,hi=>by
  rw[List.flatMap_cons,List.getElem?_append_right (by rw[h.len,Nat.succ_mul];omega),h.len,show (j+1)*k+i-k=j*k+i by rw[Nat.succ_mul];omega,h.Qd (by simpa using hj) hi];rfl
theorem aJ.at{T k B:Nat}{α:Type}{enc:α->List Value}{w:World}{v:Value}{l:List α}(hE:sw enc k)(h:aJ T k enc B w v l){j:Nat}(hj:j<l.length):∃g cap,v=.slice (some ⟨g,0,none⟩) l.length cap/\B<=g/\g<w.heap.size/\∀i u,i<k->(enc l[j])[i]?=some u->w.cell? ⟨g,j*k+i,none⟩=some u:=by
 obtain⟨g,cap,e,hBg,hl⟩:=World.ownsRow.form h (by omega);subst e;have hc:=World.ownsRow.cells h (g:=g) rfl;refine⟨g,cap,rfl,hBg,hl,fun i u hi hu=>?_⟩;have:=hc (j*k+i) u (by rw[hE.Qd hj hi];exact hu);rw[show (⟨g,0,none⟩:Addr).add (j*k+i)=⟨g,j*k+i,none⟩ by unfold Addr.add;split <;> simp_all]at this;exact this
theorem aJ.below{T k B:Nat}{α:Type}{enc:α->List Value}{w w':World}{v:Value}{l:List α}(h:aJ T k enc B w v l)(hb:Below w.heap.size w w'):aJ T k enc B w' v l:=own_below h hb
theorem rY{T S k by':Nat}{z:Value}{α:Type}{enc:α->List Value}(hI:(prog.info? T).map (fun i=>(i.zero,i.size,i.bytes))=some (some z,k,by'))(hS:prog.underlying S=some (.slice T))(hz:z.cells.size=k)(hk:0<k)(hE:sw enc k){w:World}{ops:Array Oper}{rest:List Oper}{o:Oper}{a:Act}{Q:Exit->Act->World->Prop}(hgd:o.guard=none)(s x:Operand)(ho:o.op=.call { callee:=.builtin .append,args:=#[s,x],argTypes:=#[S,S] })(B:Nat)(hB:B<=w.heap.size)(v:Value)(l:List α)(hs:a.eval s=v)(hl:aJ T k enc B w v l)(y:α)(g c:Nat)(hx:a.eval x=.slice (some ⟨g,0,none⟩) 1 c)(hn:∀(j:Nat)(u:Value),(enc y)[j]?=some u->w.cell? ((⟨g,0,none⟩:Addr).add j)=some u)(hm:l.length+1<=maxLen)(hby:(l.length+1)*by'<=140737488355328)(h:∀v' w',aJ T k enc B w' v' (l++[y])->Below B w w'->w.grownBy w' v.ownBlock->(v'.ownBlock=v.ownBlock\/v'.ownBlock=some w.heap.size)->wpList prog ops Q rest (a.put o.dst v') w'):wpList prog ops Q (o::rest) a w:=by
 obtain⟨i0,hi0,hz0,hz1,hz2⟩:=info_parts hI;refine wpList_append_own_at _ hgd s x S ho B T i0 _ k by' hS hi0 hz0 hz1 hz2 hz hk v l.length (l.flatMap enc) hs hl ⟨g,0,none⟩ 1 c (enc y) hx (by rw[hE.len,Nat.one_mul]) hn (hE.one y) hm hby hB fun v5 w5 hown5 aU _ ajQ=>?_
 refine h v5 w5 ?_ ?_ aU ajQ
 ·have e:(l++[y]).flatMap enc=l.flatMap enc++enc y:=by simp
  unfold aJ;rw[e,List.length_append];exact hown5
 ·exact⟨aU.os,aU.tape,aU.output,aU.size,fun b hb=>aU.block b (by omega) fun e=>absurd (World.ownsRow.lt hl b e.symm).1 (by omega)⟩
theorem qi:sw dI 2:=⟨fun _=>rfl,fun s u hu=>by simp only[dI,List.mem_cons,List.not_mem_nil,or_false]at hu;rcases hu with rfl|rfl <;> rfl⟩
theorem ahl(l:List av):(l.flatMap dI).length=l.length*2:=by
 induction l with
 |nil=>rfl
 |cons s l ih=>rw[List.flatMap_cons,List.length_append,ih];simp[dI];omega
theorem ahm(l:List av):∀u∈l.flatMap dI,u.oneCell'=true:=by
 intro u hu;obtain⟨s,-,h⟩:=List.mem_flatMap.1 hu;simp only[dI,List.mem_cons,List.not_mem_nil,or_false]at h;rcases h with rfl|rfl <;> rfl
theorem agp{w:World}{ops:Array Oper}{rest:List Oper}{o:Oper}{a:Act}{Q:Exit->Act->World->Prop}(hgd:o.guard=none)(s x:Operand)(ho:o.op=.call { callee:=.builtin .append,args:=#[s,x],argTypes:=#[69,69] })(B B':Nat)(hB:B<=w.heap.size)(u:Value)(r:List av)(hs:a.eval s=.slice none 0 0)(hu:SR B' w u r)(hx:a.eval x=u)(hr:r.length<=200000)(h:∀ra rc w',SR B w' (.slice ra r.length rc) r->Below w.heap.size w w'->wpList prog ops Q rest (a.put o.dst (.slice ra r.length rc)) w'):wpList prog ops Q (o::rest) a w:=by
 obtain⟨i0,hi0,hz0,hz1,hz2⟩:=info_parts Tryz.zY;have hu':=hu;unfold SR at hu';rcases hu'.2 with ⟨rfl,hzero⟩|⟨g4,cap4,GY,rfl,hg4,Ez,hc4,xu,-,-⟩
 ·obtain rfl:r=[]:=List.eq_nil_of_length_eq_zero hzero
  exact wpList_append_own_none hgd s x 69 ho B 70 i0 2 Tryz.zD hi0 (.slice none 0 0) 0 [] hs (World.ownsRow_nil _ _ _ _) hx (h none 0 w (World.ownsRow_nil _ _ _ _) (Below.refl _ _))
 ·refine wpList_append_own_at _ hgd s x 69 ho B 70 i0 _ 2 16 Tryz.zD hi0 hz0 hz1 hz2 rfl (by decide) (.slice none 0 0) 0 [] hs (World.ownsRow_nil _ _ _ _) ⟨g4,0,none⟩ r.length cap4 (r.flatMap dI) hx (ahl r) (hu'.cells rfl) (ahm r) (by unfold maxLen;omega) (by omega) hB fun v5 w5 hown5 aU _ _=>?_
  rw[Nat.zero_add]at hown5;obtain⟨dU,dV,rfl,-⟩:=aF hown5;exact h dU dV w5 hown5 ⟨aU.os,aU.tape,aU.output,aU.size,fun g hg=>aU.block g hg (by simp[Value.ownBlock])⟩
theorem Lx.Xn{P:List Lx.Pd}{n:Option Nat}{l:List av}:∀k:Nat,(fu P n l k).length<=l.length+k
 |0=>zL0
 |k+1=>by
  have:=Xn (P:=P) (n:=n) (l:=l) k;rw[fu]
  split
  ·rw[List.length_append,List.length_singleton];omega
  ·omega
theorem Lx.X8{P:List Lx.Pd}{n:Option Nat}{l:List av}:∀k:Nat,l.length<=(fu P n l k).length
 |0=>zL0
 |k+1=>by
  have:=X8 (P:=P) (n:=n) (l:=l) k;rw[fu]
  split
  ·rw[List.length_append,List.length_singleton];omega
  ·omega
def EC(w:World)(C:List av)(e:Ending)(w':World):Prop:=∃v,e=.returned v/\SR w.heap.size w' v C/\Below w.heap.size w w'
theorem EC.mk{w:World}{C:List av}{e:Ending}{w':World}(v:Value)(he:e=.returned v)(h:SR w.heap.size w' v C)(hb:Below w.heap.size w w'):EC w C e w':=⟨v,he,h,hb⟩
def qj(P:List Lx.Pd)(l:List av):Prop:=∀s∈l,s.1<P.length/\s.2<=100000
theorem qj.add{P:List Lx.Pd}{l:List av}(h:qj P l)(n:Option Nat):qj P (fu P n l P.length):=by
 cases n with
 |none=>rw[F8];exact h
 |some n=>
  rw[Gg];intro s hs;rcases List.mem_append.1 hs with hs|hs
  ·exact h s hs
  ·obtain⟨h1,h2,-⟩:=BG.1 (List.mem_filter.1 hs).1
   exact⟨h2,by omega⟩
theorem ai2{P:List Lx.Pd}{s:av}{m:Nat}:((m:Int) == rQ P s)=decide (some m=bE P s/\bE P s≠none):=by
 unfold rQ;cases h:bE P s with
 |none=>
  have:((m:Int) == -1)=false:=zB0 (by omega);simp[this]
 |some n=>
  by_cases e:m=n
  ·subst e;simp
  ·have:((m:Int) == (n:Int))=false:=zB0 (by omega)
   simp[this,e]
theorem aeH{w:World}{ta na ba ka:Option Addr}{nT tc nN nc nb bc nk kc:Nat}{vP vK:Value}{P:List Lx.Pd}{K:List av}{B0:Nat}(hP:PR (fun _=>True) w vP P)(hK:SR B0 w vK K)(hKo:qj P K)(hpm:P.length<=100000)(hkm:K.length<=100000):Calls prog 69 #[.agg #[.slice ta nT tc,.slice na nN nc,vP,.slice ba nb bc,.slice ka nk kc],vK] w (EC w (gM P K)):=by
 obtain⟨pa,pc,rfl,-⟩:∃a c,vP=.slice a P.length c/\P.length<=maxLen:=by obtain⟨ps,h1,h2,-⟩:=hP;exact aF h2
 obtain⟨ka',kc',hvk,-⟩:=aF hK;subst hvk;obtain⟨W0,hW0⟩:∃W,W=w.alloc (.cells #[.slice ta nT tc,.slice na nN nc,.slice pa P.length pc,.slice ba nb bc,.slice ka nk kc] 54):=⟨_,rfl⟩;have hb0:Below w.heap.size w W0:=by rw[hW0];exact(Below.refl _ _).alloc (zL0) _
 have hs0:W0.heap.size=w.heap.size+1:=by rw[hW0];simp
 have rO:aj W0 w.heap.size #[.slice ta nT tc,.slice na nN nc,.slice pa P.length pc,.slice ba nb bc,.slice ka nk kc] 54:=by rw[hW0];exact aj.new w _ 54
 have ME:SR B0 W0 (.slice ka' K.length kc') K:=hK.below hb0;obtain⟨i0,hi0,hz0,hz1,hz2⟩:=info_parts Tryz.zY;go_enter func69,ntmps69;go_upto_region 2 with fail
 rw[<-hW0];clear hW0;go_upto_region 3 with (at_builtin;go_loud (refine agp rfl _ _ rfl W0.heap.size B0 (zL0) _ K rfl ME rfl (by omega) ?_;intro la lc w1 hL1 hb1))
 have fM:Below w.heap.size w w1:=hb0.trans (hb1.mono hb0.size);have hs1:=hb1.size;have HD0:Hid (∀r,mZ P K 0 r->mZ P K 0 r):=fun _ h=>h
 have HZ0:Hid (l9 P K K):=l9.refl P K;go_wp2_with fail
 go_loopg [5,6] (K.length+P.length+1) (fun m v i wr=>∃(j:Nat)(l:List av),j+m=K.length+P.length+1/\i=.int .i64 (j:Int)/\j<=l.length/\SR W0.heap.size wr v l/\Below W0.heap.size W0 wr/\Hid (l9 P K l)/\Hid (qj P l)/\Hid (∀r,mZ P l j r->mZ P K 0 r))
 case atStart=>exact⟨0,K,by omega,rfl,Nat.zero_le _,hL1,hb1,HZ0,hKo,HD0⟩
 case round=>
  clear HD0 HZ0 hL1;revert wr;intro wz hrel;obtain⟨j,l,hkj,rfl,hjl,hL,hbz,HZ,HO,HD⟩:=hrel;obtain⟨oa,oc,rfl,-⟩:∃a c,_=Value.slice a l.length c/\l.length<=maxLen:=aF hL;have hbw:Below w.heap.size w wz:=hb0.trans (hbz.mono (by omega));have qP:aj wz w.heap.size _ 54:=(hbz.block _ (by omega)).trans rO;have a0:wz.cell? ⟨w.heap.size,0,none⟩=some (.slice ta nT tc):=qP.cell 0;have a1:wz.cell? ⟨w.heap.size,1,none⟩=some (.slice na nN nc):=qP.cell 1;have a2:wz.cell? ⟨w.heap.size,2,none⟩=some (.slice pa P.length pc):=qP.cell 2;have a3:wz.cell? ⟨w.heap.size,3,none⟩=some (.slice ba nb bc):=qP.cell 3;have a4:wz.cell? ⟨w.heap.size,4,none⟩=some (.slice ka nk kc):=qP.cell 4;have hlen:=HZ.out.len;have hsz:=hbz.size
  by_cases hlt:j<l.length
  ·obtain⟨gL,cap,hv,lgL,c0,c1⟩:=hL.at hlt
   cases hv;have hok:=HO.out l[j] (List.getElem_mem hlt);have i1:(0:Int)<=(j:Int):=by omega
   have i2:(j:Int)<(l.length:Int):=by omega
   have HDn:Hid (∀r,mZ P (fu P (bE P l[j]) l P.length) (j+1) r->mZ P K 0 r):=fun r h=>HD.out r (.step hlt h)
   have RD:Hid (l9 P K (fu P (bE P l[j]) l P.length)):=HZ.out.add _;have Dg:Hid (qj P (fu P (bE P l[j]) l P.length)):=HO.out.add _;have RF:=hP.yA hbw;generalize l[j]=sp at c0 c1 hok HDn RD Dg;obtain⟨sk,sd⟩:=sp;simp only at c0 c1 hok;clear HZ HO HD;have q1:=Vr (nT:=nT) (nN:=nN) (ta:=ta) (na:=na) (ba:=ba) (ka:=ka) (tc:=tc) (nc:=nc) (nb:=nb) (bc:=bc) (nk:=nk) (kc:=kc) (RF.yA (w':=wz.drew) ⟨rfl,rfl,rfl,zL0,fun _ _=>rfl⟩) (sk,sd) hok.1 hok.2 hpm;simp only at q1;go_wp2_with fail
   go_region_law (refine jK rfl 70 #[.agg #[.slice ta nT tc,.slice na nN nc,.slice pa P.length pc,.slice ba nb bc,.slice ka nk kc],.agg #[.int .i64 (sk:Int),.int .i64 (sd:Int)]] (by go_simp) q1 ?_;rintro e w2⟨rfl,hb2⟩;refine⟨_,rfl,?_⟩)
   all_goals
    have hb6:Below wz.heap.size wz w2:=(Below.refl _ wz).drew.trans hb2;have ru:Below W0.heap.size W0 w2:=hbz.trans (hb6.mono hsz);have hL2:SR W0.heap.size w2 (.slice (some ⟨gL,0,none⟩) l.length oc) l:=hL.below hb6;have hs6:=hb6.size;clear q1 a0 a1 a2 a3 a4 c0 c1;generalize hbi:rQ P (sk,sd)=bi;go_wp2_with fail
    go_loopg [5,8] P.length (fun m v i wr=>∃q:Nat,q+m=P.length/\i=.int .i64 (q:Int)/\SR W0.heap.size wr v (fu P (bE P (sk,sd)) l q)/\Below W0.heap.size W0 wr)
    case atStart=>exact⟨0,by omega,rfl,hL2,ru⟩
    case round=>
     clear hL2 ru;revert wr;intro wr hrel;obtain⟨q,hkq,rfl,AZ,hbr⟩:=hrel;obtain⟨ra,rc,vY,hrm⟩:=aF AZ;subst vY;have j5:Below w.heap.size w wr:=hb0.trans (hbr.mono (by omega));have A8:aj wr w.heap.size _ 54:=(hbr.block _ (by omega)).trans rO;have a2:wr.cell? ⟨w.heap.size,2,none⟩=some (.slice pa P.length pc):=A8.cell 2;have hsr:=hbr.size
     by_cases sN:q<P.length
     ·obtain⟨gP,Ao,u,hvp,-,x0,-,-⟩:=(hP.yA j5).atS sN
      cases hvp;have i3:(0:Int)<=(q:Int):=by omega
      have i4:(q:Int)<(P.length:Int):=by omega
      have hmem:((q,0)∈fu P (bE P (sk,sd)) l q↔(q,0)∈l):=OT (zL0);have hP':P[q]?.map Lx.Pd.left=some P[q].left:=by simp[sN]
      have hbq:((P[q].left:Int) == rQ P (sk,sd))=decide (some P[q].left=bE P (sk,sd)/\bE P (sk,sd)≠none):=ai2;have HY:Hid ((some P[q].left=bE P (sk,sd)/\bE P (sk,sd)≠none)->(q,0)∉l->fu P (bE P (sk,sd)) l (q+1)=fu P (bE P (sk,sd)) l q++[(q,0)]):=fun h1 h2=>if_pos ⟨hP'.trans h1.1,h1.2,h2⟩
      have HN:Hid (¬((some P[q].left=bE P (sk,sd)/\bE P (sk,sd)≠none)/\(q,0)∉l)->fu P (bE P (sk,sd)) l (q+1)=fu P (bE P (sk,sd)) l q):=fun h1=>if_neg fun h2=>h1 ⟨⟨hP'.symm.trans h2.1,h2.2.1⟩,h2.2.2⟩
      have hlr:(fu P (bE P (sk,sd)) l q).length<=l.length+q:=Xn _;have hin:decide ((q,0)∈fu P (bE P (sk,sd)) l q)=decide ((q,0)∈l):=by rw[decide_eq_decide];exact hmem
      obtain⟨W5,mg⟩:∃W,W=wr.alloc (.cells #[.int .i64 (q:Int),.int .i64 0] 70):=⟨_,rfl⟩;have hb5:Below wr.heap.size wr W5:=by rw[mg];exact(Below.refl _ _).alloc (zL0) _
      have Qe:Below W0.heap.size W0 W5:=hbr.trans (hb5.mono hsr);have hL5:SR W0.heap.size W5 (.slice ra (fu P (bE P (sk,sd)) l q).length rc) (fu P (bE P (sk,sd)) l q):=AZ.below hb5;have hs5:W5.heap.size=wr.heap.size+1:=by rw[mg];simp
      have IG:aj W5 wr.heap.size #[.int .i64 (q:Int),.int .i64 0] 70:=by rw[mg];exact aj.new wr _ 70
      have e0:W5.cell? ⟨wr.heap.size,0,none⟩=some (.int .i64 (q:Int)):=IG.cell 0;have e1:W5.cell? ⟨wr.heap.size,1,none⟩=some (.int .i64 0):=IG.cell 1;have a25:W5.cell? ⟨w.heap.size,2,none⟩=some (.slice (some ⟨gP,0,none⟩) P.length pc):=jS hb5 a2;have x05:W5.cell? ⟨gP,q*3,none⟩=some (.int .i64 (P[q].left:Int)):=jS hb5 x0;have q2:=YS hL5 (q,0);simp only at q2;rw[hin]at q2;have q2':Calls prog 108 #[.slice ra (fu P (bE P (sk,sd)) l q).length rc,.agg #[.int .i64 (q:Int),.int .i64 0]] W5 fun e w'=>e=.returned (.bool (decide ((q,0)∈l)))/\Below W5.heap.size W5 w':=q2
      clear q2 hmem hP';generalize P[q].left=lf at hbq HY HN x05;rw[hbi]at hbq;go_upto_region 11 with fail
      rw[<-mg];clear mg x0 a2
      by_cases hc:some lf=bE P (sk,sd)/\bE P (sk,sd)≠none
      ·have hq1:((lf:Int) == bi)=true:=by rw[hbq];simp[hc]
       have hq2:(lf:Int)=bi:=by simpa using hq1
       by_cases hm:(q,0)∈l
       ·have hd:decide ((q,0)∈l)=true:=by simp[hm]
        rw[hd]at q2';have HE:Hid (fu P (bE P (sk,sd)) l (q+1)=fu P (bE P (sk,sd)) l q):=HN.out (fun h=>h.2 hm);clear HN HY hbq hd
        go_wp2_with (go_at_call 108;refine q2'.mono ?_;rintro e w7⟨rfl,jc⟩)
        go_roundg (P.length - (q+1))
        case measure=>omega
        case rel=>exact⟨q+1,by omega,by go_num,by rw[HE.out];exact hL5.below jc,Qe.trans (jc.mono (by omega))⟩
       ·have hd:decide ((q,0)∈l)=false:=by simp[hm]
        rw[hd]at q2';have HE:Hid (fu P (bE P (sk,sd)) l (q+1)=fu P (bE P (sk,sd)) l q++[(q,0)]):=HY.out hc hm;clear HN HY hbq hd
        go_wp2_with (first
         | (go_at_call 108;refine q2'.mono ?_;rintro e w7⟨rfl,jc⟩;have e07:=jS jc e0;have e17:=jS jc e1;have hL7:SR W0.heap.size w7 _ _:=hL5.below jc;have hs7:=jc.size)
         | (at_builtin;go_loud (refine rY Tryz.zY Tryz.zD rfl (by decide) qi rfl _ _ rfl W0.heap.size (by simp;omega) _ (fu P (bE P (sk,sd)) l q) rfl (aJ.below hL7 ((Below.refl _ w7).alloc (zL0) _)) (q,0) w7.heap.size 1 rfl (bC (aj.new w7 _ 70)) (by unfold maxLen;omega) (by omega) ?_;intro v8 w8 mh jR _ _)))
        go_roundg (P.length - (q+1))
        case measure=>omega
        case rel=>exact⟨q+1,by omega,by go_num,by rw[HE.out];exact mh,Qe.trans ((jc.mono (by omega)).trans (((Below.refl _ w7).alloc (by omega) _).trans (jR.mono (by omega))))⟩
      ·have hq1:((lf:Int) == bi)=false:=by rw[hbq];simp[hc]
       have hq2:¬(lf:Int)=bi:=by simpa using hq1
       have HE:Hid (fu P (bE P (sk,sd)) l (q+1)=fu P (bE P (sk,sd)) l q):=HN.out (fun h=>hc h.1);clear HN HY hbq q2' HDn RD Dg;go_wp2_with fail;go_roundg (P.length - (q+1))
       case measure=>omega
       case rel=>exact⟨q+1,by omega,by go_num,by rw[HE.out];exact hL5,Qe⟩
     ·obtain rfl:q=P.length:=by omega
      go_wp2_with fail;go_roundg (K.length+P.length+1 - (j+1))
      case measure=>omega
      case rel=>exact⟨j+1,_,by omega,by go_num,by have:=X8 (P:=P) (n:=bE P (sk,sd)) (l:=l) P.length;omega,AZ,hbr,RD,Dg,HDn⟩
  ·have HC:Hid (l=gM P K):=(HD.out l (.done (by omega))).gM
   clear HD HZ HO;go_wp2_with fail;go_ret;exact EC.mk _ rfl (by rw[<-HC.out];exact dm hL (by omega)) hbw
theorem ahn{w:World}(s t:av):Calls prog 109 #[.agg #[.int .i64 (s.1:Int),.int .i64 (s.2:Int)],.agg #[.int .i64 (t.1:Int),.int .i64 (t.2:Int)]] w fun e w'=>e=.returned (.bool (decide (dP s t)))/\Below w.heap.size w w':=by
 obtain⟨a,b⟩:=s;obtain⟨c,d⟩:=t;simp only;obtain⟨W0,hW0⟩:∃W,W=(w.alloc (.cells #[.int .i64 (a:Int),.int .i64 (b:Int)] 70)).alloc (.cells #[.int .i64 (c:Int),.int .i64 (d:Int)] 70):=⟨_,rfl⟩;have hb0:Below w.heap.size w W0:=by rw[hW0];exact((Below.refl _ _).alloc (zL0) _).alloc (by simp) _
 have kA:aj W0 w.heap.size #[.int .i64 (a:Int),.int .i64 (b:Int)] 70:=by rw[hW0];exact(aj.new w _ 70).alloc _
 have kB:aj W0 (w.heap.size+1) #[.int .i64 (c:Int),.int .i64 (d:Int)] 70:=by rw[hW0];simpa using aj.new (w.alloc (.cells #[.int .i64 (a:Int),.int .i64 (b:Int)] 70)) #[.int .i64 (c:Int),.int .i64 (d:Int)] 70
 have a0:W0.cell? ⟨w.heap.size,0,none⟩=some (.int .i64 (a:Int)):=kA.cell 0;have a1:W0.cell? ⟨w.heap.size,1,none⟩=some (.int .i64 (b:Int)):=kA.cell 1;have b0:W0.cell? ⟨w.heap.size+1,0,none⟩=some (.int .i64 (c:Int)):=kB.cell 0;have b1:W0.cell? ⟨w.heap.size+1,1,none⟩=some (.int .i64 (d:Int)):=kB.cell 1;go_enter func109,ntmps109;go_upto_region 1 with fail
 rw[<-hW0];clear hW0
 by_cases h1:a<c
 ·have i1:(a:Int)<(c:Int):=by omega
  have HD:Hid (decide (dP (a,b) (c,d))=true):=decide_eq_true (.inl h1);clear h1;go_wp2_with fail;go_ret;exact⟨by rw[HD.out];rfl,hb0⟩
 ·have i1:¬(a:Int)<(c:Int):=by omega
  by_cases h2:a=c
  ·subst h2
   by_cases h3:b<d
   ·have i3:(b:Int)<(d:Int):=by omega
    have HD:Hid (decide (dP (a,b) (a,d))=true):=decide_eq_true (.inr ⟨rfl,h3⟩);clear h1 h3;go_wp2_with fail;go_ret;exact⟨by rw[HD.out];rfl,hb0⟩
   ·have i3:¬(b:Int)<(d:Int):=by omega
    have HD:Hid (decide (dP (a,b) (a,d))=false):=decide_eq_false (by unfold dP;simp only;omega);clear h1 h3;go_wp2_with fail;go_ret;exact⟨by rw[HD.out];rfl,hb0⟩
  ·have i2:((a:Int) == (c:Int))=false:=zB0 (by omega)
   have i3:¬(a:Int)=(c:Int):=by omega
   have i4:¬a=c:=h2;have HD:Hid (decide (dP (a,b) (c,d))=false):=decide_eq_false (by unfold dP;simp only;omega);clear h1 h2;go_wp2_with fail;go_ret;exact⟨by rw[HD.out];rfl,hb0⟩
theorem aho{B C:Nat}{w:World}{v u:Value}{l m:List av}(hl:SR B w v l)(hm:SR C w u m):Calls prog 31 #[v,u] w fun e w'=>e=.returned (.bool (decide (l=m)))/\Below w.heap.size w w':=by
 obtain⟨a,c,rfl,hlm⟩:∃a c,v=.slice a l.length c/\l.length<=maxLen:=aF hl;obtain⟨a',c',rfl,hmm⟩:∃a c,u=.slice a m.length c/\m.length<=maxLen:=aF hm;unfold maxLen at hlm hmm;have HL:Hid (l.length=l.length):=rfl;obtain⟨n,hn⟩:∃n,n=l.length:=⟨_,rfl⟩;go_enter func31,ntmps31
 by_cases hle:l.length=m.length
 ·have HE:Hid (l.length=m.length):=hle
  have HD:Hid (decide (l=m)=decide (l.drop 0=m.drop 0)):=rfl;rw[hle];clear hle hn HL;go_wp2_with fail
  go_loopg [5] m.length (fun q i wr=>∃j:Nat,j+q=m.length/\i=.int .i64 (j:Int)/\Below w.heap.size w wr/\Hid (decide (l=m)=decide (l.drop j=m.drop j)))
  case atStart=>exact⟨0,by omega,rfl,Below.refl _ _,HD⟩
  case round=>
   clear HD;revert wr;intro wz hrel;obtain⟨j,hkj,rfl,hbz,HD⟩:=hrel;have hsz:=hbz.size
   by_cases hlt:j<m.length
   ·have hlt':j<l.length:=by have:=HE.out;omega
    obtain⟨g,cap,hv,lg,c0,c1⟩:=(hl.below hbz).at hlt';rw[HE.out]at hv;cases hv;obtain⟨g',cap',hv',lg',d0,d1⟩:=(hm.below hbz).at hlt;cases hv';have hd:=HD.out;rw[List.drop_eq_getElem_cons hlt,List.drop_eq_getElem_cons hlt']at hd;generalize l[j]=x at c0 c1 hd;generalize m[j]=y at d0 d1 hd;obtain⟨xk,xd⟩:=x;obtain⟨yk,yd⟩:=y;simp only at c0 c1 d0 d1;have i1:(0:Int)<=(j:Int):=by omega
    have i2:(j:Int)<(m.length:Int):=by omega
    have HZ:Hid (∀nq,Below w.heap.size w (wz.drewN nq)):=fun nq=>hbz.trans ⟨rfl,rfl,rfl,zL0,fun _ _=>rfl⟩
    clear hlt'
    by_cases he:xk=yk/\xd=yd
    ·obtain⟨rfl,rfl⟩:=he
     have HD2:Hid (decide (l=m)=decide (l.drop (j+1)=m.drop (j+1))):=by show _=_;rw[hd];simp
     clear hd HD;go_wp2_with fail
     go_quiet (fail)
     go_wp2_with fail;go_roundg (m.length - (j+1))
     case measure=>omega
     case rel=>exact⟨j+1,by omega,by go_num,HZ.out _,HD2⟩
    ·have HD2:Hid (decide (l=m)=false):=by
      show _=_;rw[hd];refine decide_eq_false fun e=>he ?_
      injection e with e1 _
      exact⟨congrArg Prod.fst e1,congrArg Prod.snd e1⟩
     clear hd HD;rcases Classical.em (xk=yk) with h1|h1
     ·subst h1
      have hx:((xd:Int) == (yd:Int))=false:=zB0 (by omega);have hx2:¬(xd:Int)=(yd:Int):=by omega
      have hx3:¬xd=yd:=by omega
      clear he;go_wp2_with fail
      go_quiet (fail)
      go_wp2_with fail;go_ret;exact⟨by rw[HD2.out];rfl,HZ.out _⟩
     ·have hx:((xk:Int) == (yk:Int))=false:=zB0 (by omega)
      have hx2:¬(xk:Int)=(yk:Int):=by omega
      clear he;go_wp2_with fail
      go_quiet (fail)
      go_wp2_with fail;go_ret;exact⟨by rw[HD2.out];rfl,HZ.out _⟩
   ·obtain rfl:j=m.length:=by omega
    have HD2:Hid (decide (l=m)=true):=by
     show _=_;rw[HD.out,List.drop_length];have:=HE.out;rw[<-this,List.drop_length];rfl
    clear HD;go_wp2_with fail;go_ret;exact⟨by rw[HD2.out];rfl,hbz⟩
 ·have i0:((l.length:Int) == (m.length:Int))=false:=zB0 (by omega)
  have i1:¬(l.length:Int)=(m.length:Int):=by omega
  have HD:Hid (decide (l=m)=false):=decide_eq_false fun e=>hle (by rw[e])
  have i2:¬l.length=m.length:=hle;clear hle;go_wp2_with fail;go_ret;exact⟨by rw[HD.out];rfl,Below.refl _ _⟩
def Lx.xH(s:av)(d:Bool)(out rest:List av):List av:=match d with
 |true=>out++rest
 |false=>out++Lx.ins s rest
theorem Lx.Ya{s:av}:∀r:List av,(Lx.ins s r).length=r.length+1
 | []=>rfl
 |x::r=>by
  rw[Lx.ins]
  split
  ·rfl
  ·simp only[List.length_cons,Ya r]
theorem SR.le{B B':Nat}{w:World}{v:Value}{l:List av}(h:SR B w v l)(hb:B'<=B):SR B' w v l:=dm h hb
theorem ahp{B:Nat}{w:World}{v:Value}{l:List av}(hl:SR B w v l)(hB:B<=w.heap.size)(s:av)(hm:l.length<=1000000):Calls prog 71 #[v,.agg #[.int .i64 (s.1:Int),.int .i64 (s.2:Int)]] w fun e w'=>∃v',e=.returned v'/\SR B w' v' (oD l s)/\Below w.heap.size w w':=by
 obtain⟨a,c,rfl,-⟩:∃a c,v=.slice a l.length c/\l.length<=maxLen:=aF hl;obtain⟨k,d⟩:=s;simp only;obtain⟨W0,hW0⟩:∃W,W=w.alloc (.cells #[.int .i64 (k:Int),.int .i64 (d:Int)] 70):=⟨_,rfl⟩;have hb0:Below w.heap.size w W0:=by rw[hW0];exact(Below.refl _ _).alloc (zL0) _
 have AY:aj W0 w.heap.size #[.int .i64 (k:Int),.int .i64 (d:Int)] 70:=by rw[hW0];exact aj.new w _ 70
 have hs0:W0.heap.size=w.heap.size+1:=by rw[hW0];simp
 have s0:W0.cell? ⟨w.heap.size,0,none⟩=some (.int .i64 (k:Int)):=AY.cell 0;have s1:W0.cell? ⟨w.heap.size,1,none⟩=some (.int .i64 (d:Int)):=AY.cell 1;have q1:=YS (hl.below hb0) (k,d);simp only at q1;go_enter func71,ntmps71;go_upto_region 1 with fail
 rw[<-hW0];clear hW0
 by_cases hi:(k,d)∈l
 ·have hd:decide ((k,d)∈l)=true:=decide_eq_true hi
  rw[hd]at q1;have HW:Hid (oD l (k,d)=l):=if_pos hi;clear hi hd
  go_wp2_with (go_at_call 108;refine q1.mono ?_;rintro e w1⟨rfl,hb1⟩)
  go_ret;have hbw:=hb0.trans (hb1.mono (by omega));exact⟨_,rfl,by rw[HW.out];exact hl.below hbw,hbw⟩
 ·have hd:decide ((k,d)∈l)=false:=decide_eq_false hi
  rw[hd]at q1;have HW:Hid (oD l (k,d)=xH (k,d) false [] (l.drop 0)):=if_neg hi;clear hi hd
  go_wp2_with (go_at_call 108;refine q1.mono ?_;rintro e w1⟨rfl,hb1⟩;have hs1:=hb1.size;have fM:Below w.heap.size w w1:=hb0.trans (hb1.mono (by omega)))
  clear q1 s0 s1
  go_loopg [5,6,7] l.length (fun m v f i wr=>∃(j:Nat)(b:Bool)(o:List av),j+m=l.length/\i=.int .i64 (j:Int)/\f=.bool b/\SR w1.heap.size wr v o/\Below w1.heap.size w1 wr/\o.length<=2*j/\Hid (oD l (k,d)=xH (k,d) b o (l.drop j)))
  case atStart=>exact⟨0,false,[],by omega,rfl,rfl,World.ownsRow_nil _ _ _ _,Below.refl _ _,by simp,HW⟩
  case round=>
   clear HW;revert wr;intro wz hrel;obtain⟨j,b,o,hkj,rfl,rfl,hO,hbz,hol,HW⟩:=hrel;obtain⟨oa,oc,rfl,-⟩:∃a c,_=Value.slice a o.length c/\o.length<=maxLen:=aF hO;have hbw:Below w.heap.size w wz:=fM.trans (hbz.mono (by omega));have Qf:Below W0.heap.size W0 wz:=hb1.trans (hbz.mono (by omega));have IE:aj wz w.heap.size _ 70:=(Qf.block _ (by omega)).trans AY;have s0:wz.cell? ⟨w.heap.size,0,none⟩=some (.int .i64 (k:Int)):=IE.cell 0;have s1:wz.cell? ⟨w.heap.size,1,none⟩=some (.int .i64 (d:Int)):=IE.cell 1;have hsz:=hbz.size
   by_cases hlt:j<l.length
   ·obtain⟨g,cap,hv,lg,c0',c1'⟩:=hl.at hlt
    have c0:=jS hbw c0';have c1:=jS hbw c1';clear c0' c1';cases hv;have hd:=HW.out;rw[List.drop_eq_getElem_cons hlt]at hd;generalize l[j]=x at c0 c1 hd;obtain⟨xk,xd⟩:=x;simp only at c0 c1;have i1:(0:Int)<=(j:Int):=by omega
    have i2:(j:Int)<(l.length:Int):=by omega
    cases b with
    |true=>
     have HW2:Hid (oD l (k,d)=xH (k,d) true (o++[(xk,xd)]) (l.drop (j+1))):=by show _=_;rw[hd];simp[xH]
     clear hd HW;go_wp2_with fail
     go_quiet (fail)
     have hO5:SR w1.heap.size (wz.drewN nq) _ o:=hO.below (w':=wz.drewN nq) ⟨rfl,rfl,rfl,zL0,fun _ _=>rfl⟩;have hb5:Below w1.heap.size w1 (wz.drewN nq):=hbz.trans ⟨rfl,rfl,rfl,zL0,fun _ _=>rfl⟩
     go_wp2_with (at_builtin;go_loud (refine rY Tryz.zY Tryz.zD rfl (by decide) qi rfl _ _ rfl w1.heap.size (by simp;omega) _ o rfl (aJ.below hO5 ((Below.refl _ _).alloc (zL0) _)) (xk,xd) _ 1 rfl (bC (aj.new _ _ 70)) (by unfold maxLen;omega) (by omega) ?_;intro v8 w8 mh jR _ _))
     go_roundg (l.length - (j+1))
     case measure=>omega
     case rel=>exact⟨j+1,true,_,by omega,by go_num,rfl,mh,hb5.trans (((Below.refl _ _).alloc (by simp;omega) _).trans jR),by simp;omega,HW2⟩
    |false=>
     have q2:=ahn (w:=wz.drew) (k,d) (xk,xd);simp only at q2
     by_cases hs:dP (k,d) (xk,xd)
     ·have hdd:decide (dP (k,d) (xk,xd))=true:=decide_eq_true hs
      rw[hdd]at q2;have HW2:Hid (oD l (k,d)=xH (k,d) true ((o++[(k,d)])++[(xk,xd)]) (l.drop (j+1))):=by show _=_;rw[hd];simp[xH,Lx.ins,hs]
      clear hd HW hdd hs;go_wp2_with fail
      go_region_law (refine JS (by go_simp) 109 #[.agg #[.int .i64 (k:Int),.int .i64 (d:Int)],.agg #[.int .i64 (xk:Int),.int .i64 (xd:Int)]] (by go_simp) q2 ?_;rintro e w2⟨rfl,hb2⟩;refine⟨_,rfl,?_⟩)
      all_goals
       have hb6:Below wz.heap.size wz w2:=(Below.refl _ wz).drew.trans hb2;have hs6:=hb6.size;have Dh:SR w1.heap.size w2 _ o:=hO.below hb6;have t0:=jS hb6 s0;have t1:=jS hb6 s1;have e0:=jS hb6 c0;have e1:=jS hb6 c1;clear s0 s1 c0 c1;go_upto_region 10 with (at_builtin;go_loud (refine rY Tryz.zY Tryz.zD rfl (by decide) qi rfl _ _ rfl w1.heap.size (by simp;omega) _ o rfl (aJ.below Dh ((Below.refl _ _).alloc (zL0) _)) (k,d) _ 1 rfl (bC (aj.new _ _ 70)) (by unfold maxLen;omega) (by omega) ?_;intro v8 w8 mh jR qR Di))
       have Lm:Below w1.heap.size w2 w8:=((Below.refl _ _).alloc (by omega) _).trans jR;have m0:=(World.cell?_of_block (w:=w2) (Lm.block g (by omega))).trans e0;have m1:=(World.cell?_of_block (w:=w2) (Lm.block g (by omega))).trans e1;have hs8:=Lm.size;obtain⟨za,zc,hz,-⟩:=aF mh;subst hz;clear t0 t1 e0 e1 jR qR Di
       go_wp2_with (at_builtin;go_loud (refine rY Tryz.zY Tryz.zD rfl (by decide) qi rfl _ _ rfl w1.heap.size (by simp;omega) _ (o++[(k,d)]) rfl (aJ.below mh ((Below.refl _ _).alloc (zL0) _)) (xk,xd) _ 1 rfl (bC (aj.new _ _ 70)) (by unfold maxLen;simp;omega) (by simp;omega) ?_;intro v9 w9 II zh _ _))
       go_roundg (l.length - (j+1))
       case measure=>omega
       case rel=>exact⟨j+1,true,_,by omega,by go_num,rfl,II,hbz.trans ((hb6.mono (by omega)).trans (Lm.trans (((Below.refl _ _).alloc (by omega) _).trans zh))),by simp;omega,HW2⟩
     ·have hdd:decide (dP (k,d) (xk,xd))=false:=decide_eq_false hs
      rw[hdd]at q2;have HW2:Hid (oD l (k,d)=xH (k,d) false (o++[(xk,xd)]) (l.drop (j+1))):=by show _=_;rw[hd];simp[xH,Lx.ins,hs]
      clear hd HW hdd hs;go_wp2_with fail
      go_region_law (refine JS (by go_simp) 109 #[.agg #[.int .i64 (k:Int),.int .i64 (d:Int)],.agg #[.int .i64 (xk:Int),.int .i64 (xd:Int)]] (by go_simp) q2 ?_;rintro e w2⟨rfl,hb2⟩;refine⟨_,rfl,?_⟩)
      all_goals
       have hb6:Below wz.heap.size wz w2:=(Below.refl _ wz).drew.trans hb2;have hs6:=hb6.size;have Dh:SR w1.heap.size w2 _ o:=hO.below hb6;have e0:=jS hb6 c0;have e1:=jS hb6 c1;clear s0 s1 c0 c1
       go_wp2_with (at_builtin;go_loud (refine rY Tryz.zY Tryz.zD rfl (by decide) qi rfl _ _ rfl w1.heap.size (by simp;omega) _ o rfl (aJ.below Dh ((Below.refl _ _).alloc (zL0) _)) (xk,xd) _ 1 rfl (bC (aj.new _ _ 70)) (by unfold maxLen;omega) (by omega) ?_;intro v8 w8 mh jR _ _))
       go_roundg (l.length - (j+1))
       case measure=>omega
       case rel=>exact⟨j+1,false,_,by omega,by go_num,rfl,mh,hbz.trans ((hb6.mono (by omega)).trans (((Below.refl _ _).alloc (by omega) _).trans jR)),by simp;omega,HW2⟩
   ·obtain rfl:j=l.length:=by omega
    have hd:=HW.out;rw[List.drop_length]at hd;cases b with
    |true=>
     have HW2:Hid (oD l (k,d)=o):=by show _=_;rw[hd];simp[xH]
     clear hd HW;go_wp2_with fail;go_ret;exact⟨_,rfl,by rw[HW2.out];exact hO.le (by omega),hbw⟩
    |false=>
     have HW2:Hid (oD l (k,d)=o++[(k,d)]):=by show _=_;rw[hd];simp[xH,Lx.ins]
     clear hd HW
     go_wp2_with (at_builtin;go_loud (refine rY Tryz.zY Tryz.zD rfl (by decide) qi rfl _ _ rfl w1.heap.size (by simp;omega) _ o rfl (aJ.below hO ((Below.refl _ _).alloc (zL0) _)) (k,d) _ 1 rfl (bC (aj.new _ _ 70)) (by unfold maxLen;omega) (by omega) ?_;intro v8 w8 mh jR _ _))
     go_ret;exact⟨_,rfl,by rw[HW2.out];exact SR.le mh (by omega),hbw.trans (((Below.refl _ _).alloc (by omega) _).trans (jR.mono (by omega)))⟩
theorem qj.ajR{P:List Lx.Pd}{l r:List av}{i:Nat}(h:mZ P l i r):qj P l->qj P r:=by
 induction h with
 |done _=>exact id
 |step _ _ ih=>exact fun hl=>ih (hl.add _)
theorem qj.gM{P:List Lx.Pd}{K:List av}(h:qj P K):qj P (gM P K):=qj.ajR (KP P K) h
theorem ahq{P:List Lx.Pd}{K l r:List av}{i:Nat}(h:mZ P l i r):l9 P K l->l9 P K r:=by
 induction h with
 |done _=>exact id
 |step _ _ ih=>exact fun hl=>ih (hl.add _)
theorem Lx.Yb(P:List Lx.Pd)(K:List av):(gM P K).length<=K.length+P.length:=(ahq (KP P K) (l9.refl P K)).len
theorem Lx.Xo{P:List Lx.Pd}{n:Nat}{o:List av}{s:av}:(p9 P n o s).length<=o.length+1:=by
 unfold p9 oD
 split
 ·split
  ·omega
  ·rw[Ya];exact zL0
 ·omega
theorem ai3{P:List Lx.Pd}{s:av}{n:Nat}:(rQ P s == (n:Int))=decide (bE P s=some n):=by
 unfold rQ;cases h:bE P s with
 |none=>
  have:((-1:Int) == (n:Int))=false:=zB0 (by omega);simp[this]
 |some m=>
  by_cases e:m=n
  ·subst e;simp
  ·have:((m:Int) == (n:Int))=false:=zB0 (by omega)
   simp[this,e]
theorem aeI{w:World}{ta na ba ka:Option Addr}{nT tc nN nc nb bc nk kc:Nat}{vP vK:Value}{P:List Lx.Pd}{K:List av}{B0:Nat}(hP:PR (fun _=>True) w vP P)(hK:SR B0 w vK K)(hKo:qj P K)(hpm:P.length<=100000)(hkm:K.length<=100000)(n:Nat):Calls prog 30 #[.agg #[.slice ta nT tc,.slice na nN nc,vP,.slice ba nb bc,.slice ka nk kc],vK,.int .i64 (n:Int)] w (EC w (eU P K n)):=by
 obtain⟨pa,pc,rfl,-⟩:∃a c,vP=.slice a P.length c/\P.length<=maxLen:=by obtain⟨ps,h1,h2,-⟩:=hP;exact aF h2
 obtain⟨ka',kc',hvk,-⟩:=aF hK;subst hvk;obtain⟨W0,hW0⟩:∃W,W=w.alloc (.cells #[.slice ta nT tc,.slice na nN nc,.slice pa P.length pc,.slice ba nb bc,.slice ka nk kc] 54):=⟨_,rfl⟩;have hb0:Below w.heap.size w W0:=by rw[hW0];exact(Below.refl _ _).alloc (zL0) _
 have hs0:W0.heap.size=w.heap.size+1:=by rw[hW0];simp
 have rO:aj W0 w.heap.size #[.slice ta nT tc,.slice na nN nc,.slice pa P.length pc,.slice ba nb bc,.slice ka nk kc] 54:=by rw[hW0];exact aj.new w _ 54
 have b0:W0.cell? ⟨w.heap.size,0,none⟩=some (.slice ta nT tc):=rO.cell 0;have b1:W0.cell? ⟨w.heap.size,1,none⟩=some (.slice na nN nc):=rO.cell 1;have b2:W0.cell? ⟨w.heap.size,2,none⟩=some (.slice pa P.length pc):=rO.cell 2;have b3:W0.cell? ⟨w.heap.size,3,none⟩=some (.slice ba nb bc):=rO.cell 3;have b4:W0.cell? ⟨w.heap.size,4,none⟩=some (.slice ka nk kc):=rO.cell 4;have qc:=aeH (nT:=nT) (nN:=nN) (ta:=ta) (na:=na) (ba:=ba) (ka:=ka) (tc:=tc) (nc:=nc) (nb:=nb) (bc:=bc) (nk:=nk) (kc:=kc) (hP.yA hb0) (hK.below hb0) hKo hpm hkm;have hCo:=hKo.gM;have hCl:=Yb P K;have HF:Hid (eU P K n=((gM P K).drop 0).foldl (p9 P n) []):=rfl;generalize gM P K=C at qc hCo hCl HF;generalize eU P K n=R at HF|-;go_enter func30,ntmps30;go_upto_region 1 with fail
 rw[<-hW0];clear hW0
 go_wp2_with (go_at_call 69;refine qc.mono ?_;rintro e w1⟨v1,rfl,hC1,hb1⟩)
 have hs1:=hb1.size;obtain⟨ca,cc,hvc,-⟩:=aF hC1;subst hvc;have fM:Below w.heap.size w w1:=hb0.trans (hb1.mono (by omega));clear qc b0 b1 b2 b3 b4
 go_loopg [8,9] C.length (fun m v i wr=>∃(j:Nat)(o:List av),j+m=C.length/\i=.int .i64 (j:Int)/\SR w1.heap.size wr v o/\Below w1.heap.size w1 wr/\o.length<=j/\Hid (R=(C.drop j).foldl (p9 P n) o))
 case atStart=>exact⟨0,[],by omega,rfl,World.ownsRow_nil _ _ _ _,Below.refl _ _,by simp,HF⟩
 case round=>
  clear HF;revert wr;intro wz hrel;obtain⟨j,o,hkj,rfl,hO,hbz,hol,HF⟩:=hrel;obtain⟨oa,oc,rfl,-⟩:∃a c,_=Value.slice a o.length c/\o.length<=maxLen:=aF hO;have hsz:=hbz.size;have hbw:Below w.heap.size w wz:=fM.trans (hbz.mono (by omega));have Qf:Below W0.heap.size W0 wz:=hb1.trans (hbz.mono (by omega));have qP:aj wz w.heap.size _ 54:=(Qf.block _ (by omega)).trans rO
  by_cases hlt:j<C.length
  ·have hCz:SR W0.heap.size wz _ C:=hC1.below hbz
   obtain⟨g,cap,hv,lg,c0,c1⟩:=hCz.at hlt;cases hv;have hok:=hCo C[j] (List.getElem_mem hlt);have hd:=HF.out;rw[List.drop_eq_getElem_cons hlt,List.foldl_cons]at hd;have hfl:=Xo (P:=P) (n:=n) (o:=o) (s:=C[j]);have RF:=hP.yA hbw;generalize C[j]=sp at c0 c1 hok hd hfl;obtain⟨sk,sd⟩:=sp;simp only at c0 c1 hok;have i1:(0:Int)<=(j:Int):=by omega
   have i2:(j:Int)<(C.length:Int):=by omega
   have a0:wz.cell? ⟨w.heap.size,0,none⟩=some (.slice ta nT tc):=qP.cell 0;have a1:wz.cell? ⟨w.heap.size,1,none⟩=some (.slice na nN nc):=qP.cell 1;have a2:wz.cell? ⟨w.heap.size,2,none⟩=some (.slice pa P.length pc):=qP.cell 2;have a3:wz.cell? ⟨w.heap.size,3,none⟩=some (.slice ba nb bc):=qP.cell 3;have a4:wz.cell? ⟨w.heap.size,4,none⟩=some (.slice ka nk kc):=qP.cell 4;have q1:=Vr (nT:=nT) (nN:=nN) (ta:=ta) (na:=na) (ba:=ba) (ka:=ka) (tc:=tc) (nc:=nc) (nb:=nb) (bc:=bc) (nk:=nk) (kc:=kc) (RF.yA (w':=wz.drew) ⟨rfl,rfl,rfl,zL0,fun _ _=>rfl⟩) (sk,sd) hok.1 hok.2 hpm;simp only at q1;have hbe:=ai3 (P:=P) (s:=(sk,sd)) (n:=n)
   by_cases hbn:bE P (sk,sd)=some n
   ·have hfo:p9 P n o (sk,sd)=oD o (sk,sd+1):=if_pos hbn
    rw[hfo]at hd hfl;rw[decide_eq_true hbn]at hbe;have Qg:rQ P (sk,sd)=(n:Int):=by simpa using hbe
    rw[Qg]at q1;have zi:Hid (R=(C.drop (j+1)).foldl (p9 P n) (oD o (sk,sd+1))):=hd;clear hd HF hbn hbe Qg hfo;go_wp2_with fail
    go_region_law (refine jK rfl 70 #[.agg #[.slice ta nT tc,.slice na nN nc,.slice pa P.length pc,.slice ba nb bc,.slice ka nk kc],.agg #[.int .i64 (sk:Int),.int .i64 (sd:Int)]] (by go_simp) q1 ?_;rintro e w2⟨rfl,hb2⟩;refine⟨_,rfl,?_⟩)
    all_goals
     have hb6:Below wz.heap.size wz w2:=(Below.refl _ wz).drew.trans hb2;have hs6:=hb6.size;have Dh:SR w1.heap.size w2 _ o:=hO.below hb6;have yH:Below w1.heap.size w1 w2:=hbz.trans (hb6.mono hsz);have e0:=jS hb6 c0;have e1:=jS hb6 c1;have q2:Calls prog 71 #[.slice oa o.length oc,.agg #[.int .i64 (sk:Int),.int .i64 ((sd:Int)+1)]] w2.drew (fun e w'=>∃v',e=.returned v'/\SR w1.heap.size w' v' (oD o (sk,sd+1))/\Below w2.drew.heap.size w2.drew w'):=ahp (Dh.below (w':=w2.drew) ⟨rfl,rfl,rfl,zL0,fun _ _=>rfl⟩) (by simp;omega) (sk,sd+1) (by omega);have hwr:IntKind.i64.wrap ((sd:Int)+1)=(sd:Int)+1:=by rw[IntKind.wrap_i64];omega
     clear q1 a0 a1 a2 a3 a4 c0 c1;go_wp2_with fail
     go_region_law (refine jK rfl 71 #[.slice oa o.length oc,.agg #[.int .i64 (sk:Int),.int .i64 ((sd:Int)+1)]] (by go_simp) q2 ?_;rintro e w3⟨v3,rfl,hO3,hb3⟩;refine⟨_,rfl,?_⟩)
     all_goals
      go_wp2_with fail;go_roundg (C.length - (j+1))
      case measure=>omega
      case rel=>exact⟨j+1,_,by omega,by go_num,hO3,yH.trans ((Below.refl _ w2).drew.trans (hb3.mono (by simp;omega))),by omega,zi⟩
   ·have hfo:p9 P n o (sk,sd)=o:=if_neg hbn
    rw[hfo]at hd;rw[decide_eq_false hbn]at hbe;have Qg:¬rQ P (sk,sd)=(n:Int):=by simpa using hbe
    have zi:Hid (R=(C.drop (j+1)).foldl (p9 P n) o):=hd;clear hd HF hbn hfo hfl;go_wp2_with fail
    go_region_law (refine jK rfl 70 #[.agg #[.slice ta nT tc,.slice na nN nc,.slice pa P.length pc,.slice ba nb bc,.slice ka nk kc],.agg #[.int .i64 (sk:Int),.int .i64 (sd:Int)]] (by go_simp) q1 ?_;rintro e w2⟨rfl,hb2⟩;refine⟨_,rfl,?_⟩)
    all_goals
     have hb6:Below wz.heap.size wz w2:=(Below.refl _ wz).drew.trans hb2;have Dh:SR w1.heap.size w2 _ o:=hO.below hb6;have yH:Below w1.heap.size w1 w2:=hbz.trans (hb6.mono hsz);go_wp2_with fail;go_roundg (C.length - (j+1))
     case measure=>omega
     case rel=>exact⟨j+1,o,by omega,by go_num,Dh,yH,by omega,zi⟩
  ·obtain rfl:j=C.length:=by omega
   have HR:Hid (R=o):=by show _=_;rw[HF.out,List.drop_length];rfl
   clear HF;go_wp2_with fail;go_ret;exact EC.mk _ rfl (by rw[HR.out];exact hO.le (by omega)) hbw
end Go.Proofs.YtjaalkocdbkdeaaGreatDoor
