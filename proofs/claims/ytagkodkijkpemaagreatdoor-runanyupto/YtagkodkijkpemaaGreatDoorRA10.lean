import Derived.Test.YtagkodkijkpemaaGreatDoorRA09
import Derived.LaidEqlPtr
set_option maxHeartbeats 8000000
set_option maxRecDepth 1000000
namespace Go.Proofs.YtagkodkijkpemaaGreatDoor
open Lx Go.Proofs.Tryz
open Go.RowKit Tr
namespace Lx
def N9(l:List ByteArray)(b:ByteArray):Nat:=l.countP fun x=>decide (x=b)
def cntF(l:List ByteArray)(b:ByteArray):Int:=(N9 l b:Int)
theorem akP(l:List ByteArray)(b:ByteArray):N9 l b<=l.length:=List.countP_le_length
theorem ajl(l:List ByteArray)(b:ByteArray):(fun c=>if c=b then cntF l b+1 else cntF l c)=cntF (l++[b]):=by
 funext c;unfold cntF N9;rw[List.countP_append]
 by_cases h:c=b
 ·subst h;simp
 ·have:(fun x=>decide (x=c)) b=false:=by simpa using fun e=>h e.symm
  rw[if_neg h];simp[this]
theorem ZE{l:List ByteArray}{b:ByteArray}:cntF l b=0↔iI b l=false:=by
 unfold cntF N9 iI;rw[List.any_eq_false];constructor
 ·intro h x hx
  have h0:List.countP (fun x=>decide (x=b)) l=0:=by omega
  intro e;have hp:0<List.countP (fun x=>decide (x=b)) l:=List.countP_pos_iff.2 ⟨x,hx,e⟩;omega
 ·intro h
  have:List.countP (fun x=>decide (x=b)) l=0:=List.countP_eq_zero.2 fun x hx=>h x hx
  omega
theorem XD(w:Wd)(ws:List Wd):eZ (w::ws)=w.2.1::eZ ws:=rfl
end Lx
theorem afi{w:World}{v:Value}{ws:List Lx.Wd}(h:WR w v ws):
  Calls prog 77 #[v] w fun e w'=>e=.returned (.int .i64 (xM (oD (eZ (Lx.told ws)) ws)))/\Below w.heap.size w w':=by
 obtain⟨a,c,rfl,hm⟩:=h.len;unfold maxLen at hm;have hmm:=@run_makeMap prog;go_enter func77,ntmps77;go_wp2_with fail;clear hmm;obtain⟨W,hW⟩:∃W,W=w.alloc (.map #[] 0):=⟨_,rfl⟩;rw[<-hW];have hWs:W.heap.size=w.heap.size+1:=by rw[hW];simp
 have hB:Below w.heap.size w W:=by rw[hW];exact(Below.refl _ _).alloc (zL0) _
 have hM:SMap W w.heap.size (Lx.cntF []):=by rw[hW];exact dm.made _ w
 clear hW;have H0:Hid (eZ (Lx.told ws)=[]++eZ (Lx.told (ws.drop 0))):=rfl
 go_loopg [11] ws.length (fun k i wr=>∃(j:Nat)(s:List ByteArray),j+k=ws.length/\i=.int .i64 j/\Below w.heap.size w wr/\SMap wr w.heap.size (Lx.cntF s)/\s.length<=j/\Hid (eZ (Lx.told ws)=s++eZ (Lx.told (ws.drop j))))
 case atStart=>exact⟨0,[],by omega,rfl,hB,hM,zL0,H0⟩
 case round=>
  clear H0 hM;obtain⟨j,s,hk,rfl,hbr,hM,hsl,HD⟩:=hrel;have hsr:=hM.lt
  by_cases hlt:j<ws.length
  ·have hwr:WR wr _ ws:=h.below hbr
   obtain⟨g,cap,hv,lg,c0,c1,c2⟩:=hwr.at hlt;cases hv;have hd:=HD.out;rw[List.drop_eq_getElem_cons hlt]at hd;have lgw:g<w.heap.size:=(h.lt g rfl).2;generalize ws[j]=x at c0 c1 c2 hd;obtain⟨ro,tx,at_⟩:=x;obtain⟨W1,hW1⟩:∃W1,W1=wr.alloc (.cells #[.int .i64 (ro:Int),.string tx,.int .i64 (at_:Int)] 190):=⟨_,rfl⟩;have hb1:Below wr.heap.size wr W1:=by rw[hW1];exact(Below.refl _ _).alloc (zL0) _
   have hs1:W1.heap.size=wr.heap.size+1:=by rw[hW1];simp
   have hM1:SMap W1 w.heap.size (Lx.cntF s):=hM.move (hb1.block _ hsr);have dY:Below w.heap.size w W1:=hbr.trans (hb1.mono (by omega))
   by_cases hro:ro=0\/ro=1
   ·rw[ZC hro,XD]at hd
    have hl1:=hM1.look tx;have hcl:=akP s tx;obtain⟨w2,hu,hM2,hg2,hs2⟩:=hM1.put tx (Lx.cntF s tx+1);rw[ajl]at hM2;have hb2:Below w.heap.size w w2:=dY.grown hg2 (by omega) (fun k hk=>by cases hk;exact zL0);have HD2:Hid (eZ (Lx.told ws)=(s++[tx])++eZ (Lx.told (ws.drop (j+1)))):=by
     show _=_;rw[hd];simp
    have hsl2:(s++[tx]).length<=j+1:=by simp;omega
    rw[hW1]at hl1 hu;have hc0:0<=Lx.cntF s tx:=by unfold Lx.cntF;omega
    have hc1:Lx.cntF s tx+1<=9223372036854775807:=by unfold Lx.cntF;omega
    generalize Lx.cntF s tx=cn at hl1 hu hc0 hc1;clear hd HD hM1 hM hb1 hs1 hW1 hg2 hcl;rcases hro with hro|hro
    have hq0:((ro:Int) == 0)=true:=by simp[hro]
    clear hro
    rotate_left
    have hq0:((ro:Int) == 0)=false:=zB0 (by omega);have hq1:((ro:Int) == 1)=true:=by simp[hro]
    clear hro
    all_goals
     go_wp2_with fail;go_roundg (ws.length - (j+1))
     case measure=>omega
     case rel=>exact⟨j+1,s++[tx],by omega,by go_num,hb2,hM2,hsl2,HD2⟩
   ·rw[XC hro]at hd
    have HD2:Hid _:=hd;have hq0:((ro:Int) == 0)=false:=zB0 (by omega);have hq1:((ro:Int) == 1)=false:=zB0 (by omega);have hd0:¬(ro:Int)=0:=by omega
    have hd1:¬(ro:Int)=1:=by omega
    clear hd HD hro;go_wp2_with fail;rw[<-hW1];go_roundg (ws.length - (j+1))
    case measure=>omega
    case rel=>exact⟨j+1,s,by omega,by go_num,dY,hM1,by omega,HD2⟩
  ·have:j=ws.length:=by omega
   subst this;have hd:=HD.out;rw[List.drop_length]at hd;have HD2:Hid (eZ (Lx.told ws)=s):=by rw[show eZ (Lx.told [])=[] from rfl,List.append_nil]at hd;exact hd
   clear hd HD hk hsl;go_wp2_with fail;obtain⟨wz,hwz⟩:∃wz,wz=wr:=⟨_,rfl⟩;rw[<-hwz]at hbr hM hsr;rw[<-hwz];clear hwz;have H1:Hid (oD s ws=oD s (ws.drop 0)):=rfl
   go_loopg [31] ws.length (fun k i wr=>∃(j:Nat),j+k=ws.length/\i=.int .i64 j/\Below w.heap.size w wr/\SMap wr w.heap.size (Lx.cntF s)/\Hid (oD s ws=oD s (ws.drop j)))
   case atStart=>exact⟨0,by omega,rfl,hbr,hM,H1⟩
   case round=>
    clear H1 hM hbr;obtain⟨j,hk,rfl,hbr,hM,HD⟩:=hrel;have hsr:=hM.lt
    by_cases hlt:j<ws.length
    ·have hwr:WR wr _ ws:=h.below hbr
     obtain⟨g,cap,hv,lg,c0,c1,c2⟩:=hwr.at hlt;cases hv;have hd:=HD.out;rw[List.drop_eq_getElem_cons hlt]at hd;have lgw:g<w.heap.size:=(h.lt g rfl).2;generalize ws[j]=x at c0 c1 c2 hd;obtain⟨ro,tx,at_⟩:=x;obtain⟨W1,hW1⟩:∃W1,W1=wr.alloc (.cells #[.int .i64 (ro:Int),.string tx,.int .i64 (at_:Int)] 190):=⟨_,rfl⟩;have hb1:Below wr.heap.size wr W1:=by rw[hW1];exact(Below.refl _ _).alloc (zL0) _
     have hM1:SMap W1 w.heap.size (Lx.cntF s):=hM.move (hb1.block _ hsr);have dY:Below w.heap.size w W1:=hbr.trans (hb1.mono (by omega));have hl1:=hM1.look tx;rw[hW1]at hl1;rw[oD]at hd
     by_cases hro:ro=2\/ro=4
     ·have hz:(Lx.cntF s tx=0)\/(Lx.cntF s tx≠0):=Decidable.em _
      rcases hz with hz|hz
      ·have hmem:=ZE.1 hz
       rw[if_pos ⟨hro,hmem⟩]at hd;have DL:Hid (oD s ws=some at_):=hd;rw[hz]at hl1;clear hd HD hz hmem;rcases hro with hro|hro
       have hq0:((ro:Int) == 2)=true:=by simp[hro]
       clear hro
       rotate_left
       have hq0:((ro:Int) == 2)=false:=zB0 (by omega);have hq1:((ro:Int) == 4)=true:=by simp[hro]
       clear hro
       all_goals
        go_wp2_with fail;go_ret;exact⟨by rw[HD2.out,DL.out];rfl,by rw[<-hW1];exact dY⟩
      ·have hmem:¬iI tx s=false:=fun e=>hz (ZE.2 e)
       rw[if_neg (fun e=>hmem e.2)]at hd;have DL:Hid (oD s ws=oD s (ws.drop (j+1))):=hd;have hzb:(Lx.cntF s tx == 0)=false:=beq_eq_false_iff_ne.2 hz;clear hd HD hmem;generalize Lx.cntF s tx=cn at hl1 hz hzb;rcases hro with hro|hro
       have hq0:((ro:Int) == 2)=true:=by simp[hro]
       clear hro
       rotate_left
       have hq0:((ro:Int) == 2)=false:=zB0 (by omega);have hq1:((ro:Int) == 4)=true:=by simp[hro]
       clear hro
       all_goals
        go_wp2_with fail;rw[<-hW1];go_roundg (ws.length - (j+1))
        case measure=>omega
        case rel=>exact⟨j+1,by omega,by go_num,dY,hM1,DL⟩
     ·rw[if_neg (fun e=>hro e.1)]at hd
      have DL:Hid (oD s ws=oD s (ws.drop (j+1))):=hd;have hq0:((ro:Int) == 2)=false:=zB0 (by omega);have hq1:((ro:Int) == 4)=false:=zB0 (by omega);have hd0:¬(ro:Int)=2:=by omega
      have hd1:¬(ro:Int)=4:=by omega
      clear hd HD hro;go_wp2_with fail;rw[<-hW1];go_roundg (ws.length - (j+1))
      case measure=>omega
      case rel=>exact⟨j+1,by omega,by go_num,dY,hM1,DL⟩
    ·have:j=ws.length:=by omega
     subst this;have hd:=HD.out;rw[List.drop_length]at hd;have DL:Hid (oD s ws=none):=hd;clear hd HD;go_wp2_with fail;go_ret;exact⟨by rw[HD2.out,DL.out];rfl,hbr⟩
namespace Lx
def fl:List Bool->List Wd->Option Nat
 |_,[]=>none
 | [],w::ws=>if w.1=1 then none else fl [] ws
 |b::bs,w::ws=>if w.1=1 then (if b=true then fl bs ws else some w.2.2) else fl (b::bs) ws
def cnt1(ws:List Wd):Nat:=ws.countP fun w=>decide (w.1=1)
theorem abh{bs:List Bool}{w:Wd}{ws:List Wd}(h:w.1≠1):fl bs (w::ws)=fl bs ws:=by
 cases bs with
 |nil=>rw[fl,if_neg h]
 |cons b bs=>rw[fl,if_neg h]
theorem abj{b:Bool}{bs:List Bool}{w:Wd}{ws:List Wd}(h:w.1=1):fl (b::bs) (w::ws)=if b=true then fl bs ws else some w.2.2:=by rw[fl,if_pos h]
theorem Sc:∀(ws:List Wd)(bs:List Bool),(∀w∈ws,w.1≠1)->∀us,fl bs (ws++us)=fl bs us
 | [],_,_,_=>rfl
 |w::ws,bs,h,us=>by
  rw[List.cons_append,abh (h w List.mem_cons_self)];exact Sc ws bs (fun x hx=>h x (List.mem_cons_of_mem _ hx)) us
theorem aaw:∀(rs:List Rl)(bs:List Bool),rs.length<=bs.length->fl bs (rs.flatMap fun r=>(1,r.name,r.place)::eY 9 r.alts)=qO rs bs
 | [],bs,_=>by cases bs <;> rfl
 |r::rs,[],h=>by simp at h
 |r::rs,b::bs,h=>by
  rw[List.flatMap_cons,List.cons_append,abj rfl,qO]
  split
  ·rw[Sc _ _ (fun w hw=>by rcases Mf 9 _ w hw with h | h | h <;> omega)]
   exact aaw rs bs (by simpa using h)
  ·rfl
theorem abk(g:Gr)(bs:List Bool)(h:g.rules.length<=bs.length):fl bs (iG g)=qO g.rules bs:=by
 unfold iG;rw[Sc _ _ (fun w hw=>?_),aaw _ _ h];obtain⟨lv,-,hw⟩:=List.mem_flatMap.1 hw;obtain⟨t,-,rfl⟩:=List.mem_map.1 hw;show (0:Nat)≠1;decide
theorem YQ:∀(rs:List Rl),cnt1 (rs.flatMap fun r=>(1,r.name,r.place)::eY 9 r.alts)=rs.length
 | []=>rfl
 |r::rs=>by
  have h0:cnt1 (eY 9 r.alts)=0:=List.countP_eq_zero.2 fun w hw=>by
   rcases Mf 9 _ w hw with h|h|h <;> simp[h]
  have ih:=YQ rs;unfold cnt1 at h0 ih|-;rw[List.flatMap_cons,List.countP_append,ih,List.countP_cons,h0,List.length_cons];simp;omega
theorem ZF(g:Gr):cnt1 (iG g)=g.rules.length:=by
 have h0:cnt1 (g.levels.flatMap fun lv=>lv.tokens.map fun t=>(0,t.1,t.2))=0:=List.countP_eq_zero.2 fun w hw=>by
  obtain⟨lv,-,hw⟩:=List.mem_flatMap.1 hw;obtain⟨t,-,rfl⟩:=List.mem_map.1 hw;simp
 have h1:=YQ g.rules;unfold iG;unfold cnt1 at h0 h1|-;rw[List.countP_append,h0,h1,Nat.zero_add]
end Lx
theorem Xc{w:World}{v:Value}{ws:List Lx.Wd}(h:WR w v ws){o:Nat}{bs:List Bool}{n:Nat}(hB:aj w o (bE bs) 4)(hn:bs.length=n)(hc:Lx.cnt1 ws<=n):
  Calls prog 79 #[.slice (some ⟨o,0,none⟩) n n,v] w fun e w'=>e=.returned (.int .i64 (xM (Lx.fl bs ws)))/\Below w.heap.size w w':=by
 obtain⟨a,c,rfl,hm⟩:=h.len;unfold maxLen at hm;have HN:Hid (bs.length=n):=hn;clear hn;have hcl:Lx.cnt1 ws<=ws.length:=List.countP_le_length;go_enter func79,ntmps79;go_wp2_with fail;have H0:Hid (Lx.fl bs ws=Lx.fl (bs.drop 0) (ws.drop 0)):=rfl;have hc0:0+Lx.cnt1 (ws.drop 0)<=n:=by rw[List.drop_zero,Nat.zero_add];exact hc
 go_loopg [5,10] ws.length (fun k rv i wr=>∃(j r:Nat),j+k=ws.length/\i=.int .i64 j/\rv=.int .i64 r/\Below w.heap.size w wr/\r+Lx.cnt1 (ws.drop j)<=n/\r<=j/\Hid (Lx.fl bs ws=Lx.fl (bs.drop r) (ws.drop j)))
 case atStart=>exact⟨0,0,by omega,rfl,rfl,Below.refl _ _,hc0,zL0,H0⟩
 case round=>
  clear H0 hc0;obtain⟨j,r,hk,rfl,rfl,hbr,hcr,Gl,HD⟩:=hrel;have hsr:=hbr.size
  by_cases hlt:j<ws.length
  ·have hwr:WR wr _ ws:=h.below hbr
   obtain⟨g,cap,hv,lg,c0,c1,c2⟩:=hwr.at hlt;cases hv;have hd:=HD.out;rw[List.drop_eq_getElem_cons hlt]at hd hcr;generalize ws[j]=x at c0 c1 c2 hd hcr;obtain⟨ro,tx,at_⟩:=x;have hb1:Below wr.heap.size wr (wr.alloc (.cells #[.int .i64 (ro:Int),.string tx,.int .i64 (at_:Int)] 190)):=(Below.refl _ _).alloc (zL0) _;have dY:=hbr.trans (hb1.mono hsr)
   by_cases hro:ro=1
   ·have adx:r+(Lx.cnt1 (ws.drop (j+1))+1)<=n:=by unfold Lx.cnt1 at hcr|-;rw[List.countP_cons]at hcr;simpa [hro]using hcr
    have hrl:r<bs.length:=by have:=HN.out;omega
    have o1:wr.cell? ⟨o,r,none⟩=some (.bool (aJ bs r)):=(World.cell?_of_block (w:=w) (hbr.block o hB.lt)).trans ((hB.cell r).trans (qM bs hrl));have eb:aJ bs r=bs[r]:=by simp[aJ,hrl]
    rw[List.drop_eq_getElem_cons hrl,abj hro,<-eb]at hd;have hq:((ro:Int) != 1)=false:=by simp[hro]
    have lo:=hB.lt;have lor:o<wr.heap.size:=by omega
    have hrn:r<n:=by omega
    clear hro hcr hrl eb HD;cases hb:aJ bs r with
    |true=>
     rw[hb,if_pos rfl]at hd;rw[hb]at o1;have HD2:Hid _:=hd;clear hd hb;go_wp2_with fail;go_roundg (ws.length - (j+1))
     case measure=>omega
     case rel=>exact⟨j+1,r+1,by omega,by go_num,by go_num,dY,by omega,by omega,HD2⟩
    |false=>
     rw[hb,if_neg (by decide)]at hd;rw[hb]at o1;have HD2:Hid (Lx.fl bs ws=some at_):=hd;clear hd hb;go_wp2_with fail;go_ret;exact⟨by rw[HD2.out];rfl,dY⟩
   ·rw[abh hro]at hd
    have adx:r+Lx.cnt1 (ws.drop (j+1))<=n:=by unfold Lx.cnt1 at hcr|-;rw[List.countP_cons]at hcr;simpa [hro]using hcr
    have hq:((ro:Int) != 1)=true:=bne_iff_ne.2 (by omega);have hqd:¬(ro:Int)=1:=by omega
    have HD2:Hid _:=hd;clear hd HD hro hcr;go_wp2_with fail;go_roundg (ws.length - (j+1))
    case measure=>omega
    case rel=>exact⟨j+1,r,by omega,by go_num,rfl,dY,adx,by omega,HD2⟩
  ·have:j=ws.length:=by omega
   subst this;have hd:=HD.out;rw[List.drop_length]at hd;have HD2:Hid (Lx.fl bs ws=none):=by rw[hd];cases bs.drop r <;> rfl
   clear hd HD;go_wp2_with fail;go_ret;exact⟨by rw[HD2.out];rfl,hbr⟩
structure lN(F:Nat->Prop)(w:World)(vR:Value)(rs:List Lx.Rl):Prop where
 lt:∀b,F b->b<w.heap.size
 rl:Tr.Seq F w 254 2 cR (fun va r=>aM YP 9 F w va r.alts) vR rs
theorem lN.move{F:Nat->Prop}{w w':World}{vR:Value}{rs:List Lx.Rl}(h:lN F w vR rs)(hs:∀b,F b->w'.heap[b]?=w.heap[b]?)(hl:w.heap.size<=w'.heap.size):lN F w' vR rs :=
 ⟨fun b hb=>Nat.lt_of_lt_of_le (h.lt b hb) hl,Seq.move h.rl hs (fun _ h=>h) fun _ _ ha=>aM.move hs (fun _ h=>h) ha⟩
theorem lN.below{F:Nat->Prop}{w w':World}{vR:Value}{rs:List Lx.Rl}(h:lN F w vR rs)(hb:Below w.heap.size w w'):lN F w' vR rs:=h.move (fun b hF=>hb.block b (h.lt b hF)) hb.size
theorem lN.len{F:Nat->Prop}{w:World}{vR:Value}{rs:List Lx.Rl}(h:lN F w vR rs):∃a c,vR=.slice a rs.length c/\rs.length<=maxLen:=Seq.len h.rl
theorem lN.at{F:Nat->Prop}{w:World}{vR:Value}{rs:List Lx.Rl}(h:lN F w vR rs){j:Nat}(hj:j<rs.length):∃b cap va,vR=.slice (some ⟨b,0,none⟩) rs.length cap/\F b/\aM YP 9 F w va rs[j].alts/\w.cell? ⟨b,j*2,none⟩=some (.string rs[j].name)/\w.cell? ⟨b,j*2+1,none⟩=some va:=by
 obtain⟨b,cap,va,h1,h2,h3,h4⟩:=Seq.at h.rl (fun _=>rfl) hj;exact⟨b,cap,va,h1,h2,h3,h4 0 (by decide),h4 1 (by decide)⟩
theorem afj{F:Nat->Prop}{w:World}{vR:Value}{rs:List Lx.Rl}(h:lN F w vR rs):
  Calls prog 78 #[vR] w fun e w'=>∃B f,e=.returned (.map (some B))/\w.heap.size<=B/\SMap w' B f/\(∀i(hi:i<rs.length),(∀k(hk:k<rs.length),i<k->rs[k].name≠rs[i].name)->f rs[i].name=(i:Int))/\Below w.heap.size w w':=by
 obtain⟨a,c,rfl,hm⟩:=h.len;unfold maxLen at hm;have hmm:=@run_makeMap prog;go_enter func78,ntmps78;go_wp2_with fail;clear hmm;obtain⟨W,hW⟩:∃W,W=w.alloc (.map #[] 0):=⟨_,rfl⟩;rw[<-hW];have hWs:W.heap.size=w.heap.size+1:=by rw[hW];simp
 have hB:Below w.heap.size w W:=by rw[hW];exact(Below.refl _ _).alloc (zL0) _
 have hM:SMap W w.heap.size (fun _=>0):=by rw[hW];exact dm.made _ w
 clear hW
 go_loopg [9] rs.length (fun k i wr=>∃(j:Nat)(f:ByteArray->Int),j+k=rs.length/\i=.int .i64 j/\Below w.heap.size w wr/\SMap wr w.heap.size f/\Hid (∀i(hi:i<rs.length),i<j->(∀k(hk:k<rs.length),i<k->k<j->rs[k].name≠rs[i].name)->f rs[i].name=(i:Int)))
 case atStart=>exact⟨0,_,by omega,rfl,hB,hM,fun i hi h=>by omega⟩
 case round=>
  clear hM;obtain⟨j,f,hk,rfl,hbr,hM,HF⟩:=hrel;have hsr:=hM.lt
  by_cases hlt:j<rs.length
  ·obtain⟨gb,cap,va,hv,hFg,-,c0,c1⟩:=(h.below hbr).at hlt
   cases hv;obtain⟨nm,hnm⟩:∃nm,nm=rs[j].name:=⟨_,rfl⟩;rw[<-hnm]at c0;obtain⟨W1,hW1⟩:∃W1,W1=wr.alloc (.cells #[.string nm,va] 254):=⟨_,rfl⟩;have hb1:Below wr.heap.size wr W1:=by rw[hW1];exact(Below.refl _ _).alloc (zL0) _
   have hM1:SMap W1 w.heap.size f:=hM.move (hb1.block _ hsr);have hs1:W1.heap.size=wr.heap.size+1:=by rw[hW1];simp
   obtain⟨w2,hu,hM2,hg2,hs2⟩:=hM1.put nm (j:Int);have hb2:Below w.heap.size w w2:=(hbr.trans (hb1.mono (by omega))).grown hg2 (by omega) (fun k hk=>by cases hk;exact zL0);have zi:Hid (∀i(hi:i<rs.length),i<j+1->(∀k(hk:k<rs.length),i<k->k<j+1->rs[k].name≠rs[i].name)->(fun c=>if c=nm then (j:Int) else f c) rs[i].name=(i:Int)):=by
    intro i hi hij hu
    by_cases he:i=j
    ·subst he;simp[hnm]
    ·have hne:rs[i].name≠nm:=fun e=>hu j hlt (by omega) (by omega) (by rw[<-hnm,e])
     simp only[if_neg hne];exact HF.out i hi (by omega) fun k hk h1 h2=>hu k hk h1 (by omega)
   rw[hW1]at hu;obtain⟨sa,k',sc,hva⟩:∃a k c,va=.slice a k c:=by
    obtain⟨_,_,Co,hv',_,hA',_,hc'⟩:=(h.below hbr).at hlt;cases hv';rw[c1]at hc';cases hc';exact aM.form hA'
   subst hva;clear hnm HF hM1 hM;go_wp2_with fail;go_roundg (rs.length - (j+1))
   case measure=>omega
   case rel=>exact⟨j+1,_,by omega,by go_num,hb2,hM2,zi⟩
  ·have:j=rs.length:=by omega
   subst this;go_wp2_with fail;go_ret;exact⟨_,f,rfl,zL0,hM,fun i hi hu=>HF.out i hi hi fun k hk h1 _=>hu k hk h1,hbr⟩
namespace Lx
def tF(x:It):Prop:=(x.kind=0/\isName x.name=true/\x.alts=[])\/(x.kind=1/\isToken x.name=true/\x.alts=[])\/x.kind=2
def DN(a:Alt):Prop:=a.2.1=aT\/isToken a.2.1=true
def FQ(d:Nat)(aF:List Tk->aR (List Alt)):Prop:=∀ts l ts',aF ts=.ok (l,ts')->(∀x∈dh d l,tF x)
theorem ajm{d:Nat}{aF:List Tk->aR (List Alt)}(hg:FQ d aF){ts ts':List Tk}{x:It}(h:iB aF ts=.ok (x,ts')):∀y∈xg d x,tF y:=by
 unfold iB at h
 split at h
 ·split at h
  ·cases h
  ·rename_i alts aG hq
   cases h;intro y hy;rcases List.mem_cons.1 hy with rfl|hy
   ·exact .inr (.inr rfl)
   ·exact hg _ _ _ hq y hy
 ·split at h
  ·rename_i hn
   cases h;intro y hy;rcases List.mem_cons.1 hy with rfl|hy
   ·exact .inl ⟨rfl,hn,rfl⟩
   ·rw[MP]at hy;cases hy
  ·split at h
   ·rename_i hn
    cases h;intro y hy;rcases List.mem_cons.1 hy with rfl|hy
    ·exact .inr (.inl ⟨rfl,hn,rfl⟩)
    ·rw[MP]at hy;cases hy
   ·cases h
theorem ZG{d:Nat}{aF:List Tk->aR (List Alt)}(hg:FQ d aF):∀(f:Nat)(ts:List Tk)(a x:List It)(ts':List Tk),jr aF f ts a=.ok (x,ts')->(∀y∈qV d a,tF y)->∀y∈qV d x,tF y
 |0,ts,a,x,ts',h,ha=>by cases h;exact ha
 |f+1,ts,a,x,ts',h,ha=>by
  unfold jr at h
  split at h
  ·split at h
   ·cases h
   ·rename_i z t1 hz
    refine ZG hg f t1 _ x ts' h fun y hy=>?_
    unfold qV at hy;rw[List.flatMap_append]at hy;rcases List.mem_append.1 hy with hy|hy
    ·exact ha y hy
    ·rw[List.flatMap_cons,List.flatMap_nil,List.append_nil]at hy
     exact ajm hg hz y hy
  ·cases h;exact ha
theorem abl{d:Nat}{aF:List Tk->aR (List Alt)}(hg:FQ d aF){top:Bool}{ts ts':List Tk}{x:Alt}(h:iH aF top ts=.ok (x,ts')):(∀y∈qV d x.1,tF y)/\DN x:=by
 unfold iH at h
 split at h
 ·cases h
 ·rename_i its t1 hi
  have h1:=ZG hg _ _ _ _ _ hi (fun y hy=>by cases hy);unfold qz at h
  split at h
  ·split at h
   ·cases h
   ·rename_i b t2 hb
    cases h;obtain⟨rfl,rfl,hk⟩:=oC hb;exact⟨h1,.inr hk⟩
  ·cases h
   exact⟨h1,.inl rfl⟩
theorem aax{d:Nat}{aF:List Tk->aR (List Alt)}(hg:FQ d aF){top:Bool}:∀(f:Nat)(ts:List Tk)(a x:List Alt)(ts':List Tk),lW aF top f ts a=.ok (x,ts')->((∀y∈dh (d+1) a,tF y)/\∀y∈a,DN y)->(∀y∈dh (d+1) x,tF y)/\∀y∈x,DN y
 |0,ts,a,x,ts',h,ha=>by cases h;exact ha
 |f+1,ts,a,x,ts',h,ha=>by
  unfold lW at h
  split at h
  ·split at h
   ·cases h
   ·rename_i z t1 hz
    have hz2:=abl hg hz;refine aax hg f t1 _ x ts' h ⟨fun y hy=>?_,fun y hy=>?_⟩
    ·rw[wH,List.flatMap_append]at hy
     rcases List.mem_append.1 hy with hy|hy
     ·exact ha.1 y hy
     ·rw[List.flatMap_cons,List.flatMap_nil,List.append_nil]at hy
      exact hz2.1 y hy
    ·rcases List.mem_append.1 hy with hy | hy
     ·exact ha.2 y hy
     ·rw[List.mem_singleton.1 hy];exact hz2.2
  ·cases h;exact ha
theorem YR{d:Nat}{aF:List Tk->aR (List Alt)}(hg:FQ d aF){top:Bool}{ts ts':List Tk}{x:List Alt}(h:qo aF top ts=.ok (x,ts')):(∀y∈dh (d+1) x,tF y)/\∀y∈x,DN y:=by
 unfold qo at h
 split at h
 ·cases h
 ·rename_i z t1 hz
  have hz2:=abl hg hz;refine aax hg _ _ _ _ _ h ⟨fun y hy=>?_,fun y hy=>?_⟩
  ·rw[wH,List.flatMap_cons,List.flatMap_nil,List.append_nil]at hy
   exact hz2.1 y hy
  ·rw[List.mem_singleton.1 hy];exact hz2.2
theorem ahU{d:Nat}{r:List Tk->aR (List Alt)}(hr:∀ts l ts',r ts=.ok (l,ts')->(∀y∈dh d l,tF y)/\∀y∈l,DN y):FQ d (qw r):=by
 intro ts l ts' h;unfold qw at h
 split at h
 ·cases h
 ·rename_i l1 t1 h1
  split at h
  ·cases h
  ·cases h
   exact(hr _ _ _ h1).1
theorem aay:∀(d:Nat)(ts:List Tk)(l:List Alt)(ts':List Tk),nu d ts=.ok (l,ts')->(∀y∈dh (d+1) l,tF y)/\∀y∈l,DN y
 |0,ts,l,ts',h=>YR (d:=0) (fun _ _ _ h=>by cases h) h
 |d+1,ts,l,ts',h=>YR (ahU (aay d)) h
def JH(r:Rl):Prop:=isName r.name=true/\(∀y∈dh 9 r.alts,tF y)/\∀y∈r.alts,DN y
theorem aaz{ts ts':List Tk}{x:Rl}(h:iC ts=.ok (x,ts')):JH x:=by
 unfold iC at h
 split at h
 ·cases h
 ·rename_i n t1 h1
  obtain⟨rfl,rfl,hk⟩:=oC h1
  split at h
  ·cases h
  ·split at h
   ·cases h
   ·rename_i l t3 h3
    split at h
    ·cases h
    ·cases h
     exact⟨hk,aay 8 _ _ _ h3⟩
theorem ZH:∀(f:Nat)(ts:List Tk)(a x:List Rl)(ts':List Tk),jv f ts a=.ok (x,ts')->(∀r∈a,JH r)->∀r∈x,JH r
 |0,ts,a,x,ts',h,ha=>by cases h;exact ha
 |f+1,ts,a,x,ts',h,ha=>by
  unfold jv at h
  split at h
  ·cases h;exact ha
  ·split at h
   ·cases h
   ·rename_i z t1 hz
    refine ZH f t1 _ x ts' h fun r hr=>?_
    rcases List.mem_append.1 hr with hr|hr
    ·exact ha r hr
    ·rw[List.mem_singleton.1 hr];exact aaz hz
theorem YS:∀(f:Nat)(ts a x:List Tk)(ts':List Tk),jF f ts a=.ok (x,ts')->(∀t∈a,isToken t.1=true)->∀t∈x,isToken t.1=true
 |0,ts,a,x,ts',h,ha=>by cases h;exact ha
 |f+1,ts,a,x,ts',h,ha=>by
  unfold jF at h
  split at h
  ·cases h;exact ha
  ·split at h
   ·cases h
   ·rename_i b t1 h1
    obtain⟨rfl,rfl,hk⟩:=oC h1;refine YS f _ _ _ _ h fun t ht=>?_
    rcases List.mem_append.1 ht with ht|ht
    ·exact ha t ht
    ·rw[List.mem_singleton.1 ht];exact hk
def Oa(l:Lv):Prop:=∀t∈l.tokens,isToken t.1=true
theorem YT:∀(f:Nat)(ts:List Tk)(a x:List Lv)(ts':List Tk),kZ f ts a=.ok (x,ts')->(∀l∈a,Oa l)->∀l∈x,Oa l
 |0,ts,a,x,ts',h,ha=>by cases h;exact ha
 |f+1,ts,a,x,ts',h,ha=>by
  unfold kZ at h
  split at h
  ·split at h
   ·cases h
   ·rename_i z t1 hz
    refine YT f t1 _ x ts' h fun l hl=>?_
    rcases List.mem_append.1 hl with hl|hl
    ·exact ha l hl
    ·rw[List.mem_singleton.1 hl]
     unfold lu at hz
     split at hz
     ·cases hz
     ·rename_i b t2 hb
      obtain⟨rfl,rfl,hw⟩:=oC hb
      split at hz
      ·cases hz
      ·rename_i l t3 h3
       cases hz;exact YS _ _ _ _ _ h3 fun t ht=>by rw[List.mem_singleton.1 ht];exact hw
  ·cases h;exact ha
theorem Fb{s:ByteArray}{g:Gr}(h:parse s=.ok g):(∀l∈g.levels,Oa l)/\(∀r∈g.rules,JH r)/\0<g.rules.length:=by
 unfold parse at h
 split at h
 ·cases h
 ·split at h
  ·cases h
  ·rename_i g' ts' hp
   cases h;unfold jq at hp
   split at hp
   ·cases hp
   ·rename_i lv t1 h1
    split at hp
    ·cases hp
    ·rename_i x t2 h2
     split at hp
     ·cases hp
     ·rename_i l t3 h3
      cases hp;refine⟨YT _ _ _ _ _ h1 (fun _ h=>by cases h),ZH _ _ _ _ _ h3 (fun r hr=>by rw[List.mem_singleton.1 hr];exact aaz h2),?_⟩;obtain⟨y,e,-⟩:=QB _ _ _ _ _ h3;show 0<l.length;rw[e];simp
def Dp:Nat->List Alt->Prop
 |0,l=>l=[]
 |d+1,l=>∀a∈l,∀x∈a.1,Dp d x.alts
theorem Fe{d:Nat}{l:List Alt}{y:It}:y∈dh (d+1) l↔∃a∈l,∃x∈a.1,y=x\/y∈dh d x.alts:=by
 rw[wH,List.mem_flatMap];constructor
 ·rintro⟨a,ha,hy⟩
  obtain⟨x,hx,hy⟩:=List.mem_flatMap.1 hy;exact⟨a,ha,x,hx,List.mem_cons.1 hy⟩
 ·rintro⟨a,ha,x,hx,hy⟩
  exact⟨a,ha,List.mem_flatMap.2 ⟨x,hx,List.mem_cons.2 hy⟩⟩
theorem Sd:∀{d:Nat}{l:List Alt},Dp d l->∀{x:It},x∈dh d l->∀{a:Alt},a∈x.alts->∀{y:It},y∈a.1->y∈dh d l
 |0,l,h,x,hx,a,ha,y,hy=>by cases hx
 |d+1,l,h,x,hx,a,ha,y,hy=>by
  obtain⟨b,hb,z,hz,hx⟩:=Fe.1 hx;refine Fe.2 ⟨b,hb,z,hz,.inr ?_⟩;have hD:=h b hb z hz;rcases hx with rfl|hx
  ·cases d with
   |zero=>rw[show x.alts=[] from hD]at ha;cases ha
   |succ d=>exact Fe.2 ⟨a,ha,y,hy,.inl rfl⟩
  ·exact Sd hD hx ha hy
theorem IZ{α:Type}(f:α->Nat):∀{l:List α}{a:α},a∈l->f a<=(l.map f).sum
 |b::l,a,h=>by
  rw[List.map_cons,List.sum_cons];rcases List.mem_cons.1 h with rfl|h
  ·omega
  ·have:=IZ f h;omega
theorem Fx{α:Type}(f:α->Nat):∀{l:List α},(∀a∈l,1<=f a)->l.length<=(l.map f).sum
 | [],_=>zL0
 |b::l,h=>by
  rw[List.map_cons,List.sum_cons,List.length_cons];have:=h b List.mem_cons_self;have:=Fx f (l:=l) fun a ha=>h a (List.mem_cons_of_mem _ ha)
  omega
theorem ZI:∀{d:Nat}{l:List Alt},Dp d l->l.length<=iO d l/\∀a∈l,a.1.length<=iO d l
 |0,l,h=>by rw[show l=[] from h];exact⟨zL0,fun _ h=>by cases h⟩
 |d+1,l,h=>by
  rw[Dg];refine⟨Fx _ fun a _=>by omega,fun a ha=>?_⟩;have h1:1+tq d a.1<=_:=IZ (fun a:Alt=>1+tq d a.1) ha;have h2:a.1.length<=tq d a.1:=Fx _ fun x _=>by unfold Dw;omega
  omega
theorem aaA:∀{d:Nat}{l:List Alt},Dp d l->∀{x:It},x∈dh d l->x.alts.length<=iO d l/\∀a∈x.alts,a.1.length<=iO d l
 |0,l,h,x,hx=>by cases hx
 |d+1,l,h,x,hx=>by
  obtain⟨b,hb,z,hz,hx⟩:=Fe.1 hx;have hD:=h b hb z hz;have hs:iO d z.alts<=iO (d+1) l:=by
   rw[Dg];have h1:1+tq d b.1<=_:=IZ (fun a:Alt=>1+tq d a.1) hb;have h2:1+iO d z.alts<=tq d b.1:=IZ (Dw d) hz;omega
  have h4:x.alts.length<=iO d z.alts/\∀a∈x.alts,a.1.length<=iO d z.alts:=by
   rcases hx with rfl|hx
   ·exact ZI hD
   ·exact aaA hD hx
  exact⟨by omega,fun a ha=>by have:=h4.2 a ha;omega⟩
end Lx
theorem Rf{Y:Tr.Lay}{F:Nat->Prop}{w:World}:∀{d:Nat}{v:Value}{l:List Lx.Alt},Tr.aM Y d F w v l->Lx.Dp d l
 |0,_,_,h=>h.2
 |d+1,v,l,h=>by
  obtain⟨ps,h1,-,-,h4⟩:=h;intro a ha x hx;rw[<-h1]at ha;obtain⟨q,hq,rfl⟩:=List.mem_map.1 ha;obtain⟨qs,k1,-,-,k4⟩:=h4 q hq;rw[<-k1]at hx;obtain⟨p,hp,rfl⟩:=List.mem_map.1 hx;exact Rf (k4 p hp)
def aQ:Value->Nat
 | .slice (some a) _ _=>a.block
 |_=>0
def cv(w:World)(a:Addr):Value:=(w.cell? a).getD (.slice none 0 0)
abbrev AI:=Addr×Lx.It
def eF(sub:Value->List Lx.Alt->List AI)(w:World)(g:Nat):Nat->List Lx.It->List AI
 |_,[]=>[]
 |i,x::xs=>((⟨g,i*4,none⟩:Addr),x)::(sub (cv w ⟨g,i*4+3,none⟩) x.alts++eF sub w g (i+1) xs)
def dP(sub:Value->List Lx.Alt->List AI)(w:World)(g:Nat):Nat->List Lx.Alt->List AI
 |_,[]=>[]
 |j,a::l=>eF sub w (aQ (cv w ⟨g,j*2,none⟩)) 0 a.1++dP sub w g (j+1) l
def aK:Nat->World->Value->List Lx.Alt->List AI
 |0,_,_,_=>[]
 |d+1,w,v,l=>dP (aK d w) w (aQ v) 0 l
theorem X6{sub:Value->List Lx.Alt->List AI}{w:World}{g d:Nat}:∀(its:List Lx.It)(i:Nat),(∀k x,its[k]?=some x->(sub (cv w ⟨g,(i+k)*4+3,none⟩) x.alts).map Prod.snd=dh d x.alts)->(eF sub w g i its).map Prod.snd=qV d its
 | [],_,_=>rfl
 |x::xs,i,h=>by
  have h0:=h 0 x rfl;have h1:=X6 (sub:=sub) (w:=w) (g:=g) (d:=d) xs (i+1) fun k y hy=>by
   have:=h (k+1) y (by simpa using hy);rw[show i+(k+1)=i+1+k by omega]at this;exact this
  rw[eF,List.map_cons,List.map_append,h1];simp only[Nat.add_zero]at h0;rw[h0];rfl
theorem YU{sub:Value->List Lx.Alt->List AI}{w:World}{g d:Nat}:∀(l:List Lx.Alt)(j:Nat),(∀k a,l[k]?=some a->(eF sub w (aQ (cv w ⟨g,(j+k)*2,none⟩)) 0 a.1).map Prod.snd=qV d a.1)->(dP sub w g j l).map Prod.snd=dh (d+1) l
 | [],_,_=>rfl
 |a::l,j,h=>by
  have h0:=h 0 a rfl;have h1:=YU (sub:=sub) (w:=w) (g:=g) (d:=d) l (j+1) fun k y hy=>by
   have:=h (k+1) y (by simpa using hy);rw[show j+(k+1)=j+1+k by omega]at this;exact this
  rw[dP,List.map_append,h1];simp only[Nat.add_zero]at h0;rw[h0];rfl
theorem ET{d:Nat}{F:Nat->Prop}{w:World}{v:Value}{l:List Lx.Alt}(h:aM YP (d+1) F w v l){j:Nat}(hj:j<l.length):F (aQ v)/\∃vi,w.cell? ⟨aQ v,j*2,none⟩=some vi/\jG YP d F w vi l[j].1:=by
 obtain⟨b,cap,vi,h1,h2,h3,h4⟩:=Seq.at h (fun _=>rfl) hj;subst h1;exact⟨h2,vi,h4 0 (by decide),h3⟩
theorem YV{d:Nat}{F:Nat->Prop}{w:World}{v:Value}{l:List Lx.It}(h:jG YP d F w v l){j:Nat}(hj:j<l.length):F (aQ v)/\∃va,w.cell? ⟨aQ v,j*4+3,none⟩=some va/\aM YP d F w va l[j].alts:=by
 unfold jG wO at h;obtain⟨b,cap,vi,h1,h2,h3,h4⟩:=Seq.at h (fun _=>rfl) hj;subst h1;exact⟨h2,vi,h4 3 (by decide),h3⟩
theorem Fy:∀{d:Nat}{F:Nat->Prop}{w:World}{v:Value}{l:List Lx.Alt},aM YP d F w v l->(aK d w v l).map Prod.snd=dh d l
 |0,_,_,_,_,_=>rfl
 |d+1,F,w,v,l,h=>by
  refine YU l 0 fun k a ha=>?_
  obtain⟨hk,rfl⟩:=List.getElem?_eq_some_iff.1 ha;obtain⟨-,vi,hc,hi⟩:=ET h hk;have e1:cv w ⟨aQ v,(0+k)*2,none⟩=vi:=by unfold cv;rw[Nat.zero_add,hc];rfl
  rw[e1];refine X6 _ 0 fun m x hx=>?_
  obtain⟨hm,rfl⟩:=List.getElem?_eq_some_iff.1 hx;obtain⟨-,va,hc2,hA⟩:=YV hi hm;have e2:cv w ⟨aQ vi,(0+m)*4+3,none⟩=va:=by unfold cv;rw[Nat.zero_add,hc2];rfl
  rw[e2];exact Fy hA
theorem XE{sub sub':Value->List Lx.Alt->List AI}{w w':World}{g:Nat}:∀(its:List Lx.It)(i:Nat),(∀k x,its[k]?=some x->sub' (cv w' ⟨g,(i+k)*4+3,none⟩) x.alts=sub (cv w ⟨g,(i+k)*4+3,none⟩) x.alts)->eF sub' w' g i its=eF sub w g i its
 | [],_,_=>rfl
 |x::xs,i,h=>by
  have h0:=h 0 x rfl;have h1:=XE (sub:=sub) (sub':=sub') (w:=w) (w':=w') (g:=g) xs (i+1) fun k y hy=>by
   have:=h (k+1) y (by simpa using hy);rw[show i+(k+1)=i+1+k by omega]at this;exact this
  simp only[Nat.add_zero]at h0;rw[eF,eF,h0,h1]
theorem X8{sub sub':Value->List Lx.Alt->List AI}{w w':World}{g:Nat}:∀(l:List Lx.Alt)(j:Nat),(∀k a,l[k]?=some a->eF sub' w' (aQ (cv w' ⟨g,(j+k)*2,none⟩)) 0 a.1=eF sub w (aQ (cv w ⟨g,(j+k)*2,none⟩)) 0 a.1)->dP sub' w' g j l=dP sub w g j l
 | [],_,_=>rfl
 |a::l,j,h=>by
  have h0:=h 0 a rfl;have h1:=X8 (sub:=sub) (sub':=sub') (w:=w) (w':=w') (g:=g) l (j+1) fun k y hy=>by
   have:=h (k+1) y (by simpa using hy);rw[show j+(k+1)=j+1+k by omega]at this;exact this
  simp only[Nat.add_zero]at h0;rw[dP,dP,h0,h1]
theorem Sg{w w':World}{a:Addr}(h:w'.heap[a.block]?=w.heap[a.block]?):cv w' a=cv w a:=by unfold cv;rw[World.cell?_of_block h]
theorem IQ:∀{d:Nat}{F:Nat->Prop}{w w':World}{v:Value}{l:List Lx.Alt},aM YP d F w v l->(∀b,F b->w'.heap[b]?=w.heap[b]?)->aK d w' v l=aK d w v l
 |0,_,_,_,_,_,_,_=>rfl
 |d+1,F,w,w',v,l,h,hs=>by
  refine X8 l 0 fun k a ha=>?_
  obtain⟨hk,rfl⟩:=List.getElem?_eq_some_iff.1 ha;obtain⟨hF,vi,hc,hi⟩:=ET h hk;have e1:cv w ⟨aQ v,(0+k)*2,none⟩=vi:=by unfold cv;rw[Nat.zero_add,hc];rfl
  rw[Sg (hs _ hF),e1];refine XE _ 0 fun m x hx=>?_
  obtain⟨hm,rfl⟩:=List.getElem?_eq_some_iff.1 hx;obtain⟨hF2,va,hc2,hA⟩:=YV hi hm;have e2:cv w ⟨aQ vi,(0+m)*4+3,none⟩=va:=by unfold cv;rw[Nat.zero_add,hc2];rfl
  rw[Sg (hs _ hF2),e2];exact IQ hA hs
theorem XF{sub:Value->List Lx.Alt->List AI}{w:World}{g:Nat}{its:List Lx.It}{m:Nat}(hm:m<its.length):eF sub w g m (its.drop m)=((⟨g,m*4,none⟩:Addr),its[m])::(sub (cv w ⟨g,m*4+3,none⟩) its[m].alts++eF sub w g (m+1) (its.drop (m+1))):=by
 rw[List.drop_eq_getElem_cons hm,eF]
theorem Ya{sub:Value->List Lx.Alt->List AI}{w:World}{g:Nat}{l:List Lx.Alt}{j:Nat}(hj:j<l.length):dP sub w g j (l.drop j)=eF sub w (aQ (cv w ⟨g,j*2,none⟩)) 0 l[j].1++dP sub w g (j+1) (l.drop (j+1)):=by
 rw[List.drop_eq_getElem_cons hj,dP]
def iU(w:World)(b:Nat):Prop:=∃(ca:Array Value)(ta:TypeId),w.heap[b]?=some (.cells ca ta (0,0))
theorem iU.move{w w':World}{b:Nat}(h:iU w b)(hb:w'.heap[b]?=w.heap[b]?):iU w' b:=by
 obtain⟨ca,ta,h⟩:=h;exact⟨ca,ta,hb.trans h⟩
def Apart(F:Nat->Prop)(w:World)(l:List AI):Prop:=(∀p∈l,F p.1.block/\iU w p.1.block)/\(l.map Prod.fst).Nodup
def TL(Fs:Nat->Nat->Prop):Prop:=∀k k',k<k'->∀b,Fs k b->Fs k' b->False
theorem Tr.dQ.at{α:Type}{F:Nat->Prop}{w:World}{e s:Nat}{c:Value×α->List Value}{K:(Nat->Prop)->World->Value->α->Prop}{v:Value}{l:List α}(h:dQ F w e s c K v l)(hc:∀q,(c q).length=s):
  ∃Fs:Nat->Nat->Prop,TL Fs/\(∀k b,Fs k b->F b)/\(∀g,v.ownBlock=some g->F g/\iU w g/\∀k,¬Fs k g) /\
   ∀j(hj:j<l.length),∃g cap vk,v=.slice (some ⟨g,0,none⟩) l.length cap/\K (Fs j) w vk l[j]/\∀i,i<s->w.cell? ⟨g,j*s+i,none⟩=(c (vk,l[j]))[i]?:=by
 obtain⟨ps,Fs,h1,h2,h3,h4,h5,h6,h7⟩:=h;have hl:ps.length=l.length:=by rw[<-h1];simp
 have Ea:∀k b,((Fs[k]?).getD fun _=>False) b->∃hk:k<Fs.length,Fs[k] b:=by
  intro k b hb
  by_cases hk:k<Fs.length
  ·rw[List.getElem?_eq_getElem hk]at hb;exact⟨hk,hb⟩
  ·rw[List.getElem?_eq_none (by omega)]at hb;exact hb.elim
 refine⟨fun k=>(Fs[k]?).getD fun _=>False,?_,?_,?_,?_⟩
 ·intro k k' hkk b hb hb'
  obtain⟨hk,hb⟩:=Ea k b hb;obtain⟨hk',hb'⟩:=Ea k' b hb';exact List.pairwise_iff_getElem.1 h5 k k' hk hk' hkk b hb hb'
 ·intro k b hb
  obtain⟨hk,hb⟩:=Ea k b hb;exact h4 _ (List.getElem_mem hk) b hb
 ·intro g hg
  refine⟨(h3 g hg).1,?_,fun k hb=>?_⟩
  ·rcases h2.2 with h0 | ⟨g',cap,cur,hv,-,hh,-⟩
   ·rw[h0.1]at hg;simp[Value.ownBlock]at hg
   ·have:g'=g:=by rw[hv]at hg;simpa [Value.ownBlock]using hg
    subst this;exact⟨_,_,hh⟩
  ·obtain⟨hk,hb⟩:=Ea k g hb
   exact(h3 g hg).2 _ (List.getElem_mem hk) hb
 ·intro j hj
  obtain⟨g,cap,rfl,-,-⟩:=h2.form (by omega);have hq:ps[j]?=some ps[j]:=List.getElem?_eq_getElem (by omega);have hA:Fs[j]?=some Fs[j]:=List.getElem?_eq_getElem (by omega);have e5:(ps[j]).2=l[j]:=by
   have:(ps.map Prod.snd)[j]?=l[j]?:=by rw[h1]
   rw[List.getElem?_map,hq,List.getElem?_eq_getElem hj]at this;simpa using this
  refine⟨g,cap,(ps[j]).1,rfl,?_,?_⟩
  ·have:=h7 j _ _ hq hA
   rw[e5]at this;show K ((Fs[j]?).getD fun _=>False) w _ _;rw[hA];exact this
  ·intro i hi
   have hlt:j*s+i<l.length*s:=by
    have:(j+1)*s<=l.length*s:=Nat.mul_le_mul_right s hj;rw[Nat.succ_mul]at this;omega
   rw[h2.cellAt (j*s+i) hlt,flat_get c s hc ps j i _ hq hi,<-e5]
theorem Xg{sub:Value->List Lx.Alt->List AI}{w:World}{g:Nat}{Fs:Nat->Nat->Prop}(hs:TL Fs)(hg:∀k,¬Fs k g)(hc:iU w g):∀(its:List Lx.It)(i:Nat),(∀k x,its[k]?=some x->Apart (Fs (i+k)) w (sub (cv w ⟨g,(i+k)*4+3,none⟩) x.alts)) ->
  (∀p∈eF sub w g i its,iU w p.1.block/\((p.1.block=g/\∃m,i<=m/\p.1.off=m*4)\/∃k,i<=k/\Fs k p.1.block))/\((eF sub w g i its).map Prod.fst).Nodup
 | [],i,_=>⟨fun p h=>(by cases h),List.nodup_nil⟩
 |x::xs,i,h=>by
  have h0:=h 0 x rfl;simp only[Nat.add_zero]at h0;have h1:=Xg hs hg hc xs (i+1) fun k y hy=>by
   have:=h (k+1) y (by simpa using hy);rw[show i+(k+1)=i+1+k by omega]at this;exact this
  rw[eF];refine⟨fun p hp=>?_,?_⟩
  ·rcases List.mem_cons.1 hp with rfl | hp
   ·exact⟨hc,.inl ⟨rfl,i,zL0,rfl⟩⟩
   ·rcases List.mem_append.1 hp with hp | hp
    ·exact⟨(h0.1 p hp).2,.inr ⟨i,zL0,(h0.1 p hp).1⟩⟩
    ·obtain⟨a,b⟩:=h1.1 p hp
     refine⟨a,?_⟩;rcases b with ⟨e,m,hm,ho⟩|⟨k,hk,hF⟩
     ·exact .inl ⟨e,m,by omega,ho⟩
     ·exact .inr ⟨k,by omega,hF⟩
  ·rw[List.map_cons,List.map_append,List.nodup_cons,List.nodup_append]
   refine⟨fun hm=>?_,h0.2,h1.2,fun a ha b hb e=>?_⟩
   ·rcases List.mem_append.1 hm with hm | hm
    ·obtain⟨p,hp,e⟩:=List.mem_map.1 hm
     have:=(h0.1 p hp).1;rw[e]at this;exact hg _ this
    ·obtain⟨p,hp,e⟩:=List.mem_map.1 hm
     rcases (h1.1 p hp).2 with ⟨-,m,hm,ho⟩|⟨k,hk,hF⟩
     ·rw[e]at ho
      have ho':i*4=m*4:=ho;omega
     ·rw[e]at hF;exact hg _ hF
   ·subst e
    obtain⟨p,hp,e1⟩:=List.mem_map.1 ha;obtain⟨q,hq,e2⟩:=List.mem_map.1 hb;have f1:=(h0.1 p hp).1;rw[e1]at f1;rcases (h1.1 q hq).2 with ⟨hb',-⟩|⟨k,hk,hF⟩
    ·rw[e2]at hb';rw[hb']at f1;exact hg _ f1
    ·rw[e2]at hF;exact hs i k (by omega) _ f1 hF
def qx{α:Type}(f:Nat->α->List AI):Nat->List α->List AI
 |_,[]=>[]
 |j,a::l=>f j a++qx f (j+1) l
theorem Qz{α:Type}{f:Nat->α->List AI}{w:World}{Fs:Nat->Nat->Prop}(hs:TL Fs):∀(l:List α)(j:Nat),(∀k a,l[k]?=some a->Apart (Fs (j+k)) w (f (j+k) a)) ->
  (∀p∈qx f j l,iU w p.1.block/\∃k,j<=k/\Fs k p.1.block)/\((qx f j l).map Prod.fst).Nodup
 | [],j,_=>⟨fun p h=>(by cases h),List.nodup_nil⟩
 |x::xs,j,h=>by
  have h0:=h 0 x rfl;simp only[Nat.add_zero]at h0;have h1:=Qz (f:=f) (w:=w) hs xs (j+1) fun k y hy=>by
   have:=h (k+1) y (by simpa using hy);rw[show j+(k+1)=j+1+k by omega]at this;exact this
  rw[qx];refine⟨fun p hp=>?_,?_⟩
  ·rcases List.mem_append.1 hp with hp | hp
   ·exact⟨(h0.1 p hp).2,j,zL0,(h0.1 p hp).1⟩
   ·obtain⟨a,k,hk,hF⟩:=h1.1 p hp
    exact⟨a,k,by omega,hF⟩
  ·rw[List.map_append,List.nodup_append]
   refine⟨h0.2,h1.2,fun a ha b hb e=>?_⟩;subst e;obtain⟨p,hp,e1⟩:=List.mem_map.1 ha;obtain⟨q,hq,e2⟩:=List.mem_map.1 hb;have f1:=(h0.1 p hp).1;rw[e1]at f1;obtain⟨-,k,hk,hF⟩:=h1.1 q hq;rw[e2]at hF;exact hs j k (by omega) _ f1 hF
theorem ZJ{sub:Value->List Lx.Alt->List AI}{w:World}{g:Nat}:∀(l:List Lx.Alt)(j:Nat),dP sub w g j l=qx (fun j a=>eF sub w (aQ (cv w ⟨g,j*2,none⟩)) 0 a.1) j l
 | [],_=>rfl
 |a::l,j=>by rw[dP,qx,ZJ l (j+1)]
theorem ZK:∀{d:Nat}{F:Nat->Prop}{w:World}{v:Value}{l:List Lx.Alt},eD YP d F w v l->Apart F w (aK d w v l)
 |0,_,_,_,_,_=>⟨fun p h=>(by cases h),List.nodup_nil⟩
 |d+1,F,w,v,l,h=>by
  obtain⟨Fs,h1,h2,h3,h4⟩:=dQ.at h (fun _=>rfl);have e0:aK (d+1) w v l=qx (fun j a=>eF (aK d w) w (aQ (cv w ⟨aQ v,j*2,none⟩)) 0 a.1) 0 l:=ZJ l 0;have hx:=Qz (f:=fun j(a:Lx.Alt)=>eF (aK d w) w (aQ (cv w ⟨aQ v,j*2,none⟩)) 0 a.1) (w:=w) h1 l 0 fun k a ha=>by
   obtain⟨hk,rfl⟩:=List.getElem?_eq_some_iff.1 ha;obtain⟨g,cap,vi,hv,hi,hcell⟩:=h4 k hk;subst hv;have hc0:w.cell? ⟨g,k*2,none⟩=some vi:=hcell 0 (by decide);have e1:cv w ⟨g,(0+k)*2,none⟩=vi:=by unfold cv;rw[Nat.zero_add,hc0];rfl
   rw[show aQ (.slice (some ⟨g,0,none⟩) l.length cap)=g from rfl,e1,Nat.zero_add];obtain⟨Gs,k1,k2,k3,k4⟩:=dQ.at hi (fun _=>rfl)
   by_cases hlen:0<l[k].1.length
   ·obtain⟨n,DR,va,hv2,-,-⟩:=k4 0 hlen
    obtain⟨kF,kc,kn⟩:=k3 n (by rw[hv2];rfl);have hy:=Xg (sub:=aK d w) (w:=w) (g:=n) k1 kn kc l[k].1 0 fun m x hx=>by
     obtain⟨hm,rfl⟩:=List.getElem?_eq_some_iff.1 hx;obtain⟨n',aog,Co,hv3,hA,hcell2⟩:=k4 m hm;have:n'=n:=by rw[hv2]at hv3;cases hv3;rfl
     subst this;have hc3:w.cell? ⟨n',m*4+3,none⟩=some Co:=hcell2 3 (by decide);have e2:cv w ⟨n',(0+m)*4+3,none⟩=Co:=by unfold cv;rw[Nat.zero_add,hc3];rfl
     rw[e2,Nat.zero_add];exact ZK hA
    rw[hv2,show aQ (.slice (some ⟨n,0,none⟩) l[k].1.length DR)=n from rfl];refine⟨fun p hp=>?_,hy.2⟩;obtain⟨a,b⟩:=hy.1 p hp;refine⟨?_,a⟩;rcases b with ⟨e,-⟩|⟨m,-,hF⟩
    ·rw[e];exact kF
    ·exact k2 m _ hF
   ·have:l[k].1=[]:=List.eq_nil_of_length_eq_zero (by omega)
    rw[this];exact⟨fun p h=>(by cases h),List.nodup_nil⟩
  rw[e0];exact⟨fun p hp=>by obtain⟨a,k,-,hF⟩:=hx.1 p hp;exact⟨h2 k _ hF,a⟩,hx.2⟩
def Si(w:World)(g:Nat):Nat->List Lx.Rl->List AI:=qx fun j r=>aK 9 w (cv w ⟨g,j*2+1,none⟩) r.alts
theorem Xh{F:Nat->Prop}{w:World}{v:Value}{rs:List Lx.Rl}(h:Tr.dQ F w 254 2 cR KR v rs):Apart F w (Si w (aQ v) 0 rs):=by
 obtain⟨Fs,h1,h2,h3,h4⟩:=dQ.at h (fun _=>rfl);have hx:=Qz (f:=fun j(r:Lx.Rl)=>aK 9 w (cv w ⟨aQ v,j*2+1,none⟩) r.alts) (w:=w) h1 rs 0 fun k a ha=>by
  obtain⟨hk,rfl⟩:=List.getElem?_eq_some_iff.1 ha;obtain⟨g,cap,va,hv,hA,hcell⟩:=h4 k hk;subst hv;have hc0:w.cell? ⟨g,k*2+1,none⟩=some va:=hcell 1 (by decide);have e1:cv w ⟨g,(0+k)*2+1,none⟩=va:=by unfold cv;rw[Nat.zero_add,hc0];rfl
  rw[show aQ (.slice (some ⟨g,0,none⟩) rs.length cap)=g from rfl,e1,Nat.zero_add];exact ZK hA
 exact⟨fun p hp=>by obtain⟨a,k,-,hF⟩:=hx.1 p hp;exact⟨h2 k _ hF,a⟩,hx.2⟩
theorem aeU{P:Program}{w:World}{tp te:TypeId}{j:TypeInfo}{a b:Addr}(hp:P.underlying tp=some (.pointer te))(hte:P.info? te=some j)(hsz:j.size≠0)(ha:iU w a.block)(hb:iU w b.block):
  (Op.equal tp (.pointer (some a)) (.pointer (some b))).run P w=.ok (decide (a=b)) w:=by
 obtain⟨ca,ta,ha⟩:=ha;obtain⟨cb,tb,hb⟩:=hb
 by_cases hab:a=b
 ·subst hab
  have h:∀d:Nat,(Op.equalIn (d+1) tp (.pointer (some a)) (.pointer (some a))).run P w=.ok true w:=fun d=>by
   simp[Op.equalIn,run_underlying hp,sizeOf,typeInfo,hte,run_sameAddr_same]
  simp[Op.equal,Op.maxDepth,h 9999]
 ·have h:∀d:Nat,(Op.equalIn (d+1) tp (.pointer (some a)) (.pointer (some b))).run P w=.ok false w:=fun d=>by
   simp[Op.equalIn,run_underlying hp,sizeOf,typeInfo,hte,hsz,run_sameAddr_other w hab ha hb]
  simp[Op.equal,Op.maxDepth,h 9999,hab]
def mK(a:Addr):Value:=.pointer (some a)
theorem aaB{P:Program}{w:World}{tp te:TypeId}{j:TypeInfo}{a:Addr}(hp:P.underlying tp=some (.pointer te))(hte:P.info? te=some j)(hsz:j.size≠0)(ha:iU w a.block):∀(l:List MapEntry)(i:Nat),(∀x∈l,∃c,x.key=mK c/\iU w c.block) ->
  ((Instr.findAsking tp (mK a) l i).run P w=.ok none w/\∀(x:MapEntry),x∈l->x.key≠mK a)\/∃(k:Nat)(e:MapEntry),(Instr.findAsking tp (mK a) l i).run P w=.ok (some (i+k,e.val)) w/\l[k]?=some e/\e.key=mK a
 | [],i,_=>.inl ⟨by simp[Instr.findAsking],fun x h=>(by cases h)⟩
 |x::l,i,h=>by
  obtain⟨c,hc,hcb⟩:=h x List.mem_cons_self;have he:=aeU (w:=w) hp hte hsz ha hcb
  by_cases hac:a=c
  ·subst hac
   refine .inr ⟨0,x,?_,rfl,hc⟩;have he':(Op.equal tp (mK a) x.key).run P w=.ok true w:=by rw[hc];simpa [mK]using he
   simp[Instr.findAsking,he',Result.andThen]
  ·have he':(Op.equal tp (mK a) x.key).run P w=.ok false w:=by rw[hc];simpa [mK,hac]using he
   rcases aaB hp hte hsz ha l (i+1) (fun y hy=>h y (List.mem_cons_of_mem _ hy)) with ⟨h1,h2⟩|⟨k,e,h1,h2,h3⟩
   ·refine .inl ⟨?_,fun y hy=>?_⟩
    ·simp[Instr.findAsking,he',h1,Result.andThen]
    ·rcases List.mem_cons.1 hy with rfl | hy
     ·rw[hc];intro e;unfold mK at e;cases e;exact hac rfl
     ·exact h2 y hy
   ·refine .inr ⟨k+1,e,?_,by simpa using h2,h3⟩
    rw[show i+(k+1)=i+1+k by omega];simp[Instr.findAsking,he',h1,Result.andThen]
theorem akQ{P:Program}{tp te:TypeId}{j:TypeInfo}(hp:P.underlying tp=some (.pointer te))(hte:P.info? te=some j)(hsz:j.size≠0):uT P tp mK (fun w a=>iU w a.block) where
 inj a b h:=by unfold mK at h;cases h;rfl
 check em w a:=by
  have h:∀n:Nat,(Instr.checkKey em (n+1) tp (mK a)).run P w=.ok () w:=fun n=>by
   simp[Instr.checkKey,run_underlying hp,mK]
  exact h 9999
 find w a l ha hl:=by
  cases l with
  |nil=>exact .inl ⟨by simp[Instr.findKey,Instr.findNow,run_underlying hp],fun x h=>(by cases h)⟩
  |cons x l=>
   have e0:Instr.findNow (.pointer te) (mK a) (x::l) 0=none:=by
    unfold Instr.findNow mK Instr.sameNow;rfl
   have h1:=aaB hp hte hsz ha (x::l) 0 hl;have e1:(Instr.findKey tp (mK a) (x::l)).run P w=(Instr.findAsking tp (mK a) (x::l) 0).run P w:=by
    simp[Instr.findKey,run_underlying hp,e0]
   rw[e1];rcases h1 with h1|⟨k,e,h1,h2,h3⟩
   ·exact .inl h1
   ·rw[Nat.zero_add]at h1
    exact .inr ⟨k,e,h1,h2,h3⟩
 stays w a:=by simp[Instr.keyThatStays,Instr.sameBits,mK]
theorem Tryz.ajn:prog.underlying 260=some (.pointer 262):=by kernel_rfl
theorem Tryz.acd:prog.underlying 196=some (.map 260 3):=by kernel_rfl
theorem Tryz.ajo:(prog.info? 262).map (fun i=>i.size)=some 4:=by kernel_rfl
theorem Tryz.ady:uT prog 260 mK (fun w a=>iU w a.block):=by
 have h:=Tryz.ajo;cases hi:prog.info? 262 with
 |none=>rw[hi]at h;cases h
 |some j=>
  rw[hi]at h;have hj:j.size=4:=by simpa using h
  exact akQ Tryz.ajn hi (by omega)
def tH(G:Nat->Prop)(w:World)(B:Nat)(f:Addr->Int):Prop:=dm mK (fun a=>G a.block) w B f
theorem tH.look{G:Nat->Prop}{w:World}{B:Nat}{f:Addr->Int}(h:tH G w B f)(hG:∀b,G b->iU w b){a:Addr}(ha:G a.block):(Instr.lookup 196 (.map (some B)) (.pointer (some a)) false).run prog w=.ok (.int .i64 (f a)) w:=dm.look Tryz.ady Tryz.acd Tryz.FP (fun _ ha=>hG _ ha) h ha
theorem tH.put{G:Nat->Prop}{w:World}{B:Nat}{f:Addr->Int}(h:tH G w B f)(hG:∀b,G b->iU w b){a:Addr}(ha:G a.block)(v:Int):∃w',(Instr.mapUpdate 196 (.map (some B)) (.pointer (some a)) (.int .i64 v)).run prog w=.ok () w'/\tH G w' B (fun c=>if c=a then v else f c)/\w.grownBy w' (some B)/\w'.heap.size=w.heap.size:=dm.put Tryz.ady Tryz.acd (fun _ ha=>hG _ ha) h ha v
structure pE(w:World)(n m:Nat)(it:Lx.It):Prop where
 kind:w.cell? ⟨n,m*4,none⟩=some (.int .i64 (it.kind:Int))
 name:w.cell? ⟨n,m*4+1,none⟩=some (.string it.name)
 mark:w.cell? ⟨n,m*4+2,none⟩=some (.int .u8 (it.mark:Int))
def MQ(d:Nat):Prop:=∀(nw nv:Nat)(caps:Array Value)(wd:Lx.It->Bool)(F:Nat->Prop)(w0:World)(I:List AI->World->Prop)(Q:AI->Prop),
 (∀(ar:Array Value)(w:World),(callFunc nw ar).run prog w=.ok (.enter nw ar) w)->(∀(ar:Array Value)(w:World),(callFunc nv ar).run prog w=.ok (.enter nv ar) w) ->
 (∀(w':World)(n m:Nat)(it:Lx.It),F n->pE w' n m it->Calls prog nw #[.pointer (some ⟨n,m*4,none⟩)] w' fun e w''=>e=.returned (.bool (wd it))/\w''=w') ->
 (∀(w':World)(L:List AI)(n m:Nat)(it:Lx.It),I L w'->F n->pE w' n m it->wd it=true->Q (⟨n,m*4,none⟩,it)->Calls prog nv (#[.pointer (some ⟨n,m*4,none⟩)]++caps) w' fun e w''=>e=.returned (.tuple #[])/\I (L++[(⟨n,m*4,none⟩,it)]) w'') ->
 (∀(L:List AI)(w':World),I L w'->∀b,F b->w'.heap[b]?=w0.heap[b]?) ->
 ∀(v:Value)(l:List Lx.Alt),aM YP d F w0 v l->(∀p∈aK d w0 v l,Q p)->∀(w:World)(L:List AI),I L w ->
 Calls prog 118 #[v,.func (.func nw) #[] #[],.func (.func nv) #[] caps] w fun e w'=>e=.returned (.tuple #[])/\I (L++(aK d w0 v l).filter fun p=>wd p.2) w'
theorem ahV:MQ 0:=by
 intro nw nv caps wd F w0 I Q hcw hcv hw hv hf v l hl hq w L hI;obtain⟨rfl,rfl⟩:=hl;go_enter func118,ntmps118;go_wp2_with fail
 go_loopg [11] 0 (fun k i wr=>k=0/\i=.int .i64 0/\wr=w)
 case atStart=>exact⟨rfl,rfl,rfl⟩
 case round=>
  obtain⟨rfl,rfl,rfl⟩:=hrel;go_wp2_with fail
  go_end0
  refine⟨rfl,?_⟩;rw[show aK 0 w0 (.slice none 0 0) []=[] from rfl,List.filter_nil,List.append_nil];exact hI
theorem ahW{d:Nat}(IH:MQ d):MQ (d+1):=by
 intro nw nv caps wd F w0 I Q hcw hcv hw hv hf v l hl hq w L hI;obtain⟨va,vc,hvv,hm⟩:=aM.len hl;subst hvv;unfold maxLen at hm;obtain⟨T,hT⟩:∃T,T=L++(aK (d+1) w0 (.slice va l.length vc) l).filter (fun p=>wd p.2):=⟨_,rfl⟩;rw[<-hT];go_enter func118,ntmps118;go_wp2_with fail;have e0:aK (d+1) w0 (.slice va l.length vc) l=dP (aK d w0) w0 (aQ (.slice va l.length vc)) 0 (l.drop 0):=rfl;have H0:Hid (T=L++(dP (aK d w0) w0 (aQ (.slice va l.length vc)) 0 (l.drop 0)).filter (fun p=>wd p.2)):=by show _=_;rw[hT,e0]
 rw[e0]at hq;clear e0;clear hT
 go_loopg [11] l.length (fun k i wr=>∃(j:Nat)(L':List AI),j+k=l.length/\i=.int .i64 j/\I L' wr/\(∀p∈dP (aK d w0) w0 (aQ (.slice va l.length vc)) j (l.drop j),Q p)/\Hid (T=L'++(dP (aK d w0) w0 (aQ (.slice va l.length vc)) j (l.drop j)).filter (fun p=>wd p.2)))
 case atStart=>exact⟨0,L,by omega,rfl,hI,hq,H0⟩
 case round=>
  clear H0 hq hI;revert wr;intro wz hrel;obtain⟨j,L1,hk,rfl,hz,hqz,HZ⟩:=hrel
  by_cases hlt:j<l.length
  ·obtain⟨gb,cap,vi,hvv,hg,hi,hc⟩:=Seq.at hl (fun _=>rfl) hlt
   cases hvv;have hz2:=HZ.out;have ec:cv w0 ⟨gb,j*2,none⟩=vi:=by unfold cv;rw[show w0.cell? ⟨gb,j*2,none⟩=some vi from hc 0 (by decide)];rfl
   rw[Ya hlt,show aQ (.slice (some ⟨gb,0,none⟩) l.length vc)=gb from rfl,ec]at hz2 hqz;generalize l[j]=x at hi hc hz2 hqz;obtain⟨its,prec,pa⟩:=x;have hi':jG YP d F w0 vi its:=hi;obtain⟨ia,ic,qY,him⟩:=Seq.len hi;subst qY;unfold maxLen at him;have c0:wz.cell? ⟨gb,j*2,none⟩=some (.slice ia its.length ic):=(World.cell?_of_block (w:=w0) (hf _ _ hz gb hg)).trans (hc 0 (by decide));have HZ2:Hid (T=L1++(eF (aK d w0) w0 (aQ (.slice ia its.length ic)) 0 (its.drop 0)++dP (aK d w0) w0 gb (j+1) (l.drop (j+1))).filter (fun p=>wd p.2)):=hz2;have JI:∀p∈eF (aK d w0) w0 (aQ (.slice ia its.length ic)) 0 (its.drop 0)++dP (aK d w0) w0 gb (j+1) (l.drop (j+1)),Q p:=hqz;clear hc hz2 HZ hqz ec hi;go_wp2_with fail
   go_loopg [21] its.length (fun k i wr=>∃(m:Nat)(L':List AI),m+k=its.length/\i=.int .i64 m/\I L' wr/\(∀p∈eF (aK d w0) w0 (aQ (.slice ia its.length ic)) m (its.drop m)++dP (aK d w0) w0 gb (j+1) (l.drop (j+1)),Q p)/\Hid (T=L'++(eF (aK d w0) w0 (aQ (.slice ia its.length ic)) m (its.drop m)++dP (aK d w0) w0 gb (j+1) (l.drop (j+1))).filter (fun p=>wd p.2)))
   case atStart=>exact⟨0,L1,by omega,rfl,hz,JI,HZ2⟩
   case round=>
    clear HZ2 JI hz c0;obtain⟨m,L2,hkm,rfl,hr,hqr,HR⟩:=hrel
    by_cases zZ:m<its.length
    ·have hir:=hi'
     unfold jG wO at hir;obtain⟨n,DR,va,hvv,hn,ha,hcc⟩:=Seq.at hir (fun _=>rfl) zZ;cases hvv;have hr2:=HR.out;have ec:cv w0 ⟨n,m*4+3,none⟩=va:=by unfold cv;rw[show w0.cell? ⟨n,m*4+3,none⟩=some va from hcc 3 (by decide)];rfl
     rw[XF zZ,show aQ (.slice (some ⟨n,0,none⟩) its.length ic)=n from rfl,ec]at hr2 hqr;generalize its[m]=it at ha hcc hr2 hqr;obtain⟨sa,sc,hva,-⟩:=aM.len ha;subst hva;have en:wr.heap[n]?=w0.heap[n]?:=hf _ _ hr n hn;have hia:pE wr n m it:=⟨(World.cell?_of_block (w:=w0) en).trans (hcc 0 (by decide)),(World.cell?_of_block (w:=w0) en).trans (hcc 1 (by decide)),(World.cell?_of_block (w:=w0) en).trans (hcc 2 (by decide))⟩;have U3:Q (⟨n,m*4,none⟩,it):=hqr _ (by simp);have Kh:∀p∈aK d w0 (.slice sa it.alts.length sc) it.alts,Q p:=fun p hp=>hqr p (by simp[hp])
     have Ki:∀p∈eF (aK d w0) w0 n (m+1) (its.drop (m+1))++dP (aK d w0) w0 gb (j+1) (l.drop (j+1)),Q p:=fun p hp=>hqr p (by
      rcases List.mem_append.1 hp with hp|hp
      ·simp[hp]
      ·simp[hp])
     clear hqr hir HR ec;go_wp2_with fail;refine(hw wr n m it hn hia).mono ?_;rintro e w1⟨rfl,hw1⟩;obtain rfl:=hw1.symm;cases hwd:wd it with
     |true=>
      have HWD:Hid (wd it=true):=hwd;have hr3:T=(L2++[(⟨n,m*4,none⟩,it)])++((aK d w0 (.slice sa it.alts.length sc) it.alts).filter (fun p=>wd p.2)++(eF (aK d w0) w0 n (m+1) (its.drop (m+1))++dP (aK d w0) w0 gb (j+1) (l.drop (j+1))).filter (fun p=>wd p.2)):=by
       rw[hr2];simp[hwd,List.append_assoc]
      have HR3:Hid _:=hr3;have q1:=hv wr L2 n m it hr hn hia hwd U3;clear hr2 hr3 hwd;go_wp2_with fail;refine q1.mono ?_;rintro e w2⟨rfl,hI2⟩;have U4:w2.heap[n]?=w0.heap[n]?:=hf _ _ hI2 n hn;have y3:w2.cell? ⟨n,m*4+3,none⟩=some (.slice sa it.alts.length sc):=(World.cell?_of_block (w:=w0) U4).trans (hcc 3 (by decide));go_wp2_with fail;refine(IH nw nv caps wd F w0 I Q hcw hcv hw hv hf _ _ ha Kh w2 _ hI2).mono ?_;rintro e w3⟨rfl,Eb⟩;have HR4:Hid _:=HR3.out;rw[<-List.append_assoc]at HR4;go_wp2_with fail;go_roundg (its.length - (m+1))
      case measure=>omega
      case rel=>exact⟨m+1,_,by omega,by go_num,Eb,Ki,HR4⟩
     |false=>
      have hr3:T=L2++((aK d w0 (.slice sa it.alts.length sc) it.alts).filter (fun p=>wd p.2)++(eF (aK d w0) w0 n (m+1) (its.drop (m+1))++dP (aK d w0) w0 gb (j+1) (l.drop (j+1))).filter (fun p=>wd p.2)):=by
       rw[hr2];simp[hwd,List.append_assoc]
      have HR3:Hid _:=hr3;clear hr2 hr3 hwd;have y3:wr.cell? ⟨n,m*4+3,none⟩=some (.slice sa it.alts.length sc):=(World.cell?_of_block (w:=w0) en).trans (hcc 3 (by decide));go_wp2_with fail;refine(IH nw nv caps wd F w0 I Q hcw hcv hw hv hf _ _ ha Kh wr _ hr).mono ?_;rintro e w3⟨rfl,Eb⟩;have HR4:Hid _:=HR3.out;rw[<-List.append_assoc]at HR4;go_wp2_with fail;go_roundg (its.length - (m+1))
      case measure=>omega
      case rel=>exact⟨m+1,_,by omega,by go_num,Eb,Ki,HR4⟩
    ·have:m=its.length:=by omega
     subst this;have hr2:=HR.out;rw[List.drop_length,eF,List.nil_append]at hr2 hqr;have HR2:Hid _:=hr2;clear hr2 HR;go_wp2_with fail;go_roundg (l.length - (j+1))
     case measure=>omega
     case rel=>exact⟨j+1,L2,by omega,by go_num,hr,hqr,HR2⟩
  ·have:j=l.length:=by omega
   subst this;have hz2:=HZ.out;rw[List.drop_length,dP,List.filter_nil,List.append_nil]at hz2;have HZ2:Hid _:=hz2;clear hz2 HZ;go_wp2_with fail
   go_end0
   refine⟨rfl,?_⟩;rw[HZ2.out];exact hz
theorem abm:∀d,MQ d
 |0=>ahV
 |d+1=>ahW (abm d)
end Go.Proofs.YtagkodkijkpemaaGreatDoor
