import Derived.Test.YtlcppnabbicmoaaGreatDoorME49
import Derived.BigQuiet
set_option maxHeartbeats 8000000
set_option maxRecDepth 1000000
namespace Go.Proofs.YtlcppnabbicmoaaGreatDoor
section
open Go.RowKit
open Tr
end
section
open Go.RowKit
open Tr
def tOne:ByteArray:=⟨#[101,32,61,32,65,32,40,66,32,65,41,42,59]⟩
def tTwo:ByteArray:=⟨#[101,32,61,32,65,63,59]⟩
def okP (r:Except (Nat × Nat) Lx.Gr):Nat × Nat × List Lx.Pd :=
 match r with
 | .ok g=>((Lx.tokG g).length,(Lx.namG g).length,Lx.prodG g)
 | .error _=>(0,0,[])
theorem one_okP:(okP (Lx.mkR tOne)).1=3/\(okP (Lx.mkR tOne)).2.2.length=4:=⟨by kernel_rfl,by kernel_rfl⟩
def pTwo:List Lx.Pd:=[⟨2,[3],-1⟩,⟨3,[4],-1⟩,⟨4,[],-1⟩,⟨4,[1],1⟩]
theorem two_okP:okP (Lx.mkR tTwo)=(2,3,pTwo):=by kernel_rfl
theorem one_ok:∃ g,Lx.mkR tOne=.ok g/\(Lx.tokG g).length=3/\(Lx.prodG g).length=4:=by
 have h:=one_okP;cases hp:Lx.mkR tOne with
 | error e=>rw[hp]at h;simp[okP]at h
 | ok g=>rw[hp]at h;exact⟨g,rfl,h.1,h.2⟩
theorem two_ok:∃ g,Lx.mkR tTwo=.ok g/\(Lx.tokG g).length=2/\(Lx.namG g).length=3/\Lx.prodG g=pTwo:=by
 have h:=two_okP;cases hp:Lx.mkR tTwo with
 | error e=>rw[hp]at h;simp[okP]at h
 | ok g =>
  rw[hp]at h;simp only[okP,Prod.mk.injEq]at h;exact⟨g,rfl,h.1,h.2.1,h.2.2⟩
theorem two_setOk:∀ g,Lx.mkR tTwo=.ok g->SetOk g:=by
 intro g hg;obtain⟨g',h1,h2,h3,h4⟩:=two_ok;rw[h1]at hg;cases hg;unfold SetOk Lx.PdOk;rw[h2,h3,h4];refine⟨by decide,by decide,by decide⟩
def eTwo:List Bool:=[false,false,true,true,true]
theorem two_E {k:Nat}{E:List Bool}(h:E=Lx.itr (Lx.passE pTwo) k (List.replicate (2+3) false))(hs:Lx.passE pTwo E=E):E=eTwo:=by
 subst h;exact (Lx.itr_same (m:=3) hs (by kernel_rfl)).trans (by kernel_rfl)
theorem two_B {m:Nat}{B:List (List Bool)}(h:B=Lx.itr (Lx.passF pTwo eTwo) m (Lx.alone 2 (2+3)))(hs:Lx.passF pTwo eTwo B=B):B.map Lx.membersL=[[0],[1],[1],[1],[1]]:=by
 subst h;rw[Lx.itr_same (m:=3) hs (by kernel_rfl)]
 kernel_rfl
theorem num_any (n:Int)(w:World):Calls Tryz.prog 12 #[.int .i64 n] w fun e w'=>e=.returned (.int .i64 n)/\w'=w:=by
 go_enter Tryz.func12,Tryz.ntmps12;go_wp2_with fail;go_ret;exact⟨rfl,rfl⟩
theorem alive_any (w:World)(ht:Tab w):Calls Tryz.prog 13 #[] w fun e w'=>e=.returned (.bool true)/\Below w.heap.size w w':=by
 have P1:=make_any tOne w (by decide) ht;go_enter Tryz.func13,Tryz.ntmps13;go_wp2_with fail;refine P1.mono ?_;rintro e w1 ⟨v,n,a,rfl,hb1,hok,-⟩;clear P1;obtain⟨g,hg,hgT,hgP⟩:=one_ok;obtain⟨rfl,rfl,hP⟩:=hok g hg;clear hok hg;obtain⟨vT,vN,vP,vB,vK,rfl,hT,hN,⟨ps,p1,p2,-⟩,hB,hK⟩:=hP;obtain⟨ta,tc,rfl,-⟩:=own_len hT;obtain⟨na,nc,rfl,-⟩:=own_len hN;obtain⟨pa,pc,rfl,-⟩:=own_len p2;obtain⟨ba,bc,rfl,-⟩:=own_len hB;obtain⟨ka,kc,rfl,-⟩:=own_len hK;rw[hgT,hgP];clear hT hN hB hK p1 p2 hgT hgP;generalize (Lx.namG g).length=nN;generalize ((Lx.tokG g).map fun t=>(Lx.bkOf g t).1).length=nB;generalize ((Lx.tokG g).map fun t=>(Lx.bkOf g t).2).length=nK;obtain⟨W,hW⟩:∃ W,W=w1.alloc (.cells #[.slice ta 3 tc,.slice na nN nc,.slice pa 4 pc,.slice ba nB bc,.slice ka nK kc] 26):=⟨_,rfl⟩;have kW:Blk W w1.heap.size #[.slice ta 3 tc,.slice na nN nc,.slice pa 4 pc,.slice ba nB bc,.slice ka nK kc] 26:=by rw[hW];exact blk5 _ _ _ _ _ _
 have hbW:Below w.heap.size w W:=by rw[hW];exact hb1.alloc hb1.size _
 have P2:=sets_any tTwo W (by decide) (ht.move (hbW.block _ ht.lt)) two_setOk;go_wp2_with fail;rw[<-hW];clear hW;refine P2.mono ?_;rintro e w2 ⟨hb2,-,hok⟩;clear P2;obtain⟨g2,h1,h2,h3,h4⟩:=two_ok;have hS:=hok g2 h1;clear hok h1;rw[h2,h3,h4]at hS;clear h2 h3 h4;obtain⟨gE,E,k,vF,B,m,rfl,kE,hgE,-,hE,hEs,hB,hBs,hpt⟩:=hS;obtain rfl:=two_E hE hEs;rw[two_B hB hBs]at hpt;obtain⟨gF,cF,u,rfl,-,lF,cu,ou⟩:=hpt.pt.at (j:=2) (by decide);obtain⟨ua,uc,rfl,-⟩:=own_len ou;have cE:w2.cell? ⟨gE,2,none⟩=some (.bool true):=kE.cell 2;have kW2:Blk w2 w1.heap.size _ 26:=(hb2.block _ kW.lt).trans kW;have c0:w2.cell? ⟨w1.heap.size,0,none⟩=some (.slice ta 3 tc):=kW2.cell 0;have c2:w2.cell? ⟨w1.heap.size,2,none⟩=some (.slice pa 4 pc):=kW2.cell 2;have hbf:Below w.heap.size w w2:=hbW.trans (hb2.mono hbW.size);have cu':w2.cell? ⟨gF,2,none⟩=some (.slice ua 1 uc):=cu;clear cu ou hpt hE hEs hB hBs kE kW kW2 hbW hb1 hb2
 go_wp2_with (go_at_call 12;refine (num_any _ _).mono ?_;rintro e w' ⟨rfl,hw'⟩;obtain rfl:=hw'.symm)
 go_ret;exact⟨rfl,hbf⟩
end
section
open Go.RowKit
open Tr
theorem PlP.below {w w':World}{v:Value}{T N:List ByteArray}{P:List Lx.Pd}{Bs Ks:List Nat}(h:PlP w v T N P Bs Ks)(hb:Below w.heap.size w w'):PlP w' v T N P Bs Ks:=by
 obtain⟨vT,vN,vP,vB,vK,rfl,h1,h2,h3,h4,h5⟩:=h;exact⟨vT,vN,vP,vB,vK,rfl,own_below h1 hb,own_below h2 hb,h3.below hb,own_below h4 hb,own_below h5 hb⟩
theorem PlIn.below {w w':World}{v:Value}{T N:List ByteArray}{P:List Lx.Pd}{Bs Ks:List Nat}(h:PlIn w v T N P Bs Ks)(hb:Below w.heap.size w w'):PlIn w' v T N P Bs Ks:=by
 obtain⟨vT,vN,vP,vB,vK,rfl,h1,h2,⟨ps,p1,p2,p3⟩,h4,h5⟩:=h;exact⟨vT,vN,vP,vB,vK,rfl,own_below h1 hb,own_below h2 hb,⟨ps,p1,own_below p2 hb,fun q hq=>⟨own_below (p3 q hq).1 hb,(p3 q hq).2⟩⟩,own_below h4 hb,own_below h5 hb⟩
end
section
open Go.RowKit
open Tr
namespace Lx
theorem formL_len:∀ (ts:List Tk) (b:ByteArray),(∀ t∈ts,t.1.size<=2000)->(formL b ts).length<=ts.length*2001
 | [],_,_=>Nat.le_refl _
 | t::ts,b,h=>by
  have ih:=formL_len ts t.1 fun u hu=>h u (List.mem_cons_of_mem _ hu)
  have h1:=gapOf_size b t.1;have h2:=h t List.mem_cons_self;rw[formL,List.length_append,List.length_append,data_len,data_len,List.length_cons,Nat.succ_mul];omega
theorem plain_size {s:ByteArray}{g:Gr}(h:parse s=.ok g):(⟨(formL noText (lex s)).toArray⟩:ByteArray).size<=5000000:=by
 have hs:=parse_size h;have h1:=formL_len (lex s) noText fun t ht=>Nat.le_trans (lex_sz s t ht) hs
 have h2:=lex_len s;have h3:(⟨(formL noText (lex s)).toArray⟩:ByteArray).size=(formL noText (lex s)).length:=by rw[<-bytes_len];rfl
 rw[h3];have:(lex s).length*2001<=2001*2001:=Nat.mul_le_mul_right _ (by omega);omega
end Lx
end
end Go.Proofs.YtlcppnabbicmoaaGreatDoor
