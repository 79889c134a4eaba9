import Derived.Test.YtjaalkocdbkdeaaGreatDoorSA05
import Derived.Recover
set_option maxHeartbeats 8000000
set_option maxRecDepth 1000000
namespace Go.Proofs.YtjaalkocdbkdeaaGreatDoor
open Lx Go.Proofs.Tryz
open Go.RowKit
section
open Go.RowKit
open Lx (Tk)
open Tr
theorem ag4(n a:Int)(w:World):(Instr.typeAssert (.iface 105 (.agg #[.int .i64 n,.int .i64 a])) 20 105 true).run prog w=.ok (.tuple #[.agg #[.int .i64 n,.int .i64 a],.bool true]) w:=by
 simp[Instr.typeAssert,run_underlying underlying105,go_sem,Result.andThen]
theorem ad5(n a:Int)(w:World):
  Calls prog 33 #[.iface 105 (.agg #[.int .i64 n,.int .i64 a])] w fun e w'=>e=.returned (.agg #[.int .i64 n,.int .i64 a])/\Below w.heap.size w w':=by
 have hta:=ag4;go_enter func33,ntmps33
 go_wp2
 refine bodyPost_ret (v:=.agg #[.int .i64 n,.int .i64 a]) (by simp[results,results33,go_sem]) rfl ⟨rfl,?_⟩;exact((Below.refl _ _).alloc (zL0) _).alloc (by simp) _
theorem aeu{B:Nat}(n a x y:Int){w w1:World}(hb:Below w.heap.size w w1)(hB:B+2<w.heap.size)(kg:aj w1 B #[.slice none 0 0,.slice none 0 0] 75)(ke:aj w1 (B+1) #[.int .i64 x] 24)(ka:aj w1 (B+2) #[.int .i64 y] 3):
  Below B w (((((w1.setCell ⟨B,0,none⟩ (.slice none 0 0)).setCell ⟨B,1,none⟩ (.slice none 0 0)).setCell ⟨B+1,0,none⟩ (.int .i64 n)).setCell ⟨B+2,0,none⟩ (.int .i64 a)).alloc (.cells #[.int .i64 n,.int .i64 a] 105)).drew /\
  aj (((((w1.setCell ⟨B,0,none⟩ (.slice none 0 0)).setCell ⟨B,1,none⟩ (.slice none 0 0)).setCell ⟨B+1,0,none⟩ (.int .i64 n)).setCell ⟨B+2,0,none⟩ (.int .i64 a)).alloc (.cells #[.int .i64 n,.int .i64 a] 105)).drew B #[.slice none 0 0,.slice none 0 0] 75 /\
  aj (((((w1.setCell ⟨B,0,none⟩ (.slice none 0 0)).setCell ⟨B,1,none⟩ (.slice none 0 0)).setCell ⟨B+1,0,none⟩ (.int .i64 n)).setCell ⟨B+2,0,none⟩ (.int .i64 a)).alloc (.cells #[.int .i64 n,.int .i64 a] 105)).drew (B+1) #[.int .i64 n] 24 /\
  aj (((((w1.setCell ⟨B,0,none⟩ (.slice none 0 0)).setCell ⟨B,1,none⟩ (.slice none 0 0)).setCell ⟨B+1,0,none⟩ (.int .i64 n)).setCell ⟨B+2,0,none⟩ (.int .i64 a)).alloc (.cells #[.int .i64 n,.int .i64 a] 105)).drew (B+2) #[.int .i64 a] 3:=by
 have hs:=hb.size;have b1:=hb.mono (B':=B) (by omega);have b2:=(((b1.setCell (p:=⟨B,0,none⟩) (zL0) (.slice none 0 0)).setCell (p:=⟨B,1,none⟩) (zL0) (.slice none 0 0)).setCell (p:=⟨B+1,0,none⟩) (by simp) (.int .i64 n)).setCell (p:=⟨B+2,0,none⟩) (by simp) (.int .i64 a);refine⟨(b2.alloc (by have:=b2.size;omega) _).drew,?_,?_,?_⟩
 ·exact(((((kg.set 0 (.slice none 0 0)).set 1 (.slice none 0 0)).other (b':=B+1) (i:=0) (by omega) (.int .i64 n)).other (b':=B+2) (i:=0) (by omega) (.int .i64 a)).alloc (.cells #[.int .i64 n,.int .i64 a] 105)).drew
 ·exact(((((ke.other (b':=B) (i:=0) (by omega) (.slice none 0 0)).other (b':=B) (i:=1) (by omega) (.slice none 0 0)).set 0 (.int .i64 n)).other (b':=B+2) (i:=0) (by omega) (.int .i64 a)).alloc (.cells #[.int .i64 n,.int .i64 a] 105)).drew
 ·exact(((((ka.other (b':=B) (i:=0) (by omega) (.slice none 0 0)).other (b':=B) (i:=1) (by omega) (.slice none 0 0)).other (b':=B+1) (i:=0) (by omega) (.int .i64 n)).set 0 (.int .i64 a)).alloc (.cells #[.int .i64 n,.int .i64 a] 105)).drew
theorem adB(B:Nat)(n a x y:Int)(older:List PanicEntry)(w:World)(hB:B+2<w.heap.size)(kg:aj w B #[.slice none 0 0,.slice none 0 0] 75)(ke:aj w (B+1) #[.int .i64 x] 24)(ka:aj w (B+2) #[.int .i64 y] 3):
  CallsD prog 32 #[.pointer (some ⟨B,0,none⟩),.pointer (some ⟨B+1,0,none⟩),.pointer (some ⟨B+2,0,none⟩)] (.panicking ({ v:=.iface 105 (.agg #[.int .i64 n,.int .i64 a]),recovered:=false }::older)) w fun e u' w'=>
   e=.returned (.tuple #[])/\u'=.panicking ({ v:=.iface 105 (.agg #[.int .i64 n,.int .i64 a]),recovered:=true }::older)/\Below B w w'/\aj w' B #[.slice none 0 0,.slice none 0 0] 75/\aj w' (B+1) #[.int .i64 n] 24/\aj w' (B+2) #[.int .i64 a] 3:=by
 refine callsD_of_wpS func32 rfl fun c₀ cs hu=>?_
 apply wpS_seq;apply wpS_region;simp[wpOpsS,go_sem,recoverD,hu,ntmps32,Exit.thenS];refine wpS_of_wp ?_
 go_wp2_with (go_at_call 33;refine(ad5 n a _).mono ?_;rintro e w1⟨rfl,hb⟩)
 have G:=DT hb none;have Au:=kg.grown G (by simp);have CK:=ke.grown G (by simp);have CO:=ka.grown G (by simp);have g0:w1.cell? ⟨B,0,none⟩=some (.slice none 0 0):=Au.cell 0;have g1:w1.cell? ⟨B,1,none⟩=some (.slice none 0 0):=Au.cell 1;have e0:w1.cell? ⟨B+1,0,none⟩=some (.int .i64 x):=CK.cell 0;have a0:w1.cell? ⟨B+2,0,none⟩=some (.int .i64 y):=CO.cell 0;have fg:∀i,w1.frozen? ⟨B,i,none⟩=false:=Au.frozen;have fe:∀i,w1.frozen? ⟨B+1,i,none⟩=false:=CK.frozen;have fa:∀i,w1.frozen? ⟨B+2,i,none⟩=false:=CO.frozen;have hs:w.heap.size<=w1.heap.size:=hb.size;have hs0:B<w1.heap.size:=by omega
 have hs1:B+1<w1.heap.size:=by omega
 have hs2:B+2<w1.heap.size:=by omega
 go_region
 all_goals
  exact⟨rfl,_,rfl,.tuple #[],results_none rfl _ _ _,rfl,rfl,aeu n a x y hb hB Au CK CO⟩
theorem U7(g e a:Addr)(w:World):
  CallsD prog 32 #[.pointer (some g),.pointer (some e),.pointer (some a)] .returning w fun e u' w'=>e=.returned (.tuple #[])/\u'=.returning/\w'=w:=by
 refine callsD_of_wpS func32 rfl fun c₀ cs hu=>?_
 apply wpS_seq;apply wpS_region;simp[wpOpsS,go_sem,recoverD,hu,ntmps32,Exit.thenS];refine wpS_of_wp ?_;go_wp2_with fail;cases c₀;simp only at hu;subst hu;refine⟨rfl,_,rfl,.tuple #[],results_none rfl _ _ _,rfl,rfl,rfl⟩
end
section
open Go.RowKit
open Lx (Tk)
open Tr
namespace Lx
theorem extract_size(s:ByteArray)(i j:Nat):(s.extract i j).size<=s.size:=by
 rw[ByteArray.size_extract];omega
theorem Xc(s:ByteArray):∀(f i:Nat)(t:Tk),t∈mF s f i->t.1.size<=s.size
 |0,i,t,h=>by
  simp only[mF,List.mem_singleton]at h;subst h;exact Nat.zero_le _
 |f+1,i,t,h=>by
  simp only[mF]at h
  split at h
  ·rcases List.mem_cons.1 h with rfl | h
   ·exact extract_size _ _ _
   ·exact Xc s f _ t h
  ·simp only[List.mem_singleton]at h;subst h;exact Nat.zero_le _
theorem YJ(s:ByteArray)(t:Tk)(h:t∈lex s):t.1.size<=s.size:=Xc s _ _ t h
theorem aik(s:ByteArray):(lex s).length<=s.size+1:=F3 s _
end Lx
theorem Rd.start{s:ByteArray}{B:Nat}{w1:World}{v:Value}(hs:s.size<=2000)(h:w1.ownsRow B 115 2 v (Lx.lex s).length (pJ (Lx.lex s))):
  ∃sb cap,v=.slice (some ⟨sb,0,none⟩) (Lx.lex s).length cap/\B<=sb/\sb<w1.heap.size/\Rd sb cap (Lx.lex s) w1.heap.size (w1.alloc (.cells #[v,.int .i64 0] 112)) (Lx.lex s) 0:=by
 have hwf:=Lx.lex_wf s;have hne:=hwf.ne;obtain⟨g,cap,hv,hb,hlt⟩:=h.form hne;subst hv;have hcap:(Lx.lex s).length<=cap:=by
  rcases h.2 with ⟨h0,_⟩|⟨g',cap',cur,hv,_,_,hle,_⟩
  ·cases h0
  ·cases hv;exact hle
 have kN:=aj.new w1 #[.slice (some ⟨g,0,none⟩) (Lx.lex s).length cap,.int .i64 0] 112;refine⟨g,cap,rfl,hb,hlt,?_⟩;refine⟨hwf,⟨[],rfl⟩,hcap,?_,kN.cell 1,kN.frozen 0,kN.frozen 1,?_,by omega,fun t ht=>Nat.le_trans (YJ s t ht) hs,by have:=aik s;omega⟩
 ·rw[show (Lx.lex s).length - (Lx.lex s).length=0 by omega];exact kN.cell 0
 ·intro j t hj
  obtain⟨h1,h2⟩:=NG _ j t hj;have c1:=h.cells (g:=g) rfl (j*2) _ h1;have c2:=h.cells (g:=g) rfl (j*2+1) _ h2;have hadd:∀k,(⟨g,0,none⟩:Addr).add k=⟨g,k,none⟩:=fun k=>by unfold Addr.add;split <;> simp_all
  rw[hadd]at c1 c2;have hold:∀k,(w1.alloc (.cells #[.slice (some ⟨g,0,none⟩) (Lx.lex s).length cap,.int .i64 0] 112)).cell? ⟨g,k,none⟩=w1.cell? ⟨g,k,none⟩:=fun k=>World.cell?_of_block (w:=w1) (Below.heap_alloc _ _ _ hlt)
  rw[hold,hold];exact⟨c1,c2⟩
def wS(w:World)(s:ByteArray)(e:Ending)(w':World):Prop :=
 Below w.heap.size w w' /\
  match Lx.parse s with
  |.ok g=>∃vl vr,e=.returned (.tuple #[.agg #[vl,vr],.int .i64 0,.int .i64 0])/\zX (In w.heap.size w'.heap.size) w' vl vr g
  | .error (n,a)=>e=.returned (.tuple #[.agg #[.slice none 0 0,.slice none 0 0],.int .i64 (n:Int),.int .i64 (a:Int)])
theorem wS.yes{w w':World}{s:ByteArray}{g:Lx.Gr}{vl vr:Value}(hr:Lx.parse s=.ok g)(hb:Below w.heap.size w w')(hg:zX (In w.heap.size w'.heap.size) w' vl vr g):
  wS w s (.returned (.tuple #[.agg #[vl,vr],.int .i64 0,.int .i64 0])) w':=by
 unfold wS;rw[hr];exact⟨hb,vl,vr,rfl,hg⟩
theorem wS.no{w w':World}{s:ByteArray}{n a:Nat}(hr:Lx.parse s=.error (n,a))(hb:Below w.heap.size w w'):
  wS w s (.returned (.tuple #[.agg #[.slice none 0 0,.slice none 0 0],.int .i64 (n:Int),.int .i64 (a:Int)])) w':=by
 unfold wS;rw[hr];exact⟨hb,rfl⟩
theorem afU(s:ByteArray)(w:World)(hmax:s.size<=maxLen):Calls prog 20 #[.string s] w (wS w s):=by
 unfold maxLen at hmax;have sZ:∀(fn:Fn)(first cap:Array Value)(w:World),(Instr.makeFunc fn first cap).run prog w=.ok (.func fn first cap) w:=fun _ _ _ _=>rfl
 by_cases hlong:2000<s.size
 ·have HP:Hid (Lx.parse s=.error (1,0)):=by show _=_;unfold Lx.parse;rw[if_pos hlong]
  go_enter_defers func20,ntmps20
  go_wp2
  refine leaves_cons (f:=32) (args:=#[.pointer (some ⟨w.heap.size,0,none⟩),.pointer (some ⟨w.heap.size+1,0,none⟩),.pointer (some ⟨w.heap.size+2,0,none⟩)]) (by simp) (by simp[go_sem]) ?_;refine(U7 _ _ _ _).mono ?_;rintro e u' w''⟨rfl,rfl,rfl⟩;refine⟨.tuple #[.agg #[.slice none 0 0,.slice none 0 0],.int .i64 1,.int .i64 0],by simp[results,results20,go_sem],?_⟩;exact wS.no HP.out ((((Below.refl _ _).alloc (zL0) _).alloc (by simp) _).alloc (by simp;omega) _)
 ·have hs:s.size<=2000:=by omega
  have hw3:(((w.alloc (.cells #[.slice none 0 0,.slice none 0 0] 75)).alloc (.cells #[.int .i64 0] 24)).alloc (.cells #[.int .i64 0] 3)).heap.size=w.heap.size+3:=by simp
  have kg:=((aj.new w #[.slice none 0 0,.slice none 0 0] 75).alloc (.cells #[.int .i64 0] 24)).alloc (.cells #[.int .i64 0] 3);have ke:=(aj.new (w.alloc (.cells #[.slice none 0 0,.slice none 0 0] 75)) #[.int .i64 0] 24).alloc (.cells #[.int .i64 0] 3);have ka:=aj.new ((w.alloc (.cells #[.slice none 0 0,.slice none 0 0] 75)).alloc (.cells #[.int .i64 0] 24)) #[.int .i64 0] 3;rw[show (w.alloc (.cells #[.slice none 0 0,.slice none 0 0] 75)).heap.size=w.heap.size+1 by simp]at ke;rw[show ((w.alloc (.cells #[.slice none 0 0,.slice none 0 0] 75)).alloc (.cells #[.int .i64 0] 24)).heap.size=w.heap.size+2 by simp]at ka;have b0:Below w.heap.size w (((w.alloc (.cells #[.slice none 0 0,.slice none 0 0] 75)).alloc (.cells #[.int .i64 0] 24)).alloc (.cells #[.int .i64 0] 3)):=(((Below.refl _ _).alloc (zL0) _).alloc (by simp) _).alloc (by simp;omega) _
  go_enter_defers func20,ntmps20
  go_wp2_with fail;refine(XO s _ hs).mono ?_;rintro e w1⟨v,rfl,hown,hb⟩;rw[hw3]at hown hb;have hRd:=Rd.start hs hown;obtain⟨sb,cap,rfl,hsb,amg,hrd⟩:=hRd;have b1:=b0.trans (hb.mono (by omega));have Au:aj w1 w.heap.size #[.slice none 0 0,.slice none 0 0] 75:=(hb.block _ (by omega)).trans kg;have CK:aj w1 (w.heap.size+1) #[.int .i64 0] 24:=(hb.block _ (by omega)).trans ke;have CO:aj w1 (w.heap.size+2) #[.int .i64 0] 3:=(hb.block _ (by omega)).trans ka;have s1:w.heap.size+3<=w1.heap.size:=by omega
  clear kg ke ka hown hb hw3;go_wp2_with fail;refine(ae8 sb cap _ w1.heap.size _ _ hrd).mono ?_;intro e w2 he;have b2:=b1.alloc (by omega) (.cells #[.slice (some ⟨sb,0,none⟩) (Lx.lex s).length cap,.int .i64 0] 112);have hsz:(w1.alloc (.cells #[.slice (some ⟨sb,0,none⟩) (Lx.lex s).length cap,.int .i64 0] 112)).heap.size=w1.heap.size+1:=by simp
  cases hpg:gQ (Lx.lex s) with
  |error x=>
   obtain⟨n,a⟩:=x;obtain⟨rfl,hg⟩:=he.err hpg;have HP:Hid (Lx.parse s=.error (n,a)):=by show _=_;unfold Lx.parse;rw[if_neg hlong,hpg]
   have b3:=b2.grown hg (by rw[hsz];omega) (fun k hk=>by cases hk;omega);have xC:=(Au.alloc _).grown hg (by simp;omega);have xD:=(CK.alloc _).grown hg (by simp;omega);have Ie:=(CO.alloc _).grown hg (by simp;omega);have hs2:=hg.size;rw[hsz]at hs2;clear hpg he;refine leaves_cons (f:=32) (args:=#[.pointer (some ⟨w.heap.size,0,none⟩),.pointer (some ⟨w.heap.size+1,0,none⟩),.pointer (some ⟨w.heap.size+2,0,none⟩)]) (by simp) (by simp[go_sem]) ?_;refine(adB w.heap.size n a 0 0 [] w2 (by omega) xC xD Ie).mono ?_;rintro e u' w3⟨rfl,rfl,hb3,kg3,yU,ka3⟩;have g0:w3.cell? ⟨w.heap.size,0,none⟩=some (.slice none 0 0):=kg3.cell 0;have g1:w3.cell? ⟨w.heap.size,1,none⟩=some (.slice none 0 0):=kg3.cell 1;have e0:w3.cell? ⟨w.heap.size+1,0,none⟩=some (.int .i64 n):=yU.cell 0;have a0:w3.cell? ⟨w.heap.size+2,0,none⟩=some (.int .i64 a):=ka3.cell 0;have e0':w3.cell? ⟨w.heap.size+1+1,0,none⟩=some (.int .i64 a):=ka3.cell 0;refine⟨.tuple #[.agg #[.slice none 0 0,.slice none 0 0],.int .i64 n,.int .i64 a],by simp[results,results20,go_sem,g0,g1,e0,a0],?_⟩;exact wS.no HP.out (b3.trans hb3)
  |ok x=>
   obtain⟨g,ts'⟩:=x;obtain⟨v,rfl,hg,GI,vl,vr,rfl,hG⟩:=he.ok hpg;have HP:Hid (Lx.parse s=.ok g):=by show _=_;unfold Lx.parse;rw[if_neg hlong,hpg]
   obtain⟨la,lk,lc,rfl⟩:=Seq.form hG.1;obtain⟨ra,rk,rc,rfl⟩:=dW.form hG.2;have b3:=b2.grown hg (by rw[hsz];omega) (fun k hk=>by cases hk;omega);have xC:=(Au.alloc _).grown hg (by simp;omega);have xD:=(CK.alloc _).grown hg (by simp;omega);have Ie:=(CO.alloc _).grown hg (by simp;omega);have g0:w2.cell? ⟨w.heap.size,0,none⟩=some (.slice none 0 0):=xC.cell 0;have g1:w2.cell? ⟨w.heap.size,1,none⟩=some (.slice none 0 0):=xC.cell 1;have e0:w2.cell? ⟨w.heap.size+1,0,none⟩=some (.int .i64 0):=xD.cell 0;have a0:w2.cell? ⟨w.heap.size+2,0,none⟩=some (.int .i64 0):=Ie.cell 0;have fg:∀i,w2.frozen? ⟨w.heap.size,i,none⟩=false:=xC.frozen;have fe:∀i,w2.frozen? ⟨w.heap.size+1,i,none⟩=false:=xD.frozen;have fa:∀i,w2.frozen? ⟨w.heap.size+2,i,none⟩=false:=Ie.frozen;rw[hsz]at hG;clear hpg he hrd GI Au CK CO xC xD Ie;go_wp2_with fail;refine leaves_cons (f:=32) (args:=#[.pointer (some ⟨w.heap.size,0,none⟩),.pointer (some ⟨w.heap.size+1,0,none⟩),.pointer (some ⟨w.heap.size+2,0,none⟩)]) (by simp) (by simp[go_sem]) ?_;refine(U7 _ _ _ _).mono ?_;rintro e u' w''⟨rfl,rfl,rfl⟩;refine⟨.tuple #[.agg #[.slice la lk lc,.slice ra rk rc],.int .i64 0,.int .i64 0],by simp[results,results20,go_sem,g0,g1,e0,a0],?_⟩;refine wS.yes HP.out ((((b3.setCell (zL0) _).setCell (zL0) _).setCell (by simp) _).setCell (by simp;omega) _) ?_;refine hG.move (fun b hb=>?_) (fun b hb=>?_)
   ·have h1:=hb.1
    rw[zS0 (fun e=>by have e':b=w.heap.size+1+1:=e;omega),zS0 (fun e=>by have e':b=w.heap.size+1:=e;omega),zS0 (fun e=>by have e':b=w.heap.size:=e;omega),zS0 (fun e=>by have e':b=w.heap.size:=e;omega)]
   ·have h1:=hb.1
    have h2:=hb.2;exact⟨by omega,by simpa [World.setCell]using h2⟩
end
section
open Go.RowKit
open Lx (Tk)
open Tr
namespace Lx
theorem ag5{s:ByteArray}{g:Gr}(h:parse s=.ok g):s.size<=2000/\∃ts',gQ (lex s)=.ok (g,ts'):=by
 unfold parse at h
 split at h
 ·cases h
 ·rename_i hs
  cases hr:gQ (lex s) with
  |error e=>rw[hr]at h;cases h
  |ok x=>
   obtain⟨g',ts'⟩:=x;rw[hr]at h;cases h;exact⟨by omega,ts',rfl⟩
end Lx
end
section
open Go.RowKit
open Lx (Tk)
open Tr
namespace Lx
theorem U8:∀(f:Nat)(ts:List Tk)(acc l:List Rl)(ts':List Tk),ts.length<=f->iC f ts acc=.ok (l,ts')->hd ts'=aL
 |0,ts,acc,l,ts',hl,h=>by
  simp only[iC,Except.ok.injEq,Prod.mk.injEq]at h;cases ts with
  |nil=>rw[<-h.2];rfl
  |cons t r=>simp at hl
 |f+1,ts,acc,l,ts',hl,h=>by
  simp only[iC]at h
  split at h
  ·rename_i h0
   simp only[Except.ok.injEq,Prod.mk.injEq]at h;rw[<-h.2];exact h0
  ·rename_i h0
   cases hr:dF ts with
   |error e=>rw[hr]at h;cases h
   |ok y=>
    obtain⟨x,aB⟩:=y;rw[hr]at h;have h1:=F5 hr;have h2:ts.tail.length+1<=ts.length:=by
     cases ts with
     |nil=>exact absurd rfl h0
     |cons t r=>simp
    exact U8 f aB _ l ts' (by omega) h
theorem ad6{ts ts':List Tk}{g:Gr}(h:gQ ts=.ok (g,ts')):hd ts'=aL:=by
 unfold gQ at h;cases h1:fI ts.length ts [] with
 |error e=>rw[h1]at h;cases h
 |ok y=>
  obtain⟨lv,aB⟩:=y;rw[h1]at h;simp only at h;cases h2:dF aB with
  |error e=>rw[h2]at h;cases h
  |ok y=>
   obtain⟨x,bL⟩:=y;rw[h2]at h;simp only at h;cases h3:iC bL.length bL [x] with
   |error e=>rw[h3]at h;cases h
   |ok y=>
    obtain⟨l,eF⟩:=y;rw[h3]at h;simp only[Except.ok.injEq,Prod.mk.injEq]at h;rw[<-h.2];exact U8 _ _ _ _ _ (zL0) h3
end Lx
end
namespace Lx
section
variable (k:Nat)
variable {k}
end
abbrev Wd:=Nat×ByteArray×Nat
def wV(il:Bool)(t:Tk):Bool:=if isName t.1=true then false else il
def qF(aM:ByteArray)(il:Bool)(t:Tk)(nx:ByteArray):List Wd :=
 if isName t.1=true then [(if nx=kD then 1 else 2,t.1,t.2)]
 else if isToken t.1=true then [(if il=true then 0 else if aM=iX then 4 else 3,t.1,t.2)]
 else []
def wl:ByteArray->Bool->List Tk->List Wd
 |_,_,[]=>[]
 |aM,il,t::ts=>qF aM il t (hd ts)++wl t.1 (wV il t) ts
def dw:Nat->List Alt->List Wd
 |0,_=>[]
 |d+1,l=>l.flatMap fun a=>(a.1.flatMap fun x=>(if x.kind=0 then [(2,x.name,x.place)] else if x.kind=1 then [(3,x.name,x.place)] else [])++dw d x.alts)++(if a.2.1=aL then [] else [(4,a.2.1,a.2.2)])
def jX(d:Nat)(x:It):List Wd:=(if x.kind=0 then [(2,x.name,x.place)] else if x.kind=1 then [(3,x.name,x.place)] else [])++dw d x.alts
def qy(d:Nat)(a:Alt):List Wd:=a.1.flatMap (jX d)++(if a.2.1=aL then [] else [(4,a.2.1,a.2.2)])
theorem V4:∀d,dw d []=[]
 |0=>rfl
 |_+1=>rfl
theorem FW(d:Nat)(l:List Alt):dw (d+1) l=l.flatMap (qy d):=rfl
def iE(g:Gr):List Wd:=(g.levels.flatMap fun lv=>lv.tokens.map fun t=>(0,t.1,t.2))++g.rules.flatMap fun r=>(1,r.name,r.place)::dw 9 r.alts
def Pass{α:Type}(fl:α->List Wd)(f:List Tk->aX α):Prop:=∀ts x ts',WF ts->f ts=.ok (x,ts')->WF ts'/\(hd ts'≠kD->∀aM,aM≠iX->∃j4,j4≠iX/\wl aM false ts=fl x++wl j4 false ts')
theorem zR{ts:List Tk}(h:WF ts)(aM:ByteArray)(il:Bool):wl aM il ts=qF aM il (hd ts,pl ts) (hd ts.tail)++wl (hd ts) (wV il (hd ts,pl ts)) ts.tail:=by
 cases ts with
 |nil=>exact h.elim
 |cons t r=>rfl
theorem PI{t:ByteArray}{p:Nat}{nx aM:ByteArray}{il:Bool}(h1:isName t=false)(h2:isToken t=false):qF aM il (t,p) nx=[]:=by
 unfold qF;simp only[h1,h2];rfl
theorem BO{t:ByteArray}{p:Nat}(h1:isName t=false)(il:Bool):wV il (t,p)=il:=by
 unfold wV;simp only[h1];rfl
theorem yx{ts:List Tk}(h:WF ts){b:ByteArray}(hb:hd ts=b)(h1:isName b=false)(h2:isToken b=false)(aM:ByteArray)(il:Bool):wl aM il ts=wl b il ts.tail:=by
 rw[zR h,hb,PI h1 h2,BO h1];rfl
theorem Ki{b:ByteArray}(hn:b≠aL)(h1:isName b=false)(h2:isToken b=false){ts ts':List Tk}{u:Unit}(hw:WF ts)(h:gF b ts=.ok (u,ts'))(aM:ByteArray)(il:Bool):WF ts'/\wl aM il ts=wl b il ts':=by
 obtain⟨e1,e2⟩:=wR h;subst e1;exact⟨hw.tail (by rw[e2];exact hn),yx hw e2 h1 h2 aM il⟩
theorem Ed{ts:List Tk}(hw:WF ts){aM:ByteArray}(hb:aM≠iX):WF (bS ts).2/\∃j4,j4≠iX/\wl aM false ts=wl j4 false (bS ts).2:=by
 unfold bS
 split
 ·rename_i h;exact⟨hw.tail (by rw[h];decide),_,by decide,yx hw h (by decide) (by decide) aM false⟩
 ·split
  ·rename_i h;exact⟨hw.tail (by rw[h];decide),_,by decide,yx hw h (by decide) (by decide) aM false⟩
  ·split
   ·rename_i h;exact⟨hw.tail (by rw[h];decide),_,by decide,yx hw h (by decide) (by decide) aM false⟩
   ·exact⟨hw,aM,hb,rfl⟩
theorem ag6{ts:List Tk}(h:hd (bS ts).2≠kD):hd ts≠kD:=by
 unfold bS at h
 split at h
 ·rename_i h1;rw[h1];decide
 ·split at h
  ·rename_i h1;rw[h1];decide
  ·split at h
   ·rename_i h1;rw[h1];decide
   ·exact h
theorem zS{k:ByteArray->Bool}(h0:k aL=false){t:ByteArray}(h:k t=true):t≠aL:=fun e=>by rw[e,h0]at h;cases h
theorem afV{t:ByteArray}(h:isName t=true):t≠iX:=fun e=>by rw[e]at h;exact absurd h (by decide)
theorem Xd{t:ByteArray}(h:isToken t=true):t≠iX:=fun e=>by rw[e]at h;exact absurd h (by decide)
theorem yt{t:ByteArray}(h:isToken t=true):isName t=false:=by
 unfold isToken isWord at h;simp only[Bool.and_eq_true]at h;have hc:=h.1.2;unfold isName isWord;have:small (bW t 0)=false:=by
  unfold capital at hc;unfold small;have:=of_decide_eq_true hc;exact decide_eq_false (by omega)
 simp[this]
theorem U9{d:Nat}{aI:List Tk->aX (List Alt)}(hg:∀ts x ts',WF ts->hd ts=jg->aI ts=.ok (x,ts')->WF ts'/\∀aM,∃j4,j4≠iX/\wl aM false ts=dw d x++wl j4 false ts'):Pass (jX d) (cO aI):=fun ts x ts' hw h=>by
 rw[ag0]at h
 split at h
 ·rename_i ho
  obtain⟨al,t1,h1,h2⟩:=mX h;cases h2;obtain⟨w1,k1⟩:=hg _ _ _ hw ho h1;refine⟨(Ed w1 (aM:=aL) (by decide)).1,fun _ aM hb=>?_⟩;obtain⟨b1,n1,e1⟩:=k1 aM;obtain⟨_,b2,n2,e2⟩:=Ed w1 n1;refine⟨b2,n2,?_⟩;rw[e1,e2];simp only[jX,List.append_assoc];rfl
 ·split at h
  ·rename_i ho hnm
   cases h;have wt:=hw.tail (zS (by decide) hnm);refine⟨(Ed wt (aM:=aL) (by decide)).1,fun he aM hb=>?_⟩;obtain⟨_,b2,n2,e2⟩:=Ed wt (afV hnm);refine⟨b2,n2,?_⟩;rw[zR hw,show wV false (hd ts,pl ts)=false by unfold wV;split <;> rfl,e2];unfold qF jX;simp only[hnm,if_true,if_neg (ag6 he),V4,List.append_nil]
  ·split at h
   ·rename_i ho hnm htk
    cases h;have wt:=hw.tail (zS (by decide) htk);refine⟨(Ed wt (aM:=aL) (by decide)).1,fun he aM hb=>?_⟩;obtain⟨_,b2,n2,e2⟩:=Ed wt (Xd htk);refine⟨b2,n2,?_⟩;rw[zR hw,BO (yt htk),e2];unfold qF jX;simp only[yt htk,htk,if_true,if_neg hb,V4,List.append_nil];simp
   ·cases h
theorem ail{ts:List Tk}(h:jU ts=true):hd ts≠kD:=by
 intro e;unfold jU at h;rw[e]at h;exact absurd h (by decide)
theorem Uw{d:Nat}{aI:List Tk->aX (List Alt)}(hp:Pass (jX d) (cO aI))(hl:∀ts x ts',aI ts=.ok (x,ts')->ts'.length<=ts.tail.length):∀(f:Nat)(ts:List Tk)(a x:List It)(ts':List Tk),WF ts->ts.length<=f->dM aI f ts a=.ok (x,ts')->WF ts'/\∃y,x=a++y/\(hd ts'≠kD->hd ts≠kD/\∀aM,aM≠iX->∃j4,j4≠iX/\wl aM false ts=y.flatMap (jX d)++wl j4 false ts')
 |0,ts,a,x,ts',hw,hf,h=>by have:=hw.ne;omega
 |f+1,ts,a,x,ts',hw,hf,h=>by
  rw[afR]at h
  split at h
  ·rename_i hs
   obtain⟨z,t1,h1,h2⟩:=mX h;obtain⟨w1,k1⟩:=hp _ _ _ hw h1;have hlen:=D8 hl h1;have htl:=hw.mD;obtain⟨w2,y,e1,k2⟩:=Uw hp hl f t1 _ x ts' w1 (by omega) h2;refine⟨w2,z::y,by rw[e1];simp,fun he=>⟨ail hs,fun aM hb=>?_⟩⟩;obtain⟨n1,k3⟩:=k2 he;obtain⟨b1,hb1,e2⟩:=k1 n1 aM hb;obtain⟨b2,hb2,e3⟩:=k3 b1 hb1;exact⟨b2,hb2,by rw[e2,e3,List.flatMap_cons,List.append_assoc]⟩
  ·cases h
   exact⟨hw,[],by simp,fun he=>⟨he,fun aM hb=>⟨aM,hb,rfl⟩⟩⟩
theorem ae9(top:Bool)(a:List It){ts ts':List Tk}{x:Alt}(hw:WF ts)(h:mG top a ts=.ok (x,ts')):WF ts'/\x.1=a/\(hd ts'≠kD->hd ts≠kD)/\∀aM,aM≠iX->∃j4,j4≠iX/\wl aM false ts=(if x.2.1=aL then [] else [(4,x.2.1,x.2.2)])++wl j4 false ts':=by
 rw[ag1]at h
 split at h
 ·rename_i hc
  obtain⟨b,t1,h1,h2⟩:=mX h;cases h2;obtain⟨e1,e2,e3⟩:=mW h1;have wt:=hw.tail (by rw[hc.2];decide);subst e1 e2;refine⟨wt.tail (zS (by decide) e3),rfl,fun _=>by rw[hc.2];decide,fun aM hb=>⟨hd ts.tail,Xd e3,?_⟩⟩;rw[yx hw hc.2 (by decide) (by decide),zR wt,BO (yt e3)];rw[if_neg (zS (by decide) e3)];unfold qF;simp only[yt e3,e3,if_true];simp
 ·cases h
  exact⟨hw,rfl,fun h=>h,fun aM hb=>⟨aM,hb,by simp⟩⟩
theorem V5{d:Nat}{aI:List Tk->aX (List Alt)}(hp:Pass (jX d) (cO aI))(hl:∀ts x ts',aI ts=.ok (x,ts')->ts'.length<=ts.tail.length)(top:Bool):Pass (qy d) (dG aI top):=fun ts x ts' hw h=>by
 rw[aif]at h;obtain⟨y,t1,h1,h2⟩:=mX h;obtain⟨w1,z,e1,k1⟩:=Uw hp hl _ _ _ _ _ hw (zL0) h1;obtain⟨w2,e2,n2,k2⟩:=ae9 top _ w1 h2;refine⟨w2,fun he aM hb=>?_⟩;obtain⟨_,k3⟩:=k1 (n2 he);obtain⟨b1,hb1,q1⟩:=k3 aM hb;obtain⟨b2,hb2,q2⟩:=k2 b1 hb1;refine⟨b2,hb2,?_⟩;rw[q1,q2];unfold qy;rw[e2,e1,List.nil_append,List.append_assoc]
theorem Va{d:Nat}{aI:List Tk->aX (List Alt)}(hp:Pass (jX d) (cO aI))(hl:∀ts x ts',aI ts=.ok (x,ts')->ts'.length<=ts.tail.length)(top:Bool):∀(f:Nat)(ts:List Tk)(a x:List Alt)(ts':List Tk),WF ts->ts.length<=f->jh aI top f ts a=.ok (x,ts')->WF ts'/\∃y,x=a++y/\(hd ts'≠kD->hd ts≠kD/\∀aM,aM≠iX->∃j4,j4≠iX/\wl aM false ts=y.flatMap (qy d)++wl j4 false ts')
 |0,ts,a,x,ts',hw,hf,h=>by have:=hw.ne;omega
 |f+1,ts,a,x,ts',hw,hf,h=>by
  rw[ag2]at h
  split at h
  ·rename_i hs
   obtain⟨z,t1,h1,h2⟩:=mX h;have wt:=hw.tail (by rw[hs];decide);obtain⟨w1,k1⟩:=V5 hp hl top _ _ _ wt h1;have hlen:=BK hl h1;have htl:=hw.mD;obtain⟨w2,y,e1,k2⟩:=Va hp hl top f t1 _ x ts' w1 (by omega) h2;refine⟨w2,z::y,by rw[e1];simp,fun he=>⟨by rw[hs];decide,fun aM hb=>?_⟩⟩;obtain⟨n1,k3⟩:=k2 he;obtain⟨b1,hb1,e2⟩:=k1 n1 sD (by decide);obtain⟨b2,hb2,e3⟩:=k3 b1 hb1;refine⟨b2,hb2,?_⟩;rw[yx hw hs (by decide) (by decide),e2,e3,List.flatMap_cons,List.append_assoc]
  ·cases h
   exact⟨hw,[],by simp,fun he=>⟨he,fun aM hb=>⟨aM,hb,rfl⟩⟩⟩
theorem TS{d:Nat}{aI:List Tk->aX (List Alt)}(hp:Pass (jX d) (cO aI))(hl:∀ts x ts',aI ts=.ok (x,ts')->ts'.length<=ts.tail.length)(top:Bool):Pass (dw (d+1)) (ou aI top):=fun ts x ts' hw h=>by
 rw[ae5]at h;obtain⟨y,t1,h1,h2⟩:=mX h;obtain⟨w1,k1⟩:=V5 hp hl top _ _ _ hw h1;obtain⟨w2,z,e1,k2⟩:=Va hp hl top _ _ _ _ _ w1 (zL0) h2;refine⟨w2,fun he aM hb=>?_⟩;obtain⟨n1,k3⟩:=k2 he;obtain⟨b1,hb1,q1⟩:=k1 n1 aM hb;obtain⟨b2,hb2,q2⟩:=k3 b1 hb1;refine⟨b2,hb2,?_⟩;rw[q1,q2,e1,FW,List.flatMap_append,List.flatMap_cons,List.flatMap_nil,List.append_nil,List.append_assoc]
theorem aev{d:Nat}{r:List Tk->aX (List Alt)}(hr:Pass (dw d) r)(ts:List Tk)(x:List Alt)(ts':List Tk)(hw:WF ts)(ho:hd ts=jg)(h:nJ r ts=.ok (x,ts')):WF ts'/\∀aM,∃j4,j4≠iX/\wl aM false ts=dw d x++wl j4 false ts':=by
 rw[afS]at h;obtain⟨y,t1,h1,h2⟩:=mX h;obtain⟨u,t2,h3,h4⟩:=mX h2;cases h4;obtain⟨w1,k1⟩:=hr _ _ _ (hw.tail (by rw[ho];decide)) h1;have e3:=(wR h3).2;obtain⟨w2,k2⟩:=Ki (by decide) (by decide) (by decide) w1 h3 aL false;refine⟨w2,fun aM=>?_⟩;obtain⟨b1,hb1,q1⟩:=k1 (by rw[e3];decide) jg (by decide);refine⟨r9,by decide,?_⟩;rw[yx hw ho (by decide) (by decide),q1,(Ki (by decide) (by decide) (by decide) w1 h3 b1 false).2]
theorem Vb:∀d,Pass (dw (d+1)) (iP d)
 |0=>TS (aI:=fun ts=>.error (3,pl ts)) (U9 (fun _ _ _ _ _ h=>by cases h)) (fun _ _ _ h=>by cases h) false
 |d+1=>TS (U9 (aev (Vb d))) (NS (J3 d)) (d == 7)
theorem Vd{ts ts':List Tk}{x:Rl}(hw:WF ts)(h:dF ts=.ok (x,ts')):WF ts'/\∀aM il,wl aM il ts=(1,x.name,x.place)::dw 9 x.alts++wl iq false ts':=by
 rw[ag3]at h;obtain⟨n,t1,h1,h2⟩:=mX h;obtain⟨_,t2,h3,h4⟩:=mX h2;obtain⟨l,t3,h5,h6⟩:=mX h4;obtain⟨_,t4,h7,h8⟩:=mX h6;cases h8;obtain⟨e1,e2,e3⟩:=mW h1;subst e1 e2;have wt:=hw.tail (zS (by decide) e3);have heq:=(wR h3).2;obtain⟨w2,k2⟩:=Ki (by decide) (by decide) (by decide) wt h3 (hd ts) false;obtain⟨w3,k3⟩:=Vb 8 _ _ _ w2 h5;have hsm:=(wR h7).2;obtain⟨b1,hb1,q1⟩:=k3 (by rw[hsm];decide) kD (by decide);obtain⟨w4,k4⟩:=Ki (by decide) (by decide) (by decide) w3 h7 b1 false;refine⟨w4,fun aM il=>?_⟩;rw[zR hw,show wV il (hd ts,pl ts)=false by unfold wV;rw[if_pos e3],k2,q1,k4];unfold qF;simp only[e3,if_true,heq];simp
theorem TT:∀(f:Nat)(ts a x ts':List Tk),WF ts->ts.length<=f->iM f ts a=.ok (x,ts')->WF ts'/\∃y,x=a++y/\∀aM,wl aM true ts=y.map (fun t=>(0,t.1,t.2))++wl iq true ts'
 |0,ts,a,x,ts',hw,hf,h=>by have:=hw.ne;omega
 |f+1,ts,a,x,ts',hw,hf,h=>by
  rw[ae6]at h
  split at h
  ·rename_i hs
   cases h;exact⟨hw.tail (by rw[hs];decide),[],by simp,fun aM=>by rw[yx hw hs (by decide) (by decide)];rfl⟩
  ·obtain⟨b,t1,h1,h2⟩:=mX h
   obtain⟨e1,e2,e3⟩:=mW h1;subst e1 e2;have wt:=hw.tail (zS (by decide) e3);have htl:=hw.mD;obtain⟨w2,y,q1,q2⟩:=TT f ts.tail _ x ts' wt (by omega) h2;refine⟨w2,(hd ts,pl ts)::y,by rw[q1];simp,fun aM=>?_⟩;rw[zR hw,BO (yt e3),q2];unfold qF;simp only[yt e3,e3,if_true];simp
theorem aew{ts ts':List Tk}{x:Lv}(hw:WF ts)(hk:0<=fF (hd ts))(h:gJ ts=.ok (x,ts')):WF ts'/\∀aM,wl aM true ts=x.tokens.map (fun t=>(0,t.1,t.2))++wl iq true ts':=by
 rw[J6]at h;obtain⟨b,t1,h1,h2⟩:=mX h;obtain⟨l,t2,h3,h4⟩:=mX h2;cases h4;have hcase:hd ts=Aa\/hd ts=zW\/hd ts=Ab:=by
  unfold fF at hk
  split at hk
  ·rename_i h;exact .inl h
  ·split at hk
   ·rename_i h;exact .inr (.inl h)
   ·split at hk
    ·rename_i h;exact .inr (.inr h)
    ·exact absurd hk (by decide)
 have hno:isName (hd ts)=false/\isToken (hd ts)=false/\hd ts≠aL:=by
  rcases hcase with e|e|e <;> rw[e] <;> decide
 have wt:=hw.tail hno.2.2;obtain⟨e1,e2,e3⟩:=mW h1;subst e1 e2;have wt2:=wt.tail (zS (by decide) e3);obtain⟨w3,y,q1,q2⟩:=TT _ _ _ _ _ wt2 (zL0) h3;refine⟨w3,fun aM=>?_⟩;rw[yx hw rfl hno.1 hno.2.1,zR wt,BO (yt e3),q2,q1];unfold qF;simp only[yt e3,e3,if_true];simp
theorem TU:∀(f:Nat)(ts:List Tk)(a x:List Lv)(ts':List Tk),WF ts->fI f ts a=.ok (x,ts')->WF ts'/\∃y,x=a++y/\∀aM,∃j4,wl aM true ts=(y.flatMap fun lv=>lv.tokens.map fun t=>(0,t.1,t.2))++wl j4 true ts'
 |0,ts,a,x,ts',hw,h=>by cases h;exact⟨hw,[],by simp,fun aM=>⟨aM,rfl⟩⟩
 |f+1,ts,a,x,ts',hw,h=>by
  rw[ae7]at h
  split at h
  ·rename_i hk
   obtain⟨z,t1,h1,h2⟩:=mX h;obtain⟨w1,k1⟩:=aew hw hk h1;obtain⟨w2,y,e1,k2⟩:=TU f t1 _ x ts' w1 h2;refine⟨w2,z::y,by rw[e1];simp,fun aM=>?_⟩;obtain⟨b2,q2⟩:=k2 iq;exact⟨b2,by rw[k1,q2,List.flatMap_cons,List.append_assoc]⟩
  ·cases h;exact⟨hw,[],by simp,fun aM=>⟨aM,rfl⟩⟩
theorem Ux:∀(f:Nat)(ts:List Tk)(a x:List Rl)(ts':List Tk),WF ts->iC f ts a=.ok (x,ts')->WF ts'/\∃y,x=a++y/\∀aM il,∃j4 il',wl aM il ts=(y.flatMap fun r=>(1,r.name,r.place)::dw 9 r.alts)++wl j4 il' ts'
 |0,ts,a,x,ts',hw,h=>by cases h;exact⟨hw,[],by simp,fun aM il=>⟨aM,il,rfl⟩⟩
 |f+1,ts,a,x,ts',hw,h=>by
  rw[afT]at h
  split at h
  ·cases h;exact⟨hw,[],by simp,fun aM il=>⟨aM,il,rfl⟩⟩
  ·obtain⟨z,t1,h1,h2⟩:=mX h
   obtain⟨w1,k1⟩:=Vd hw h1;obtain⟨w2,y,e1,k2⟩:=Ux f t1 _ x ts' w1 h2;refine⟨w2,z::y,by rw[e1];simp,fun aM il=>?_⟩;obtain⟨b2,il2,q2⟩:=k2 iq false;exact⟨b2,il2,by rw[k1,q2,List.flatMap_cons,List.append_assoc]⟩
theorem NU{s:ByteArray}{g:Gr}(h:parse s=.ok g):wl aL true (lex s)=iE g:=by
 obtain⟨_,ts',hp⟩:=ag5 h;have hend:=ad6 hp;rw[ad4]at hp;obtain⟨lv,t1,h1,h2⟩:=mX hp;obtain⟨x,t2,h3,h4⟩:=mX h2;obtain⟨l,t3,h5,h6⟩:=mX h4;cases h6;obtain⟨w1,y1,e1,k1⟩:=TU _ _ _ _ _ (lex_wf s) h1;obtain⟨w2,k2⟩:=Vd w1 h3;obtain⟨w3,y3,e3,k3⟩:=Ux _ _ _ _ _ w2 h5;obtain⟨b1,q1⟩:=k1 aL;obtain⟨b3,il3,q3⟩:=k3 iq false;have hlast:wl b3 il3 ts'=[]:=by
  rw[zR w3,hend,PI (by decide) (by decide)];have:=w3
  match ts',this,hend with
  | [t],_,_=>rfl
  |t::u::r,h,e=>exact absurd e h.1
 rw[q1,k2,q3,hlast,e1,e3];unfold iE;simp
theorem Xe:∀(ts:List Tk)(aM:ByteArray)(il:Bool)(w:Wd),w∈wl aM il ts->((w.1=1\/w.1=2)/\isName w.2.1=true)\/((w.1=0\/w.1=3\/w.1=4)/\isToken w.2.1=true)
 | [],_,_,_,h=>by cases h
 |t::ts,aM,il,w,h=>by
  rcases List.mem_append.1 h with h|h
  ·unfold qF at h
   split at h
   ·rename_i hn
    simp only[List.mem_singleton]at h;subst h
    left
    refine⟨?_,hn⟩
    by_cases he:hd ts=kD
    ·left;simp[he]
    ·right;simp[he]
   ·split at h
    ·rename_i hn ht
     simp only[List.mem_singleton]at h;subst h
     right
     refine⟨?_,ht⟩
     by_cases h1:il=true
     ·left;simp[h1]
     ·by_cases h2:aM=iX
      ·right;right;simp[h1,h2]
      ·right;left;simp[h1,h2]
    ·cases h
  ·exact Xe ts _ _ w h
theorem DZ{s:ByteArray}{g:Gr}(h:parse s=.ok g)(w:Wd)(hw:w∈iE g):((w.1=1\/w.1=2)/\isName w.2.1=true)\/((w.1=0\/w.1=3\/w.1=4)/\isToken w.2.1=true):=by
 rw[<-NU h]at hw;exact Xe _ _ _ w hw
theorem ND{t:ByteArray}(h1:isName t=true)(h2:isToken t=true):False:=by rw[yt h2]at h1;cases h1
def told(ws:List Wd):List Wd:=ws.filter fun w=>decide (w.1=0\/w.1=1)
def iH(b:ByteArray)(l:List ByteArray):Bool:=l.any fun x=>decide (x=b)
theorem wU{b:ByteArray}{l:List ByteArray}:iH b l=true↔b∈l:=by
 unfold iH;rw[List.any_eq_true];constructor
 ·rintro⟨x,hx,e⟩
  have:=of_decide_eq_true e;subst this;exact hx
 ·intro h;exact⟨b,h,decide_eq_true rfl⟩
def bQ:List ByteArray->List Wd->Option Nat
 |_,[]=>none
 |seen,w::ws=>if iH w.2.1 seen=true then some w.2.2 else bQ (w.2.1::seen) ws
def gY(g:Gr):List Wd:=g.levels.flatMap fun lv=>lv.tokens.map fun t=>(0,t.1,t.2)
def lu(g:Gr):List Wd:=g.rules.map fun r=>(1,r.name,r.place)
theorem JR:∀(d:Nat)(l:List Alt)(w:Wd),w∈dw d l->w.1=2\/w.1=3\/w.1=4
 |0,_,_,h=>by cases h
 |d+1,l,w,h=>by
  rw[FW]at h;obtain⟨a,_,h⟩:=List.mem_flatMap.1 h;rcases List.mem_append.1 h with h|h
  ·obtain⟨x,_,h⟩:=List.mem_flatMap.1 h
   rcases List.mem_append.1 h with h|h
   ·split at h
    ·simp only[List.mem_singleton]at h;subst h;exact .inl rfl
    ·split at h
     ·simp only[List.mem_singleton]at h;subst h;exact .inr (.inl rfl)
     ·cases h
   ·exact JR d _ w h
  ·split at h
   ·cases h
   ·simp only[List.mem_singleton]at h;subst h;exact .inr (.inr rfl)
theorem afa(d:Nat)(l:List Alt):told (dw d l)=[]:=by
 unfold told;rw[List.filter_eq_nil_iff];intro w hw;have:=JR d l w hw;simp only[decide_eq_true_eq];omega
theorem aex(g:Gr):told (gY g)=gY g:=by
 unfold told;rw[List.filter_eq_self];intro w hw;unfold gY at hw;obtain⟨lv,_,hw⟩:=List.mem_flatMap.1 hw;obtain⟨t,_,rfl⟩:=List.mem_map.1 hw;rfl
theorem J7(g:Gr):told (iE g)=gY g++lu g:=by
 unfold iE;have h1:told (gY g)=gY g:=aex g;have h2:∀rs:List Rl,told (rs.flatMap fun r=>(1,r.name,r.place)::dw 9 r.alts)=rs.map fun r=>(1,r.name,r.place):=by
  intro rs
  induction rs with
  |nil=>rfl
  |cons r rs ih=>
   rw[List.flatMap_cons,List.map_cons,<-ih];have h3:=afa 9 r.alts;unfold told at h3|-;rw[List.filter_append,List.filter_cons,h3];rfl
 show told (gY g++_)=_;unfold told at h1 h2|-;rw[List.filter_append,h1,h2];rfl
def lW(names toks:List ByteArray):List Wd->Option Nat
 | []=>none
 |w::ws=>if (w.1=2/\iH w.2.1 names=false)\/(w.1=4/\iH w.2.1 toks=false) then some w.2.2 else lW names toks ws
theorem Nw(names toks:List ByteArray)(a b:List Wd):lW names toks (a++b)=(lW names toks a).or (lW names toks b):=by
 induction a with
 |nil=>simp[lW]
 |cons w a ih=>
  simp only[List.cons_append,lW]
  split
  ·rfl
  ·exact ih
def iter{σ:Type}(R:σ->σ):Nat->σ->σ
 |0,s=>s
 |k+1,s=>iter R k (R s)
theorem Uy{σ:Type}{R:σ->σ}{Inv Closed:σ->Prop}{cnt:σ->Nat}{N:Nat}(hI:∀s,Inv s->Inv (R s))(hN:∀s,Inv s->cnt s<=N)(hp:∀s,Inv s->¬Closed s->cnt s<cnt (R s))(hk:∀s,Inv s->Closed s->R s=s):∀(k:Nat)(s:σ),Inv s->N+1<=k+cnt s->Closed (iter R k s)
 |0,s,hi,h=>by have:=hN s hi;omega
 |k+1,s,hi,h=>by
  by_cases hc:Closed s
  ·have:∀k,iter R k s=s:=by
    intro k
    induction k with
    |zero=>rfl
    |succ k ih=>rw[iter,hk s hi hc,ih]
   rw[this];exact hc
  ·have:=hp s hi hc
   exact Uy hI hN hp hk k (R s) (hI s hi) (by omega)
def eP(ws:List Wd):List ByteArray:=ws.map fun w=>w.2.1
theorem Ve{b:ByteArray}{l:List ByteArray}:iH b l=false↔b∉l:=by
 rw[<-Bool.not_eq_true,wU]
theorem Om{b:ByteArray}{l m:List ByteArray}(h:b∈l↔b∈m):iH b l=iH b m:=by
 cases h1:iH b l
 ·cases h2:iH b m
  ·rfl
  ·exact absurd (h.2 (wU.1 h2)) (Ve.1 h1)
 ·exact(wU.2 (h.1 (wU.1 h1))).symm
theorem Nz:∀(ws:List Wd)(s t:List ByteArray),(∀w∈ws,w.2.1∈s↔w.2.1∈t)->bQ s ws=bQ t ws
 | [],_,_,_=>rfl
 |w::ws,s,t,h=>by
  simp only[bQ];rw[Om (h w (by simp)),Nz ws (w.2.1::s) (w.2.1::t) fun u hu=>by
   simp only[List.mem_cons];rw[h u (by simp[hu])]]
theorem TV:∀(a b:List Wd)(s:List ByteArray),bQ s (a++b)=(bQ s a).or (bQ ((eP a).reverse++s) b)
 | [],b,s=>by simp[bQ,eP]
 |w::a,b,s=>by
  simp only[List.cons_append,bQ]
  split
  ·rfl
  ·rw[TV a b]
   simp[eP]
theorem afW{s:ByteArray}{g:Gr}(h:parse s=.ok g):bQ [] (told (iE g))=(bQ [] (gY g)).or (bQ [] (lu g)):=by
 rw[J7,TV];refine congrArg _ (Nz _ _ _ fun w hw=>?_);have hin:∀u∈gY g,isToken u.2.1=true:=fun u hu=>by
  have hm:u∈iE g:=List.mem_append_left _ hu;rcases DZ h u hm with ⟨h1,_⟩|⟨_,h2⟩
  ·unfold gY at hu
   obtain⟨lv,_,hu⟩:=List.mem_flatMap.1 hu;obtain⟨t,_,rfl⟩:=List.mem_map.1 hu;simp at h1
  ·exact h2
 have hwn:isName w.2.1=true:=by
  have hm:w∈told (iE g):=by rw[J7];exact List.mem_append_right _ hw
  have hm2:w∈iE g:=(List.mem_filter.1 hm).1;rcases DZ h w hm2 with ⟨_,h2⟩|⟨h1,_⟩
  ·exact h2
  ·unfold lu at hw
   obtain⟨r,_,rfl⟩:=List.mem_map.1 hw;simp at h1
 constructor
 ·intro hm
  rw[List.append_nil,List.mem_reverse]at hm;obtain⟨u,hu,e⟩:=List.mem_map.1 hm;exfalso;exact ND hwn (by rw[<-e];exact hin u hu)
 ·intro hm;cases hm
def oo(all:List ByteArray):List Wd->Option Nat
 | []=>none
 |w::ws=>if (w.1=2\/w.1=4)/\iH w.2.1 all=false then some w.2.2 else oo all ws
def aK(g:Gr):List ByteArray:=g.rules.map fun r=>r.name
def gZ(g:Gr):List ByteArray:=eP (gY g)
theorem TW{names toks:List ByteArray}(hn:∀b∈names,isName b=true)(ht:∀b∈toks,isToken b=true):∀ws:List Wd,(∀w∈ws,((w.1=1\/w.1=2)/\isName w.2.1=true)\/((w.1=0\/w.1=3\/w.1=4)/\isToken w.2.1=true))->oo (toks++names) ws=lW names toks ws
 | [],_=>rfl
 |w::ws,h=>by
  have ih:=TW hn ht ws (fun u hu=>h u (by simp[hu]));simp only[oo,lW];have hw:=h w (by simp);have key:((w.1=2\/w.1=4)/\iH w.2.1 (toks++names)=false)↔((w.1=2/\iH w.2.1 names=false)\/(w.1=4/\iH w.2.1 toks=false)):=by
   rcases hw with ⟨h1,h2⟩|⟨h1,h2⟩
   ·have e:iH w.2.1 (toks++names)=iH w.2.1 names:=Om ⟨fun hm=>(List.mem_append.1 hm).elim (fun hm=>(ND h2 (ht _ hm)).elim) id,fun hm=>List.mem_append_right _ hm⟩
    rw[e];constructor
    ·rintro⟨h3,h4⟩;exact .inl ⟨by omega,h4⟩
    ·rintro(⟨h3,h4⟩ | ⟨h3,_⟩)
     ·exact⟨.inl h3,h4⟩
     ·omega
   ·have e:iH w.2.1 (toks++names)=iH w.2.1 toks:=Om ⟨fun hm=>(List.mem_append.1 hm).elim id (fun hm=>(ND (hn _ hm) h2).elim),fun hm=>List.mem_append_left _ hm⟩
    rw[e];constructor
    ·rintro⟨h3,h4⟩;exact .inr ⟨by omega,h4⟩
    ·rintro(⟨h3,_⟩ | ⟨h3,h4⟩)
     ·omega
     ·exact⟨.inr h3,h4⟩
  by_cases hc:(w.1=2\/w.1=4)/\iH w.2.1 (toks++names)=false
  ·rw[if_pos hc,if_pos (key.1 hc)]
  ·rw[if_neg hc,if_neg (fun h=>hc (key.2 h)),ih]
theorem TY(names toks:List ByteArray):∀ws:List Wd,(∀w∈ws,w.1=0\/w.1=1)->lW names toks ws=none
 | [],_=>rfl
 |w::ws,h=>by
  have:=h w (by simp);simp only[lW];rw[if_neg (by omega)];exact TY names toks ws (fun u hu=>h u (by simp[hu]))
def yg(names toks:List ByteArray):List Rl->Option Nat
 | []=>none
 |r::rs=>(lW names toks (dw 9 r.alts)).or (yg names toks rs)
theorem adK(g:Gr)(names toks:List ByteArray):lW names toks (iE g)=yg names toks g.rules:=by
 unfold iE;rw[Nw,TY names toks _ fun w hw=>by
  obtain⟨lv,_,hw⟩:=List.mem_flatMap.1 hw;obtain⟨t,_,rfl⟩:=List.mem_map.1 hw;exact .inl rfl,Option.none_or]
 induction g.rules with
 |nil=>rfl
 |cons r rs ih=>
  rw[List.flatMap_cons,Nw,ih,yg];have e:lW names toks ((1,r.name,r.place)::dw 9 r.alts)=lW names toks (dw 9 r.alts):=by
   simp only[lW];rw[if_neg (by simp)]
  rw[e]
def aS(bs:List Bool)(i:Nat):Bool:=bs[i]?.getD false
def cZ(a b:List Bool):Prop:=a.length=b.length/\∀i,aS a i=true->aS b i=true
theorem cZ.refl(a:List Bool):cZ a a:=⟨rfl,fun _ h=>h⟩
theorem cZ.trans{a b c:List Bool}(h:cZ a b)(k:cZ b c):cZ a c:=⟨h.1.trans k.1,fun i hi=>k.2 i (h.2 i hi)⟩
theorem at_set(bs:List Bool)(j i:Nat):aS (bs.set j true) i=if j=i/\j<bs.length then true else aS bs i:=by
 unfold aS;rw[List.getElem?_set]
 by_cases h:j=i
 ·subst h
  by_cases hl:j<bs.length
  ·simp[hl]
  ·simp[hl]
 ·simp[h]
theorem cZ.set(bs:List Bool)(j:Nat):cZ bs (bs.set j true):=⟨by simp,fun i hi=>by rw[at_set];split <;> simp_all⟩
theorem OM{bs:List Bool}{j:Nat}(h:j<bs.length->aS bs j=true):bs.set j true=bs:=by
 apply List.ext_getElem?;intro i;rw[List.getElem?_set]
 by_cases hj:j=i
 ·subst hj
  by_cases hl:j<bs.length
  ·have h1:=h hl
   unfold aS at h1;rw[List.getElem?_eq_getElem hl]at h1|-;simp only[Option.getD_some]at h1;simp[h1];exact hl
  ·simp[hl]
 ·simp[hj]
def dz(bs:List Bool):Nat:=bs.countP id
theorem Eg(bs:List Bool):dz bs<=bs.length:=List.countP_le_length
theorem cnt_mono:∀{a b:List Bool},cZ a b->dz a<=dz b
 | [],[],_=>zL0
 | [],_::_,h=>by have:=h.1;simp at this
 |_::_,[],h=>by have:=h.1;simp at this
 |x::a,y::b,h=>by
  have ih:=cnt_mono (a:=a) (b:=b) ⟨by have:=h.1;simpa using this,fun i hi=>h.2 (i+1) hi⟩;have h0:x=true->y=true:=fun e=>by subst e;exact h.2 0 rfl
  unfold dz at *;rw[List.countP_cons,List.countP_cons];cases x <;> cases y <;> simp_all <;> omega
theorem cnt_lt:∀{a b:List Bool}(i:Nat),cZ a b->aS a i=false->aS b i=true->dz a<dz b
 | [],[],i,_,_,hb=>by simp[aS]at hb
 | [],_::_,_,h,_,_=>by have:=h.1;simp at this
 |_::_,[],_,h,_,_=>by have:=h.1;simp at this
 |x::a,y::b,0,h,ha,hb=>by
  have hm:=cnt_mono (a:=a) (b:=b) ⟨by have:=h.1;simpa using this,fun i hi=>h.2 (i+1) hi⟩;have hx:x=false:=ha;have hy:y=true:=hb;subst hx hy;unfold dz at *;rw[List.countP_cons,List.countP_cons];simp only[id];simp;omega
 |x::a,y::b,i+1,h,ha,hb=>by
  have ih:=cnt_lt (a:=a) (b:=b) i ⟨by have:=h.1;simpa using this,fun i hi=>h.2 (i+1) hi⟩ ha hb;have h0:x=true->y=true:=fun e=>by subst e;exact h.2 0 rfl
  unfold dz at *;rw[List.countP_cons,List.countP_cons];cases x <;> cases y <;> simp_all <;> omega
def jf(step:Nat->List Bool->List Bool):Nat->Nat->List Bool->List Bool
 |0,_,bs=>bs
 |k+1,i,bs=>jf step k (i+1) (step i bs)
structure StepB(step:Nat->List Bool->List Bool)(Cl:Nat->List Bool->Prop):Prop where
 le:∀i bs,cZ bs (step i bs)
 idle:∀i bs,Cl i bs->step i bs=bs
 more:∀i a bs,cZ a bs->¬Cl i a->(∃j,aS a j=false/\aS (step i bs) j=true)
theorem F9{step:Nat->List Bool->List Bool}{Cl:Nat->List Bool->Prop}(h:StepB step Cl):∀(k i:Nat)(bs:List Bool),cZ bs (jf step k i bs)
 |0,_,bs=>cZ.refl bs
 |k+1,i,bs=>(h.le i bs).trans (F9 h k (i+1) (step i bs))
theorem Vf{step:Nat->List Bool->List Bool}{Cl:Nat->List Bool->Prop}(h:StepB step Cl):∀(k i:Nat)(bs:List Bool),(∀j,i<=j->j<i+k->Cl j bs)->jf step k i bs=bs
 |0,_,_,_=>rfl
 |k+1,i,bs,hc=>by
  rw[jf,h.idle i bs (hc i (zL0) (by omega))];exact Vf h k (i+1) bs fun j h1 h2=>hc j (by omega) (by omega)
theorem Vg{step:Nat->List Bool->List Bool}{Cl:Nat->List Bool->Prop}(h:StepB step Cl)(a:List Bool):∀(k i:Nat)(bs:List Bool),cZ a bs->(∃j,i<=j/\j<i+k/\¬Cl j a)->∃j,aS a j=false/\aS (jf step k i bs) j=true
 |0,i,_,_,⟨j,h1,h2,_⟩=>by omega
 |k+1,i,bs,hl,⟨j,h1,h2,h3⟩=>by
  by_cases hj:j=i
  ·subst hj
   obtain⟨m,hm1,hm2⟩:=h.more j a bs hl h3;exact⟨m,hm1,(F9 h k (j+1) (step j bs)).2 m hm2⟩
  ·exact Vg h a k (i+1) (step i bs) (hl.trans (h.le i bs)) ⟨j,by omega,by omega,h3⟩
theorem TF{step:Nat->List Bool->List Bool}{Cl:Nat->List Bool->Prop}(h:StepB step Cl)(n k:Nat)(bs:List Bool)(hb:bs.length=n)(hk:n+1<=k):∀i,i<n->Cl i (iter (jf step n 0) k bs):=by
 have key:=Uy (R:=jf step n 0) (Inv:=fun s=>s.length=n) (Closed:=fun s=>∀i,i<n->Cl i s) (cnt:=dz) (N:=n)
  (fun s hs=>by rw[<-hs];exact(F9 h _ _ s).1.symm)
  (fun s hs=>by rw[<-hs];exact Eg s)
  (fun s hs hc=>by
   have hex:∃j,0<=j/\j<0+n/\¬Cl j s:=by
    by_cases hh:∃j,0<=j/\j<0+n/\¬Cl j s
    ·exact hh
    ·exfalso;apply hc
     intro i hi
     by_cases hci:Cl i s
     ·exact hci
     ·exact absurd ⟨i,Nat.zero_le _,by omega,hci⟩ hh
   obtain⟨j,h1,h2⟩:=Vg h s n 0 s (cZ.refl s) hex;exact cnt_lt j (F9 h n 0 s) h1 h2)
  (fun s hs hc=>Vf h n 0 s fun j _ h2=>hc j (by omega))
 exact key k bs hb (by omega)
theorem F6{step:Nat->List Bool->List Bool}{Cl:Nat->List Bool->Prop}(h:StepB step Cl)(n:Nat):∀(k:Nat)(bs:List Bool),cZ bs (iter (jf step n 0) k bs)
 |0,bs=>cZ.refl bs
 |k+1,bs=>(F9 h n 0 bs).trans (F6 h n k _)
theorem Uz{step:Nat->List Bool->List Bool}{I:List Bool->Prop}(hs:∀i bs,I bs->I (step i bs))(n:Nat):∀(k:Nat)(bs:List Bool),I bs->I (iter (jf step n 0) k bs):=by
 have hr:∀(m i:Nat)(bs:List Bool),I bs->I (jf step m i bs):=by
  intro m
  induction m with
  |zero=>intro i bs h;exact h
  |succ m ih=>intro i bs h;exact ih _ _ (hs i bs h)
 intro k
 induction k with
 |zero=>intro bs h;exact h
 |succ k ih=>intro bs h;exact ih _ (hr n 0 bs h)
def mY(ns:List ByteArray)(b:ByteArray):Nat:=ns.findIdx fun x=>decide (x=b)
def oC(l:List Alt):List ByteArray:=eP ((dw 9 l).filter fun w=>decide (w.1=2))
def lD(g:Gr)(i:Nat):List Alt:=(g.rules[i]?.map fun r=>r.alts).getD []
def iQ(ns us:List ByteArray)(bs:List Bool):List Bool:=us.foldl (fun bs b=>bs.set (mY ns b) true) bs
theorem Eh(ns:List ByteArray):∀(us:List ByteArray)(bs:List Bool),cZ bs (iQ ns us bs)
 | [],bs=>cZ.refl bs
 |b::us,bs=>(cZ.set bs (mY ns b)).trans (Eh ns us _)
theorem V6(ns:List ByteArray):∀(us:List ByteArray)(bs:List Bool),(∀b∈us,mY ns b<bs.length->aS bs (mY ns b)=true)->iQ ns us bs=bs
 | [],_,_=>rfl
 |b::us,bs,h=>by
  show iQ ns us (bs.set (mY ns b) true)=bs;rw[OM (h b (by simp))];exact V6 ns us bs fun c hc=>h c (by simp[hc])
theorem OO(ns:List ByteArray):∀(us:List ByteArray)(bs:List Bool)(b:ByteArray),b∈us->mY ns b<bs.length->aS (iQ ns us bs) (mY ns b)=true
 | [],_,_,h,_=>by cases h
 |c::us,bs,b,h,hl=>by
  show aS (iQ ns us (bs.set (mY ns c) true)) _=true;rcases List.mem_cons.1 h with rfl|h
  ·refine(Eh ns us _).2 _ ?_
   rw[at_set,if_pos ⟨rfl,hl⟩]
  ·exact OO ns us _ b h (by simpa using hl)
theorem V7(ns:List ByteArray)(T:List Bool):∀(us:List ByteArray)(bs:List Bool),bs.length=T.length->(∀b∈us,mY ns b<T.length->aS T (mY ns b)=true)->cZ bs T->cZ (iQ ns us bs) T
 | [],_,_,_,h=>h
 |b::us,bs,hl,hu,h=>by
  show cZ (iQ ns us (bs.set (mY ns b) true)) T;refine V7 ns T us _ (by simpa using hl) (fun c hc=>hu c (by simp[hc])) ⟨by simpa using hl,fun i hi=>?_⟩;rw[at_set]at hi
  split at hi
  ·rename_i hc
   rw[<-hc.1];exact hu b (by simp) (by rw[<-hl];exact hc.2)
  ·exact h.2 i hi
def jL(g:Gr)(i:Nat)(bs:List Bool):List Bool:=if aS bs i=true then iQ (aK g) (oC (lD g i)) bs else bs
def Av(g:Gr)(i:Nat)(bs:List Bool):Prop:=aS bs i=true->∀b∈oC (lD g i),mY (aK g) b<bs.length->aS bs (mY (aK g) b)=true
theorem J8(g:Gr):StepB (jL g) (Av g) where
 le i bs:=by
  unfold jL
  split
  ·exact Eh _ _ bs
  ·exact cZ.refl bs
 idle i bs h:=by
  unfold jL
  split
  ·rename_i hi;exact V6 _ _ bs (h hi)
  ·rfl
 more i a bs hl h:=by
  have hi:aS a i=true:=by
   cases hh:aS a i
   ·exact absurd (fun h0=>by rw[hh]at h0;cases h0) h
   ·rfl
  have hex:∃b,b∈oC (lD g i)/\mY (aK g) b<a.length/\aS a (mY (aK g) b)=false:=by
   by_cases hh:∃b,b∈oC (lD g i)/\mY (aK g) b<a.length/\aS a (mY (aK g) b)=false
   ·exact hh
   ·exfalso
    apply h;intro _ b hb hlt;cases hq:aS a (mY (aK g) b)
    ·exact absurd ⟨b,hb,hlt,hq⟩ hh
    ·rfl
  obtain⟨b,hb,hlt,hq⟩:=hex;refine⟨_,hq,?_⟩;unfold jL;rw[if_pos (hl.2 i hi)];exact OO _ _ bs b hb (by rw[<-hl.1];exact hlt)
def iw(on:ByteArray->Bool):Nat->List Alt->Bool
 |0,_=>false
 |d+1,l=>l.any fun a=>a.1.all fun x=>decide (x.kind=1) || decide (x.mark=42) || decide (x.mark=63) || (decide (x.kind=0) && on x.name) || (decide (x.kind=2) && iw on d x.alts)
theorem Oo{on on':ByteArray->Bool}(h:∀b,on b=true->on' b=true):∀(d:Nat)(l:List Alt),iw on d l=true->iw on' d l=true
 |0,_,e=>by cases e
 |d+1,l,e=>by
  simp only[iw,List.any_eq_true,List.all_eq_true]at e|-;obtain⟨a,ha,hx⟩:=e;refine⟨a,ha,fun x hxm=>?_⟩;have:=hx x hxm;simp only[Bool.or_eq_true,Bool.and_eq_true]at this|-;rcases this with ((((t|t)|t)|t)|t)
  ·exact .inl (.inl (.inl (.inl t)))
  ·exact .inl (.inl (.inl (.inr t)))
  ·exact .inl (.inl (.inr t))
  ·exact .inl (.inr ⟨t.1,h _ t.2⟩)
  ·exact .inr ⟨t.1,Oo h d _ t.2⟩
def dD(g:Gr)(bs:List Bool)(b:ByteArray):Bool:=aS bs (mY (aK g) b)
def l5(g:Gr)(i:Nat)(bs:List Bool):List Bool:=if iw (dD g bs) 9 (lD g i)=true then bs.set i true else bs
def ql(g:Gr)(i:Nat)(bs:List Bool):Prop:=iw (dD g bs) 9 (lD g i)=true->i<bs.length->aS bs i=true
theorem Kj(g:Gr):StepB (l5 g) (ql g) where
 le i bs:=by
  unfold l5
  split
  ·exact cZ.set bs i
  ·exact cZ.refl bs
 idle i bs h:=by
  unfold l5
  split
  ·rename_i hi;exact OM (h hi)
  ·rfl
 more i a bs hl h:=by
  have he:iw (dD g a) 9 (lD g i)=true:=by
   cases hh:iw (dD g a) 9 (lD g i)
   ·exact absurd (fun h0=>by rw[hh]at h0;cases h0) h
   ·rfl
  have hlt:i<a.length:=by
   rcases Nat.lt_or_ge i a.length with h'|h'
   ·exact h'
   ·exact absurd (fun _ h0=>by omega) h
  have ha:aS a i=false:=by
   cases hh:aS a i
   ·rfl
   ·exact absurd (fun _ _=>hh) h
  refine⟨i,ha,?_⟩;unfold l5;rw[if_pos (Oo (on':=dD g bs) (fun b hb=>hl.2 _ hb) 9 _ he),at_set,if_pos ⟨rfl,by rw[<-hl.1];exact hlt⟩]
structure u6(Cl:Nat->List Bool->Prop)(n:Nat)(s bs:List Bool):Prop where
 len:bs.length=n
 has:cZ s bs
 closed:∀i,i<n->Cl i bs
 least:∀T,T.length=n->cZ s T->(∀i,i<n->Cl i T)->cZ bs T
theorem aiX{a b:List Bool}(h:a.length=b.length)(hi:∀i,aS a i=aS b i):a=b:=by
 apply List.ext_getElem h;intro i h1 h2;have:=hi i;unfold aS at this;rw[List.getElem?_eq_getElem h1,List.getElem?_eq_getElem h2]at this;simpa using this
theorem u6.unique{Cl:Nat->List Bool->Prop}{n:Nat}{s a b:List Bool}(h:u6 Cl n s a)(k:u6 Cl n s b):a=b:=by
 have h1:=h.least b k.len k.has k.closed;have h2:=k.least a h.len h.has h.closed;refine aiX h1.1 fun i=>?_
 cases ha:aS a i
 ·cases hb:aS b i
  ·rfl
  ·rw[h2.2 i hb]at ha;cases ha
 ·rw[h1.2 i ha]
theorem V8(g:Gr)(T:List Bool)(hT:∀i,i<T.length->Av g i T)(i:Nat)(bs:List Bool)(h:cZ bs T):cZ (jL g i bs) T:=by
 unfold jL
 split
 ·rename_i hi
  refine V7 _ T _ bs h.1 (fun b hb hlt=>?_) h;have hi':=h.2 i hi;have hil:i<T.length:=by
   rcases Nat.lt_or_ge i T.length with h'|h'
   ·exact h'
   ·unfold aS at hi';rw[List.getElem?_eq_none h']at hi';cases hi'
  exact hT i hil hi' b hb hlt
 ·exact h
theorem Xf(g:Gr)(T:List Bool)(hT:∀i,i<T.length->ql g i T)(i:Nat)(bs:List Bool)(h:cZ bs T):cZ (l5 g i bs) T:=by
 unfold l5
 split
 ·rename_i he
  refine⟨by simpa using h.1,fun j hj=>?_⟩;rw[at_set]at hj
  split at hj
  ·rename_i hc
   rw[<-hc.1];have hil:i<T.length:=by rw[<-h.1];exact hc.2
   exact hT i hil (Oo (on':=dD g T) (fun b hb=>h.2 _ hb) 9 _ he) hil
  ·exact h.2 j hj
 ·exact h
theorem afb(g:Gr)(n k:Nat)(s:List Bool)(hs:s.length=n)(hk:n+1<=k):u6 (Av g) n s (iter (jf (jL g) n 0) k s) where
 len:=by rw[<-hs];exact(F6 (J8 g) _ k s).1.symm
 has:=F6 (J8 g) n k s
 closed:=TF (J8 g) n k s hs hk
 least T hT h1 h2:=Uz (I:=fun bs=>cZ bs T) (fun i bs h=>V8 g T (fun i hi=>h2 i (by omega)) i bs h) n k s h1
theorem afX(g:Gr)(n k:Nat)(s:List Bool)(hs:s.length=n)(hk:n+1<=k):u6 (ql g) n s (iter (jf (l5 g) n 0) k s) where
 len:=by rw[<-hs];exact(F6 (Kj g) _ k s).1.symm
 has:=F6 (Kj g) n k s
 closed:=TF (Kj g) n k s hs hk
 least T hT h1 h2:=Uz (I:=fun bs=>cZ bs T) (fun i bs h=>Xf g T (fun i hi=>h2 i (by omega)) i bs h) n k s h1
end Lx
end Go.Proofs.YtjaalkocdbkdeaaGreatDoor
