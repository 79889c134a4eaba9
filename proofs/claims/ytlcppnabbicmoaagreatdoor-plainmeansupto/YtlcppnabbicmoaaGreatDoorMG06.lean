import Derived.Test.YtlcppnabbicmoaaGreatDoorMG05
import Derived.Recover
set_option maxHeartbeats 8000000
set_option maxRecDepth 1000000
namespace Go.Proofs.YtlcppnabbicmoaaGreatDoor
open Lx Go.Proofs.Tryz
open Go.RowKit
section
open Go.RowKit
open Lx (Tk)
open Tr
theorem ahY (n a:Int)(w:World):(Instr.typeAssert (.iface 104 (.agg #[.int .i64 n,.int .i64 a])) 20 104 true).run prog w=.ok (.tuple #[.agg #[.int .i64 n,.int .i64 a],.bool true]) w:=by
 simp[Instr.typeAssert,run_underlying underlying104,go_sem,Result.andThen]
theorem ae2 (n a:Int) (w:World) :
  Calls prog 43 #[.iface 104 (.agg #[.int .i64 n,.int .i64 a])] w fun e w'=>e=.returned (.agg #[.int .i64 n,.int .i64 a])/\Below w.heap.size w w':=by
 have hta:=ahY;go_enter func43,ntmps43
 go_wp2
 refine bodyPost_ret (v:=.agg #[.int .i64 n,.int .i64 a]) (by simp[results,results43,go_sem]) rfl ⟨rfl,?_⟩;exact ((Below.refl _ _).alloc (lr0) _).alloc (by simp) _
theorem afn {B:Nat} (n a x y:Int) {w w1:World} (hb:Below w.heap.size w w1) (hB:B+2<w.heap.size) (kg:aj w1 B #[.slice none 0 0,.slice none 0 0] 65) (ke:aj w1 (B+1) #[.int .i64 x] 27) (ka:aj w1 (B+2) #[.int .i64 y] 3) :
  Below B w (((((w1.setCell ⟨B,0,none⟩ (.slice none 0 0)).setCell ⟨B,1,none⟩ (.slice none 0 0)).setCell ⟨B+1,0,none⟩ (.int .i64 n)).setCell ⟨B+2,0,none⟩ (.int .i64 a)).alloc (.cells #[.int .i64 n,.int .i64 a] 104)).drew /\
  aj (((((w1.setCell ⟨B,0,none⟩ (.slice none 0 0)).setCell ⟨B,1,none⟩ (.slice none 0 0)).setCell ⟨B+1,0,none⟩ (.int .i64 n)).setCell ⟨B+2,0,none⟩ (.int .i64 a)).alloc (.cells #[.int .i64 n,.int .i64 a] 104)).drew B #[.slice none 0 0,.slice none 0 0] 65 /\
  aj (((((w1.setCell ⟨B,0,none⟩ (.slice none 0 0)).setCell ⟨B,1,none⟩ (.slice none 0 0)).setCell ⟨B+1,0,none⟩ (.int .i64 n)).setCell ⟨B+2,0,none⟩ (.int .i64 a)).alloc (.cells #[.int .i64 n,.int .i64 a] 104)).drew (B+1) #[.int .i64 n] 27 /\
  aj (((((w1.setCell ⟨B,0,none⟩ (.slice none 0 0)).setCell ⟨B,1,none⟩ (.slice none 0 0)).setCell ⟨B+1,0,none⟩ (.int .i64 n)).setCell ⟨B+2,0,none⟩ (.int .i64 a)).alloc (.cells #[.int .i64 n,.int .i64 a] 104)).drew (B+2) #[.int .i64 a] 3:=by
 have hs:=hb.size;have b1:=hb.mono (B':=B) (by omega);have b2:=(((b1.setCell (p:=⟨B,0,none⟩) (lr0) (.slice none 0 0)).setCell (p:=⟨B,1,none⟩) (lr0) (.slice none 0 0)).setCell (p:=⟨B+1,0,none⟩) (by simp) (.int .i64 n)).setCell (p:=⟨B+2,0,none⟩) (by simp) (.int .i64 a);refine⟨(b2.alloc (by have:=b2.size;omega) _).drew,?_,?_,?_⟩
 ·exact (((((kg.set 0 (.slice none 0 0)).set 1 (.slice none 0 0)).other (b':=B+1) (i:=0) (by omega) (.int .i64 n)).other (b':=B+2) (i:=0) (by omega) (.int .i64 a)).alloc (.cells #[.int .i64 n,.int .i64 a] 104)).drew
 ·exact (((((ke.other (b':=B) (i:=0) (by omega) (.slice none 0 0)).other (b':=B) (i:=1) (by omega) (.slice none 0 0)).set 0 (.int .i64 n)).other (b':=B+2) (i:=0) (by omega) (.int .i64 a)).alloc (.cells #[.int .i64 n,.int .i64 a] 104)).drew
 ·exact (((((ka.other (b':=B) (i:=0) (by omega) (.slice none 0 0)).other (b':=B) (i:=1) (by omega) (.slice none 0 0)).other (b':=B+1) (i:=0) (by omega) (.int .i64 n)).set 0 (.int .i64 a)).alloc (.cells #[.int .i64 n,.int .i64 a] 104)).drew
theorem aeC (B:Nat) (n a x y:Int) (older:List PanicEntry) (w:World) (hB:B+2<w.heap.size) (kg:aj w B #[.slice none 0 0,.slice none 0 0] 65) (ke:aj w (B+1) #[.int .i64 x] 27) (ka:aj w (B+2) #[.int .i64 y] 3) :
  CallsD prog 42 #[.pointer (some ⟨B,0,none⟩),.pointer (some ⟨B+1,0,none⟩),.pointer (some ⟨B+2,0,none⟩)] (.panicking ({ v:=.iface 104 (.agg #[.int .i64 n,.int .i64 a]),recovered:=false }::older)) w fun e u' w' =>
   e=.returned (.tuple #[])/\u'=.panicking ({ v:=.iface 104 (.agg #[.int .i64 n,.int .i64 a]),recovered:=true }::older)/\Below B w w'/\aj w' B #[.slice none 0 0,.slice none 0 0] 65/\aj w' (B+1) #[.int .i64 n] 27/\aj w' (B+2) #[.int .i64 a] 3:=by
 refine callsD_of_wpS func42 rfl fun c₀ cs hu=>?_
 apply wpS_seq;apply wpS_region;simp[wpOpsS,go_sem,recoverD,hu,ntmps42,Exit.thenS];refine wpS_of_wp ?_
 go_wp2_with (go_at_call 43;refine (ae2 n a _).mono ?_;rintro e w1 ⟨rfl,hb⟩)
 have G:=El hb none;have AU:=kg.grown G (by simp);have Dc:=ke.grown G (by simp);have Df:=ka.grown G (by simp);have g0:w1.cell? ⟨B,0,none⟩=some (.slice none 0 0):=AU.cell 0;have g1:w1.cell? ⟨B,1,none⟩=some (.slice none 0 0):=AU.cell 1;have e0:w1.cell? ⟨B+1,0,none⟩=some (.int .i64 x):=Dc.cell 0;have a0:w1.cell? ⟨B+2,0,none⟩=some (.int .i64 y):=Df.cell 0;have fg:∀ i,w1.frozen? ⟨B,i,none⟩=false:=AU.frozen;have fe:∀ i,w1.frozen? ⟨B+1,i,none⟩=false:=Dc.frozen;have fa:∀ i,w1.frozen? ⟨B+2,i,none⟩=false:=Df.frozen;have hs:w.heap.size<=w1.heap.size:=hb.size;have hs0:B<w1.heap.size:=by omega
 have hs1:B+1<w1.heap.size:=by omega
 have hs2:B+2<w1.heap.size:=by omega
 go_region
 all_goals
  exact⟨rfl,_,rfl,.tuple #[],results_none rfl _ _ _,rfl,rfl,afn n a x y hb hB AU Dc Df⟩
theorem Wp (g e a:Addr) (w:World) :
  CallsD prog 42 #[.pointer (some g),.pointer (some e),.pointer (some a)] .returning w fun e u' w'=>e=.returned (.tuple #[])/\u'=.returning/\w'=w:=by
 refine callsD_of_wpS func42 rfl fun c₀ cs hu=>?_
 apply wpS_seq;apply wpS_region;simp[wpOpsS,go_sem,recoverD,hu,ntmps42,Exit.thenS];refine wpS_of_wp ?_;go_wp2_with fail;cases c₀;simp only at hu;subst hu;refine⟨rfl,_,rfl,.tuple #[],results_none rfl _ _ _,rfl,rfl,rfl⟩
end
section
open Go.RowKit
open Lx (Tk)
open Tr
namespace Lx
theorem extract_size (s:ByteArray)(i j:Nat):(s.extract i j).size<=s.size:=by
 rw[ByteArray.size_extract];omega
theorem Yq (s:ByteArray):∀ (f i:Nat) (t:Tk),t∈mO s f i->t.1.size<=s.size
 | 0,i,t,h=>by
  simp only[mO,List.mem_singleton]at h;subst h;exact Nat.zero_le _
 | f+1,i,t,h=>by
  simp only[mO]at h
  split at h
  ·rcases List.mem_cons.1 h with rfl | h
   ·exact extract_size _ _ _
   ·exact Yq s f _ t h
  ·simp only[List.mem_singleton]at h;subst h;exact Nat.zero_le _
theorem ZI (s:ByteArray)(t:Tk)(h:t∈lex s):t.1.size<=s.size:=Yq s _ _ t h
theorem ai6 (s:ByteArray):(lex s).length<=s.size+1:=GL s _
end Lx
theorem Rd.start {s:ByteArray} {B:Nat} {w1:World} {v:Value} (hs:s.size<=2000) (h:w1.ownsRow B 112 2 v (Lx.lex s).length (qb (Lx.lex s))) :
  ∃ sb cap,v=.slice (some ⟨sb,0,none⟩) (Lx.lex s).length cap/\B<=sb/\sb<w1.heap.size/\Rd sb cap (Lx.lex s) w1.heap.size (w1.alloc (.cells #[v,.int .i64 0] 109)) (Lx.lex s) 0:=by
 have hwf:=Lx.lex_wf s;have hne:=hwf.ne;obtain⟨g,cap,hv,hb,hlt⟩:=h.form hne;subst hv;have hcap:(Lx.lex s).length<=cap:=by
  rcases h.2 with ⟨h0,_⟩ | ⟨g',cap',cur,hv,_,_,hle,_⟩
  ·cases h0
  ·cases hv;exact hle
 have kN:=aj.new w1 #[.slice (some ⟨g,0,none⟩) (Lx.lex s).length cap,.int .i64 0] 109;refine⟨g,cap,rfl,hb,hlt,?_⟩;refine⟨hwf,⟨[],rfl⟩,hcap,?_,kN.cell 1,kN.frozen 0,kN.frozen 1,?_,by omega,fun t ht=>Nat.le_trans (ZI s t ht) hs,by have:=ai6 s;omega⟩
 ·rw[show (Lx.lex s).length - (Lx.lex s).length=0 by omega];exact kN.cell 0
 ·intro j t hj
  obtain⟨h1,h2⟩:=OD _ j t hj;have c1:=h.cells (g:=g) rfl (j*2) _ h1;have c2:=h.cells (g:=g) rfl (j*2+1) _ h2;have hadd:∀ k,(⟨g,0,none⟩:Addr).add k=⟨g,k,none⟩:=fun k=>by unfold Addr.add;split <;> simp_all
  rw[hadd]at c1 c2;have hold:∀ k,(w1.alloc (.cells #[.slice (some ⟨g,0,none⟩) (Lx.lex s).length cap,.int .i64 0] 109)).cell? ⟨g,k,none⟩=w1.cell? ⟨g,k,none⟩:=fun k=>World.cell?_of_block (w:=w1) (Below.heap_alloc _ _ _ hlt)
  rw[hold,hold];exact⟨c1,c2⟩
def wZ (w:World)(s:ByteArray)(e:Ending)(w':World):Prop :=
 Below w.heap.size w w' /\
  match Lx.parse s with
  | .ok g=>∃ vl vr,e=.returned (.tuple #[.agg #[vl,vr],.int .i64 0,.int .i64 0])/\Al (In w.heap.size w'.heap.size) w' vl vr g
  | .error (n,a)=>e=.returned (.tuple #[.agg #[.slice none 0 0,.slice none 0 0],.int .i64 (n:Int),.int .i64 (a:Int)])
theorem wZ.yes {w w':World} {s:ByteArray} {g:Lx.Gr} {vl vr:Value} (hr:Lx.parse s=.ok g) (hb:Below w.heap.size w w') (hg:Al (In w.heap.size w'.heap.size) w' vl vr g) :
  wZ w s (.returned (.tuple #[.agg #[vl,vr],.int .i64 0,.int .i64 0])) w':=by
 unfold wZ;rw[hr];exact⟨hb,vl,vr,rfl,hg⟩
theorem wZ.no {w w':World} {s:ByteArray} {n a:Nat} (hr:Lx.parse s=.error (n,a)) (hb:Below w.heap.size w w') :
  wZ w s (.returned (.tuple #[.agg #[.slice none 0 0,.slice none 0 0],.int .i64 (n:Int),.int .i64 (a:Int)])) w':=by
 unfold wZ;rw[hr];exact⟨hb,rfl⟩
theorem agR (s:ByteArray)(w:World)(hmax:s.size<=maxLen):Calls prog 24 #[.string s] w (wZ w s):=by
 unfold maxLen at hmax;have zi:∀ (fn:Fn) (first cap:Array Value) (w:World),(Instr.makeFunc fn first cap).run prog w=.ok (.func fn first cap) w:=fun _ _ _ _=>rfl
 by_cases hlong:2000<s.size
 ·have HP:Hid (Lx.parse s=.error (1,0)):=by show _=_;unfold Lx.parse;rw[if_pos hlong]
  go_enter_defers func24,ntmps24
  go_wp2
  refine leaves_cons (f:=42) (args:=#[.pointer (some ⟨w.heap.size,0,none⟩),.pointer (some ⟨w.heap.size+1,0,none⟩),.pointer (some ⟨w.heap.size+2,0,none⟩)]) (by simp) (by simp[go_sem]) ?_;refine (Wp _ _ _ _).mono ?_;rintro e u' w'' ⟨rfl,rfl,rfl⟩;refine⟨.tuple #[.agg #[.slice none 0 0,.slice none 0 0],.int .i64 1,.int .i64 0],by simp[results,results24,go_sem],?_⟩;exact wZ.no HP.out ((((Below.refl _ _).alloc (lr0) _).alloc (by simp) _).alloc (by simp;omega) _)
 ·have hs:s.size<=2000:=by omega
  have hw3:(((w.alloc (.cells #[.slice none 0 0,.slice none 0 0] 65)).alloc (.cells #[.int .i64 0] 27)).alloc (.cells #[.int .i64 0] 3)).heap.size=w.heap.size+3:=by simp
  have kg:=((aj.new w #[.slice none 0 0,.slice none 0 0] 65).alloc (.cells #[.int .i64 0] 27)).alloc (.cells #[.int .i64 0] 3);have ke:=(aj.new (w.alloc (.cells #[.slice none 0 0,.slice none 0 0] 65)) #[.int .i64 0] 27).alloc (.cells #[.int .i64 0] 3);have ka:=aj.new ((w.alloc (.cells #[.slice none 0 0,.slice none 0 0] 65)).alloc (.cells #[.int .i64 0] 27)) #[.int .i64 0] 3;rw[show (w.alloc (.cells #[.slice none 0 0,.slice none 0 0] 65)).heap.size=w.heap.size+1 by simp]at ke;rw[show ((w.alloc (.cells #[.slice none 0 0,.slice none 0 0] 65)).alloc (.cells #[.int .i64 0] 27)).heap.size=w.heap.size+2 by simp]at ka;have b0:Below w.heap.size w (((w.alloc (.cells #[.slice none 0 0,.slice none 0 0] 65)).alloc (.cells #[.int .i64 0] 27)).alloc (.cells #[.int .i64 0] 3)):=(((Below.refl _ _).alloc (lr0) _).alloc (by simp) _).alloc (by simp;omega) _
  go_enter_defers func24,ntmps24
  go_wp2_with fail;refine (Y4 s _ hs).mono ?_;rintro e w1 ⟨v,rfl,hown,hb⟩;rw[hw3]at hown hb;have hRd:=Rd.start hs hown;obtain⟨sb,cap,rfl,hsb,amR,hrd⟩:=hRd;have b1:=b0.trans (hb.mono (by omega));have AU:aj w1 w.heap.size #[.slice none 0 0,.slice none 0 0] 65:=(hb.block _ (by omega)).trans kg;have Dc:aj w1 (w.heap.size+1) #[.int .i64 0] 27:=(hb.block _ (by omega)).trans ke;have Df:aj w1 (w.heap.size+2) #[.int .i64 0] 3:=(hb.block _ (by omega)).trans ka;have s1:w.heap.size+3<=w1.heap.size:=by omega
  clear kg ke ka hown hb hw3;go_wp2_with fail;refine (af5 sb cap _ w1.heap.size _ _ hrd).mono ?_;intro e w2 he;have b2:=b1.alloc (by omega) (.cells #[.slice (some ⟨sb,0,none⟩) (Lx.lex s).length cap,.int .i64 0] 109);have hsz:(w1.alloc (.cells #[.slice (some ⟨sb,0,none⟩) (Lx.lex s).length cap,.int .i64 0] 109)).heap.size=w1.heap.size+1:=by simp
  cases hpg:gX (Lx.lex s) with
  | error x =>
   obtain⟨n,a⟩:=x;obtain⟨rfl,hg⟩:=he.err hpg;have HP:Hid (Lx.parse s=.error (n,a)):=by show _=_;unfold Lx.parse;rw[if_neg hlong,hpg]
   have b3:=b2.grown hg (by rw[hsz];omega) (fun k hk=>by cases hk;omega);have xL:=(AU.alloc _).grown hg (by simp;omega);have xM:=(Dc.alloc _).grown hg (by simp;omega);have IZ:=(Df.alloc _).grown hg (by simp;omega);have hs2:=hg.size;rw[hsz]at hs2;clear hpg he;refine leaves_cons (f:=42) (args:=#[.pointer (some ⟨w.heap.size,0,none⟩),.pointer (some ⟨w.heap.size+1,0,none⟩),.pointer (some ⟨w.heap.size+2,0,none⟩)]) (by simp) (by simp[go_sem]) ?_;refine (aeC w.heap.size n a 0 0 [] w2 (by omega) xL xM IZ).mono ?_;rintro e u' w3 ⟨rfl,rfl,hb3,kg3,zk,ka3⟩;have g0:w3.cell? ⟨w.heap.size,0,none⟩=some (.slice none 0 0):=kg3.cell 0;have g1:w3.cell? ⟨w.heap.size,1,none⟩=some (.slice none 0 0):=kg3.cell 1;have e0:w3.cell? ⟨w.heap.size+1,0,none⟩=some (.int .i64 n):=zk.cell 0;have a0:w3.cell? ⟨w.heap.size+2,0,none⟩=some (.int .i64 a):=ka3.cell 0;have e0':w3.cell? ⟨w.heap.size+1+1,0,none⟩=some (.int .i64 a):=ka3.cell 0;refine⟨.tuple #[.agg #[.slice none 0 0,.slice none 0 0],.int .i64 n,.int .i64 a],by simp[results,results24,go_sem,g0,g1,e0,a0],?_⟩;exact wZ.no HP.out (b3.trans hb3)
  | ok x =>
   obtain⟨g,ts'⟩:=x;obtain⟨v,rfl,hg,H9,vl,vr,rfl,hG⟩:=he.ok hpg;have HP:Hid (Lx.parse s=.ok g):=by show _=_;unfold Lx.parse;rw[if_neg hlong,hpg]
   obtain⟨la,lk,lc,rfl⟩:=Seq.form hG.1;obtain⟨ra,rk,rc,rfl⟩:=eO.form hG.2;have b3:=b2.grown hg (by rw[hsz];omega) (fun k hk=>by cases hk;omega);have xL:=(AU.alloc _).grown hg (by simp;omega);have xM:=(Dc.alloc _).grown hg (by simp;omega);have IZ:=(Df.alloc _).grown hg (by simp;omega);have g0:w2.cell? ⟨w.heap.size,0,none⟩=some (.slice none 0 0):=xL.cell 0;have g1:w2.cell? ⟨w.heap.size,1,none⟩=some (.slice none 0 0):=xL.cell 1;have e0:w2.cell? ⟨w.heap.size+1,0,none⟩=some (.int .i64 0):=xM.cell 0;have a0:w2.cell? ⟨w.heap.size+2,0,none⟩=some (.int .i64 0):=IZ.cell 0;have fg:∀ i,w2.frozen? ⟨w.heap.size,i,none⟩=false:=xL.frozen;have fe:∀ i,w2.frozen? ⟨w.heap.size+1,i,none⟩=false:=xM.frozen;have fa:∀ i,w2.frozen? ⟨w.heap.size+2,i,none⟩=false:=IZ.frozen;rw[hsz]at hG;clear hpg he hrd H9 AU Dc Df xL xM IZ;go_wp2_with fail;refine leaves_cons (f:=42) (args:=#[.pointer (some ⟨w.heap.size,0,none⟩),.pointer (some ⟨w.heap.size+1,0,none⟩),.pointer (some ⟨w.heap.size+2,0,none⟩)]) (by simp) (by simp[go_sem]) ?_;refine (Wp _ _ _ _).mono ?_;rintro e u' w'' ⟨rfl,rfl,rfl⟩;refine⟨.tuple #[.agg #[.slice la lk lc,.slice ra rk rc],.int .i64 0,.int .i64 0],by simp[results,results24,go_sem,g0,g1,e0,a0],?_⟩;refine wZ.yes HP.out ((((b3.setCell (lr0) _).setCell (lr0) _).setCell (by simp) _).setCell (by simp;omega) _) ?_;refine hG.move (fun b hb=>?_) (fun b hb=>?_)
   ·have h1:=hb.1
    rw[hs0 (fun e=>by have e':b=w.heap.size+1+1:=e;omega),hs0 (fun e=>by have e':b=w.heap.size+1:=e;omega),hs0 (fun e=>by have e':b=w.heap.size:=e;omega),hs0 (fun e=>by have e':b=w.heap.size:=e;omega)]
   ·have h1:=hb.1
    have h2:=hb.2;exact⟨by omega,by simpa [World.setCell]using h2⟩
end
section
open Go.RowKit
open Lx (Tk)
open Tr
namespace Lx
theorem ahZ {s:ByteArray}{g:Gr}(h:parse s=.ok g):s.size<=2000/\∃ ts',gX (lex s)=.ok (g,ts'):=by
 unfold parse at h
 split at h
 ·cases h
 ·rename_i hs
  cases hr:gX (lex s) with
  | error e=>rw[hr]at h;cases h
  | ok x =>
   obtain⟨g',ts'⟩:=x;rw[hr]at h;cases h;exact⟨by omega,ts',rfl⟩
end Lx
end
section
open Go.RowKit
open Lx (Tk)
open Tr
namespace Lx
theorem Wq:∀ (f:Nat) (ts:List Tk) (acc l:List Rl) (ts':List Tk),ts.length<=f->iE f ts acc=.ok (l,ts')->hd ts'=aM
 | 0,ts,acc,l,ts',hl,h=>by
  simp only[iE,Except.ok.injEq,Prod.mk.injEq]at h;cases ts with
  | nil=>rw[<-h.2];rfl
  | cons t r=>simp at hl
 | f+1,ts,acc,l,ts',hl,h=>by
  simp only[iE]at h
  split at h
  ·rename_i h0
   simp only[Except.ok.injEq,Prod.mk.injEq]at h;rw[<-h.2];exact h0
  ·rename_i h0
   cases hr:dI ts with
   | error e=>rw[hr]at h;cases h
   | ok y =>
    obtain⟨x,aC⟩:=y;rw[hr]at h;have h1:=GQ hr;have h2:ts.tail.length+1<=ts.length:=by
     cases ts with
     | nil=>exact absurd rfl h0
     | cons t r=>simp
    exact Wq f aC _ l ts' (by omega) h
theorem ae3 {ts ts':List Tk}{g:Gr}(h:gX ts=.ok (g,ts')):hd ts'=aM:=by
 unfold gX at h;cases h1:fP ts.length ts [] with
 | error e=>rw[h1]at h;cases h
 | ok y =>
  obtain⟨lv,aC⟩:=y;rw[h1]at h;simp only at h;cases h2:dI aC with
  | error e=>rw[h2]at h;cases h
  | ok y =>
   obtain⟨x,bL⟩:=y;rw[h2]at h;simp only at h;cases h3:iE bL.length bL [x] with
   | error e=>rw[h3]at h;cases h
   | ok y =>
    obtain⟨l,fu⟩:=y;rw[h3]at h;simp only[Except.ok.injEq,Prod.mk.injEq]at h;rw[<-h.2];exact Wq _ _ _ _ _ (lr0) h3
end Lx
end
namespace Lx
section
variable (k:Nat)
variable {k}
end
abbrev Wd:=Nat × ByteArray × Nat
def xw (il:Bool)(t:Tk):Bool:=if isName t.1=true then false else il
def qN (aO:ByteArray)(il:Bool)(t:Tk)(nx:ByteArray):List Wd :=
 if isName t.1=true then [(if nx=kV then 1 else 2,t.1,t.2)]
 else if isToken t.1=true then [(if il=true then 0 else if aO=jf then 4 else 3,t.1,t.2)]
 else []
def wl:ByteArray->Bool->List Tk->List Wd
 | _,_,[]=>[]
 | aO,il,t::ts=>qN aO il t (hd ts)++wl t.1 (xw il t) ts
def dD:Nat->List Alt->List Wd
 | 0,_=>[]
 | d+1,l=>l.flatMap fun a=>(a.1.flatMap fun x=>(if x.kind=0 then [(2,x.name,x.place)] else if x.kind=1 then [(3,x.name,x.place)] else [])++dD d x.alts)++(if a.2.1=aM then [] else [(4,a.2.1,a.2.2)])
def j6 (d:Nat)(x:It):List Wd:=(if x.kind=0 then [(2,x.name,x.place)] else if x.kind=1 then [(3,x.name,x.place)] else [])++dD d x.alts
def qd (d:Nat)(a:Alt):List Wd:=a.1.flatMap (j6 d)++(if a.2.1=aM then [] else [(4,a.2.1,a.2.2)])
theorem Xq:∀ d,dD d []=[]
 | 0=>rfl
 | _+1=>rfl
theorem Er (d:Nat)(l:List Alt):dD (d+1) l=l.flatMap (qd d):=rfl
def iO (g:Gr):List Wd:=(g.levels.flatMap fun lv=>lv.tokens.map fun t=>(0,t.1,t.2))++g.rules.flatMap fun r=>(1,r.name,r.place)::dD 9 r.alts
def Pass {α:Type}(fl:α->List Wd)(f:List Tk->aV α):Prop:=∀ ts x ts',WF ts->f ts=.ok (x,ts')->WF ts'/\(hd ts'≠kV->∀ aO,aO≠jf->∃ kQ,kQ≠jf/\wl aO false ts=fl x++wl kQ false ts')
theorem Ad {ts:List Tk}(h:WF ts)(aO:ByteArray)(il:Bool):wl aO il ts=qN aO il (hd ts,pl ts) (hd ts.tail)++wl (hd ts) (xw il (hd ts,pl ts)) ts.tail:=by
 cases ts with
 | nil=>exact h.elim
 | cons t r=>rfl
theorem QN {t:ByteArray}{p:Nat}{nx aO:ByteArray}{il:Bool}(h1:isName t=false)(h2:isToken t=false):qN aO il (t,p) nx=[]:=by
 unfold qN;simp only[h1,h2];rfl
theorem Ce {t:ByteArray}{p:Nat}(h1:isName t=false)(il:Bool):xw il (t,p)=il:=by
 unfold xw;simp only[h1];rfl
theorem yK {ts:List Tk}(h:WF ts){b:ByteArray}(hb:hd ts=b)(h1:isName b=false)(h2:isToken b=false)(aO:ByteArray)(il:Bool):wl aO il ts=wl b il ts.tail:=by
 rw[Ad h,hb,QN h1 h2,Ce h1];rfl
theorem K5 {b:ByteArray}(hn:b≠aM)(h1:isName b=false)(h2:isToken b=false){ts ts':List Tk}{u:Unit}(hw:WF ts)(h:gU b ts=.ok (u,ts'))(aO:ByteArray)(il:Bool):WF ts'/\wl aO il ts=wl b il ts':=by
 obtain⟨e1,e2⟩:=wY h;subst e1;exact⟨hw.tail (by rw[e2];exact hn),yK hw e2 h1 h2 aO il⟩
theorem EA {ts:List Tk}(hw:WF ts){aO:ByteArray}(hb:aO≠jf):WF (bK ts).2/\∃ kQ,kQ≠jf/\wl aO false ts=wl kQ false (bK ts).2:=by
 unfold bK
 split
 ·rename_i h;exact⟨hw.tail (by rw[h];decide),_,by decide,yK hw h (by decide) (by decide) aO false⟩
 ·split
  ·rename_i h;exact⟨hw.tail (by rw[h];decide),_,by decide,yK hw h (by decide) (by decide) aO false⟩
  ·split
   ·rename_i h;exact⟨hw.tail (by rw[h];decide),_,by decide,yK hw h (by decide) (by decide) aO false⟩
   ·exact⟨hw,aO,hb,rfl⟩
theorem ah0 {ts:List Tk}(h:hd (bK ts).2≠kV):hd ts≠kV:=by
 unfold bK at h
 split at h
 ·rename_i h1;rw[h1];decide
 ·split at h
  ·rename_i h1;rw[h1];decide
  ·split at h
   ·rename_i h1;rw[h1];decide
   ·exact h
theorem Ae {k:ByteArray->Bool}(h0:k aM=false){t:ByteArray}(h:k t=true):t≠aM:=fun e=>by rw[e,h0]at h;cases h
theorem agS {t:ByteArray}(h:isName t=true):t≠jf:=fun e=>by rw[e]at h;exact absurd h (by decide)
theorem Yr {t:ByteArray}(h:isToken t=true):t≠jf:=fun e=>by rw[e]at h;exact absurd h (by decide)
theorem yF {t:ByteArray}(h:isToken t=true):isName t=false:=by
 unfold isToken isWord at h;simp only[Bool.and_eq_true]at h;have hc:=h.1.2;unfold isName isWord;have:small (bY t 0)=false:=by
  unfold capital at hc;unfold small;have:=of_decide_eq_true hc;exact decide_eq_false (by omega)
 simp[this]
theorem Ws {d:Nat}{aF:List Tk->aV (List Alt)}(hg:∀ ts x ts',WF ts->hd ts=jr->aF ts=.ok (x,ts')->WF ts'/\∀ aO,∃ kQ,kQ≠jf/\wl aO false ts=dD d x++wl kQ false ts'):Pass (j6 d) (dh aF):=fun ts x ts' hw h=>by
 rw[ahU]at h
 split at h
 ·rename_i ho
  obtain⟨al,t1,h1,h2⟩:=nu h;cases h2;obtain⟨w1,k1⟩:=hg _ _ _ hw ho h1;refine⟨(EA w1 (aO:=aM) (by decide)).1,fun _ aO hb=>?_⟩;obtain⟨b1,n1,e1⟩:=k1 aO;obtain⟨_,b2,n2,e2⟩:=EA w1 n1;refine⟨b2,n2,?_⟩;rw[e1,e2];simp only[j6,List.append_assoc];rfl
 ·split at h
  ·rename_i ho hnm
   cases h;have wt:=hw.tail (Ae (by decide) hnm);refine⟨(EA wt (aO:=aM) (by decide)).1,fun he aO hb=>?_⟩;obtain⟨_,b2,n2,e2⟩:=EA wt (agS hnm);refine⟨b2,n2,?_⟩;rw[Ad hw,show xw false (hd ts,pl ts)=false by unfold xw;split <;> rfl,e2];unfold qN j6;simp only[hnm,if_true,if_neg (ah0 he),Xq,List.append_nil]
  ·split at h
   ·rename_i ho hnm htk
    cases h;have wt:=hw.tail (Ae (by decide) htk);refine⟨(EA wt (aO:=aM) (by decide)).1,fun he aO hb=>?_⟩;obtain⟨_,b2,n2,e2⟩:=EA wt (Yr htk);refine⟨b2,n2,?_⟩;rw[Ad hw,Ce (yF htk),e2];unfold qN j6;simp only[yF htk,htk,if_true,if_neg hb,Xq,List.append_nil];simp
   ·cases h
theorem ai7 {ts:List Tk}(h:kJ ts=true):hd ts≠kV:=by
 intro e;unfold kJ at h;rw[e]at h;exact absurd h (by decide)
theorem VJ {d:Nat} {aF:List Tk->aV (List Alt)} (hp:Pass (j6 d) (dh aF)) (hl:∀ ts x ts',aF ts=.ok (x,ts')->ts'.length<=ts.tail.length):∀ (f:Nat) (ts:List Tk) (a x:List It) (ts':List Tk),WF ts->ts.length<=f->dU aF f ts a=.ok (x,ts')->WF ts'/\∃ y,x=a++y/\(hd ts'≠kV->hd ts≠kV/\∀ aO,aO≠jf->∃ kQ,kQ≠jf/\wl aO false ts=y.flatMap (j6 d)++wl kQ false ts')
 | 0,ts,a,x,ts',hw,hf,h=>by have:=hw.ne;omega
 | f+1,ts,a,x,ts',hw,hf,h=>by
  rw[agO]at h
  split at h
  ·rename_i hs
   obtain⟨z,t1,h1,h2⟩:=nu h;obtain⟨w1,k1⟩:=hp _ _ _ hw h1;have hlen:=Et hl h1;have htl:=hw.mJ;obtain⟨w2,y,e1,k2⟩:=VJ hp hl f t1 _ x ts' w1 (by omega) h2;refine⟨w2,z::y,by rw[e1];simp,fun he=>⟨ai7 hs,fun aO hb=>?_⟩⟩;obtain⟨n1,k3⟩:=k2 he;obtain⟨b1,hb1,e2⟩:=k1 n1 aO hb;obtain⟨b2,hb2,e3⟩:=k3 b1 hb1;exact⟨b2,hb2,by rw[e2,e3,List.flatMap_cons,List.append_assoc]⟩
  ·cases h
   exact⟨hw,[],by simp,fun he=>⟨he,fun aO hb=>⟨aO,hb,rfl⟩⟩⟩
theorem af6 (top:Bool)(a:List It){ts ts':List Tk}{x:Alt}(hw:WF ts)(h:mq top a ts=.ok (x,ts')):WF ts'/\x.1=a/\(hd ts'≠kV->hd ts≠kV)/\∀ aO,aO≠jf->∃ kQ,kQ≠jf/\wl aO false ts=(if x.2.1=aM then [] else [(4,x.2.1,x.2.2)])++wl kQ false ts':=by
 rw[ahV]at h
 split at h
 ·rename_i hc
  obtain⟨b,t1,h1,h2⟩:=nu h;cases h2;obtain⟨e1,e2,e3⟩:=mY h1;have wt:=hw.tail (by rw[hc.2];decide);subst e1 e2;refine⟨wt.tail (Ae (by decide) e3),rfl,fun _=>by rw[hc.2];decide,fun aO hb=>⟨hd ts.tail,Yr e3,?_⟩⟩;rw[yK hw hc.2 (by decide) (by decide),Ad wt,Ce (yF e3)];rw[if_neg (Ae (by decide) e3)];unfold qN;simp only[yF e3,e3,if_true];simp
 ·cases h
  exact⟨hw,rfl,fun h=>h,fun aO hb=>⟨aO,hb,by simp⟩⟩
theorem Xr {d:Nat}{aF:List Tk->aV (List Alt)}(hp:Pass (j6 d) (dh aF))(hl:∀ ts x ts',aF ts=.ok (x,ts')->ts'.length<=ts.tail.length)(top:Bool):Pass (qd d) (dJ aF top):=fun ts x ts' hw h=>by
 rw[ai3]at h;obtain⟨y,t1,h1,h2⟩:=nu h;obtain⟨w1,z,e1,k1⟩:=VJ hp hl _ _ _ _ _ hw (lr0) h1;obtain⟨w2,e2,n2,k2⟩:=af6 top _ w1 h2;refine⟨w2,fun he aO hb=>?_⟩;obtain⟨_,k3⟩:=k1 (n2 he);obtain⟨b1,hb1,q1⟩:=k3 aO hb;obtain⟨b2,hb2,q2⟩:=k2 b1 hb1;refine⟨b2,hb2,?_⟩;rw[q1,q2];unfold qd;rw[e2,e1,List.nil_append,List.append_assoc]
theorem Wt {d:Nat} {aF:List Tk->aV (List Alt)} (hp:Pass (j6 d) (dh aF)) (hl:∀ ts x ts',aF ts=.ok (x,ts')->ts'.length<=ts.tail.length) (top:Bool):∀ (f:Nat) (ts:List Tk) (a x:List Alt) (ts':List Tk),WF ts->ts.length<=f->iZ aF top f ts a=.ok (x,ts')->WF ts'/\∃ y,x=a++y/\(hd ts'≠kV->hd ts≠kV/\∀ aO,aO≠jf->∃ kQ,kQ≠jf/\wl aO false ts=y.flatMap (qd d)++wl kQ false ts')
 | 0,ts,a,x,ts',hw,hf,h=>by have:=hw.ne;omega
 | f+1,ts,a,x,ts',hw,hf,h=>by
  rw[ahW]at h
  split at h
  ·rename_i hs
   obtain⟨z,t1,h1,h2⟩:=nu h;have wt:=hw.tail (by rw[hs];decide);obtain⟨w1,k1⟩:=Xr hp hl top _ _ _ wt h1;have hlen:=BZ hl h1;have htl:=hw.mJ;obtain⟨w2,y,e1,k2⟩:=Wt hp hl top f t1 _ x ts' w1 (by omega) h2;refine⟨w2,z::y,by rw[e1];simp,fun he=>⟨by rw[hs];decide,fun aO hb=>?_⟩⟩;obtain⟨n1,k3⟩:=k2 he;obtain⟨b1,hb1,e2⟩:=k1 n1 sP (by decide);obtain⟨b2,hb2,e3⟩:=k3 b1 hb1;refine⟨b2,hb2,?_⟩;rw[yK hw hs (by decide) (by decide),e2,e3,List.flatMap_cons,List.append_assoc]
  ·cases h
   exact⟨hw,[],by simp,fun he=>⟨he,fun aO hb=>⟨aO,hb,rfl⟩⟩⟩
theorem Vb {d:Nat}{aF:List Tk->aV (List Alt)}(hp:Pass (j6 d) (dh aF))(hl:∀ ts x ts',aF ts=.ok (x,ts')->ts'.length<=ts.tail.length)(top:Bool):Pass (dD (d+1)) (ni aF top):=fun ts x ts' hw h=>by
 rw[af2]at h;obtain⟨y,t1,h1,h2⟩:=nu h;obtain⟨w1,k1⟩:=Xr hp hl top _ _ _ hw h1;obtain⟨w2,z,e1,k2⟩:=Wt hp hl top _ _ _ _ _ w1 (lr0) h2;refine⟨w2,fun he aO hb=>?_⟩;obtain⟨n1,k3⟩:=k2 he;obtain⟨b1,hb1,q1⟩:=k1 n1 aO hb;obtain⟨b2,hb2,q2⟩:=k3 b1 hb1;refine⟨b2,hb2,?_⟩;rw[q1,q2,e1,Er,List.flatMap_append,List.flatMap_cons,List.flatMap_nil,List.append_nil,List.append_assoc]
theorem afo {d:Nat}{r:List Tk->aV (List Alt)}(hr:Pass (dD d) r)(ts:List Tk)(x:List Alt)(ts':List Tk)(hw:WF ts)(ho:hd ts=jr)(h:mK r ts=.ok (x,ts')):WF ts'/\∀ aO,∃ kQ,kQ≠jf/\wl aO false ts=dD d x++wl kQ false ts':=by
 rw[agP]at h;obtain⟨y,t1,h1,h2⟩:=nu h;obtain⟨u,t2,h3,h4⟩:=nu h2;cases h4;obtain⟨w1,k1⟩:=hr _ _ _ (hw.tail (by rw[ho];decide)) h1;have e3:=(wY h3).2;obtain⟨w2,k2⟩:=K5 (by decide) (by decide) (by decide) w1 h3 aM false;refine⟨w2,fun aO=>?_⟩;obtain⟨b1,hb1,q1⟩:=k1 (by rw[e3];decide) jr (by decide);refine⟨sM,by decide,?_⟩;rw[yK hw ho (by decide) (by decide),q1,(K5 (by decide) (by decide) (by decide) w1 h3 b1 false).2]
theorem Wu:∀ d,Pass (dD (d+1)) (iN d)
 | 0=>Vb (aF:=fun ts=>.error (3,pl ts)) (Ws (fun _ _ _ _ _ h=>by cases h)) (fun _ _ _ h=>by cases h) false
 | d+1=>Vb (Ws (afo (Wu d))) (OP (KJ d)) (d == 7)
theorem Wv {ts ts':List Tk}{x:Rl}(hw:WF ts)(h:dI ts=.ok (x,ts')):WF ts'/\∀ aO il,wl aO il ts=(1,x.name,x.place)::dD 9 x.alts++wl iI false ts':=by
 rw[ahX]at h;obtain⟨n,t1,h1,h2⟩:=nu h;obtain⟨_,t2,h3,h4⟩:=nu h2;obtain⟨l,t3,h5,h6⟩:=nu h4;obtain⟨_,t4,h7,h8⟩:=nu h6;cases h8;obtain⟨e1,e2,e3⟩:=mY h1;subst e1 e2;have wt:=hw.tail (Ae (by decide) e3);have heq:=(wY h3).2;obtain⟨w2,k2⟩:=K5 (by decide) (by decide) (by decide) wt h3 (hd ts) false;obtain⟨w3,k3⟩:=Wu 8 _ _ _ w2 h5;have hsm:=(wY h7).2;obtain⟨b1,hb1,q1⟩:=k3 (by rw[hsm];decide) kV (by decide);obtain⟨w4,k4⟩:=K5 (by decide) (by decide) (by decide) w3 h7 b1 false;refine⟨w4,fun aO il=>?_⟩;rw[Ad hw,show xw il (hd ts,pl ts)=false by unfold xw;rw[if_pos e3],k2,q1,k4];unfold qN;simp only[e3,if_true,heq];simp
theorem Vd:∀ (f:Nat) (ts a x ts':List Tk),WF ts->ts.length<=f->iX f ts a=.ok (x,ts')->WF ts'/\∃ y,x=a++y/\∀ aO,wl aO true ts=y.map (fun t=>(0,t.1,t.2))++wl iI true ts'
 | 0,ts,a,x,ts',hw,hf,h=>by have:=hw.ne;omega
 | f+1,ts,a,x,ts',hw,hf,h=>by
  rw[af3]at h
  split at h
  ·rename_i hs
   cases h;exact⟨hw.tail (by rw[hs];decide),[],by simp,fun aO=>by rw[yK hw hs (by decide) (by decide)];rfl⟩
  ·obtain⟨b,t1,h1,h2⟩:=nu h
   obtain⟨e1,e2,e3⟩:=mY h1;subst e1 e2;have wt:=hw.tail (Ae (by decide) e3);have htl:=hw.mJ;obtain⟨w2,y,q1,q2⟩:=Vd f ts.tail _ x ts' wt (by omega) h2;refine⟨w2,(hd ts,pl ts)::y,by rw[q1];simp,fun aO=>?_⟩;rw[Ad hw,Ce (yF e3),q2];unfold qN;simp only[yF e3,e3,if_true];simp
theorem afp {ts ts':List Tk}{x:Lv}(hw:WF ts)(hk:0<=fM (hd ts))(h:gZ ts=.ok (x,ts')):WF ts'/\∀ aO,wl aO true ts=x.tokens.map (fun t=>(0,t.1,t.2))++wl iI true ts':=by
 rw[KO]at h;obtain⟨b,t1,h1,h2⟩:=nu h;obtain⟨l,t2,h3,h4⟩:=nu h2;cases h4;have hcase:hd ts=Ap\/hd ts=Ak\/hd ts=Aq:=by
  unfold fM at hk
  split at hk
  ·rename_i h;exact .inl h
  ·split at hk
   ·rename_i h;exact .inr (.inl h)
   ·split at hk
    ·rename_i h;exact .inr (.inr h)
    ·exact absurd hk (by decide)
 have hno:isName (hd ts)=false/\isToken (hd ts)=false/\hd ts≠aM:=by
  rcases hcase with e | e | e <;> rw[e] <;> decide
 have wt:=hw.tail hno.2.2;obtain⟨e1,e2,e3⟩:=mY h1;subst e1 e2;have wt2:=wt.tail (Ae (by decide) e3);obtain⟨w3,y,q1,q2⟩:=Vd _ _ _ _ _ wt2 (lr0) h3;refine⟨w3,fun aO=>?_⟩;rw[yK hw rfl hno.1 hno.2.1,Ad wt,Ce (yF e3),q2,q1];unfold qN;simp only[yF e3,e3,if_true];simp
theorem Ve:∀ (f:Nat) (ts:List Tk) (a x:List Lv) (ts':List Tk),WF ts->fP f ts a=.ok (x,ts')->WF ts'/\∃ y,x=a++y/\∀ aO,∃ kQ,wl aO true ts=(y.flatMap fun lv=>lv.tokens.map fun t=>(0,t.1,t.2))++wl kQ true ts'
 | 0,ts,a,x,ts',hw,h=>by cases h;exact⟨hw,[],by simp,fun aO=>⟨aO,rfl⟩⟩
 | f+1,ts,a,x,ts',hw,h=>by
  rw[af4]at h
  split at h
  ·rename_i hk
   obtain⟨z,t1,h1,h2⟩:=nu h;obtain⟨w1,k1⟩:=afp hw hk h1;obtain⟨w2,y,e1,k2⟩:=Ve f t1 _ x ts' w1 h2;refine⟨w2,z::y,by rw[e1];simp,fun aO=>?_⟩;obtain⟨b2,q2⟩:=k2 iI;exact⟨b2,by rw[k1,q2,List.flatMap_cons,List.append_assoc]⟩
  ·cases h;exact⟨hw,[],by simp,fun aO=>⟨aO,rfl⟩⟩
theorem VK:∀ (f:Nat) (ts:List Tk) (a x:List Rl) (ts':List Tk),WF ts->iE f ts a=.ok (x,ts')->WF ts'/\∃ y,x=a++y/\∀ aO il,∃ kQ il',wl aO il ts=(y.flatMap fun r=>(1,r.name,r.place)::dD 9 r.alts)++wl kQ il' ts'
 | 0,ts,a,x,ts',hw,h=>by cases h;exact⟨hw,[],by simp,fun aO il=>⟨aO,il,rfl⟩⟩
 | f+1,ts,a,x,ts',hw,h=>by
  rw[agQ]at h
  split at h
  ·cases h;exact⟨hw,[],by simp,fun aO il=>⟨aO,il,rfl⟩⟩
  ·obtain⟨z,t1,h1,h2⟩:=nu h
   obtain⟨w1,k1⟩:=Wv hw h1;obtain⟨w2,y,e1,k2⟩:=VK f t1 _ x ts' w1 h2;refine⟨w2,z::y,by rw[e1];simp,fun aO il=>?_⟩;obtain⟨b2,il2,q2⟩:=k2 iI false;exact⟨b2,il2,by rw[k1,q2,List.flatMap_cons,List.append_assoc]⟩
theorem OT {s:ByteArray}{g:Gr}(h:parse s=.ok g):wl aM true (lex s)=iO g:=by
 obtain⟨_,ts',hp⟩:=ahZ h;have hend:=ae3 hp;rw[ae1]at hp;obtain⟨lv,t1,h1,h2⟩:=nu hp;obtain⟨x,t2,h3,h4⟩:=nu h2;obtain⟨l,t3,h5,h6⟩:=nu h4;cases h6;obtain⟨w1,y1,e1,k1⟩:=Ve _ _ _ _ _ (lex_wf s) h1;obtain⟨w2,k2⟩:=Wv w1 h3;obtain⟨w3,y3,e3,k3⟩:=VK _ _ _ _ _ w2 h5;obtain⟨b1,q1⟩:=k1 aM;obtain⟨b3,il3,q3⟩:=k3 iI false;have hlast:wl b3 il3 ts'=[]:=by
  rw[Ad w3,hend,QN (by decide) (by decide)];have:=w3
  match ts',this,hend with
  | [t],_,_=>rfl
  | t::u::r,h,e=>exact absurd e h.1
 rw[q1,k2,q3,hlast,e1,e3];unfold iO;simp
theorem Yt:∀ (ts:List Tk) (aO:ByteArray) (il:Bool) (w:Wd),w∈wl aO il ts->((w.1=1\/w.1=2)/\isName w.2.1=true)\/((w.1=0\/w.1=3\/w.1=4)/\isToken w.2.1=true)
 | [],_,_,_,h=>by cases h
 | t::ts,aO,il,w,h=>by
  rcases List.mem_append.1 h with h | h
  ·unfold qN at h
   split at h
   ·rename_i hn
    simp only[List.mem_singleton]at h;subst h
    left
    refine⟨?_,hn⟩
    by_cases he:hd ts=kV
    ·left;simp[he]
    ·right;simp[he]
   ·split at h
    ·rename_i hn ht
     simp only[List.mem_singleton]at h;subst h
     right
     refine⟨?_,ht⟩
     by_cases h1:il=true
     ·left;simp[h1]
     ·by_cases h2:aO=jf
      ·right;right;simp[h1,h2]
      ·right;left;simp[h1,h2]
    ·cases h
  ·exact Yt ts _ _ w h
theorem Es {s:ByteArray}{g:Gr}(h:parse s=.ok g)(w:Wd)(hw:w∈iO g):((w.1=1\/w.1=2)/\isName w.2.1=true)\/((w.1=0\/w.1=3\/w.1=4)/\isToken w.2.1=true):=by
 rw[<-OT h]at hw;exact Yt _ _ _ w hw
theorem OA {t:ByteArray}(h1:isName t=true)(h2:isToken t=true):False:=by rw[yF h2]at h1;cases h1
def told (ws:List Wd):List Wd:=ws.filter fun w=>decide (w.1=0\/w.1=1)
def iR (b:ByteArray)(l:List ByteArray):Bool:=l.any fun x=>decide (x=b)
theorem xu {b:ByteArray}{l:List ByteArray}:iR b l=true↔b∈l:=by
 unfold iR;rw[List.any_eq_true];constructor
 ·rintro⟨x,hx,e⟩
  have:=of_decide_eq_true e;subst this;exact hx
 ·intro h;exact⟨b,h,decide_eq_true rfl⟩
def bS:List ByteArray->List Wd->Option Nat
 | _,[]=>none
 | seen,w::ws=>if iR w.2.1 seen=true then some w.2.2 else bS (w.2.1::seen) ws
def iC (g:Gr):List Wd:=g.levels.flatMap fun lv=>lv.tokens.map fun t=>(0,t.1,t.2)
def lQ (g:Gr):List Wd:=g.rules.map fun r=>(1,r.name,r.place)
theorem Kt:∀ (d:Nat) (l:List Alt) (w:Wd),w∈dD d l->w.1=2\/w.1=3\/w.1=4
 | 0,_,_,h=>by cases h
 | d+1,l,w,h=>by
  rw[Er]at h;obtain⟨a,_,h⟩:=List.mem_flatMap.1 h;rcases List.mem_append.1 h with h | h
  ·obtain⟨x,_,h⟩:=List.mem_flatMap.1 h
   rcases List.mem_append.1 h with h | h
   ·split at h
    ·simp only[List.mem_singleton]at h;subst h;exact .inl rfl
    ·split at h
     ·simp only[List.mem_singleton]at h;subst h;exact .inr (.inl rfl)
     ·cases h
   ·exact Kt d _ w h
  ·split at h
   ·cases h
   ·simp only[List.mem_singleton]at h;subst h;exact .inr (.inr rfl)
theorem af7 (d:Nat)(l:List Alt):told (dD d l)=[]:=by
 unfold told;rw[List.filter_eq_nil_iff];intro w hw;have:=Kt d l w hw;simp only[decide_eq_true_eq];omega
theorem afq (g:Gr):told (iC g)=iC g:=by
 unfold told;rw[List.filter_eq_self];intro w hw;unfold iC at hw;obtain⟨lv,_,hw⟩:=List.mem_flatMap.1 hw;obtain⟨t,_,rfl⟩:=List.mem_map.1 hw;rfl
theorem KP (g:Gr):told (iO g)=iC g++lQ g:=by
 unfold iO;have h1:told (iC g)=iC g:=afq g;have h2:∀ rs:List Rl,told (rs.flatMap fun r=>(1,r.name,r.place)::dD 9 r.alts)=rs.map fun r=>(1,r.name,r.place):=by
  intro rs
  induction rs with
  | nil=>rfl
  | cons r rs ih =>
   rw[List.flatMap_cons,List.map_cons,<-ih];have h3:=af7 9 r.alts;unfold told at h3 |-;rw[List.filter_append,List.filter_cons,h3];rfl
 show told (iC g++_)=_;unfold told at h1 h2 |-;rw[List.filter_append,h1,h2];rfl
def l9 (names toks:List ByteArray):List Wd->Option Nat
 | []=>none
 | w::ws=>if (w.1=2/\iR w.2.1 names=false)\/(w.1=4/\iR w.2.1 toks=false) then some w.2.2 else l9 names toks ws
theorem Ou (names toks:List ByteArray)(a b:List Wd):l9 names toks (a++b)=(l9 names toks a).or (l9 names toks b):=by
 induction a with
 | nil=>simp[l9]
 | cons w a ih =>
  simp only[List.cons_append,l9]
  split
  ·rfl
  ·exact ih
def iter {σ:Type} (R:σ->σ):Nat->σ->σ
 | 0,s=>s
 | k+1,s=>iter R k (R s)
theorem VL {σ:Type} {R:σ->σ} {Inv Closed:σ->Prop} {cnt:σ->Nat} {N:Nat} (hI:∀ s,Inv s->Inv (R s)) (hN:∀ s,Inv s->cnt s<=N) (hp:∀ s,Inv s->¬ Closed s->cnt s<cnt (R s)) (hk:∀ s,Inv s->Closed s->R s=s):∀ (k:Nat) (s:σ),Inv s->N+1<=k+cnt s->Closed (iter R k s)
 | 0,s,hi,h=>by have:=hN s hi;omega
 | k+1,s,hi,h=>by
  by_cases hc:Closed s
  ·have:∀ k,iter R k s=s:=by
    intro k
    induction k with
    | zero=>rfl
    | succ k ih=>rw[iter,hk s hi hc,ih]
   rw[this];exact hc
  ·have:=hp s hi hc
   exact VL hI hN hp hk k (R s) (hI s hi) (by omega)
def eX (ws:List Wd):List ByteArray:=ws.map fun w=>w.2.1
theorem Ww {b:ByteArray}{l:List ByteArray}:iR b l=false↔b ∉ l:=by
 rw[<-Bool.not_eq_true,xu]
theorem Pf {b:ByteArray}{l m:List ByteArray}(h:b∈l↔b∈m):iR b l=iR b m:=by
 cases h1:iR b l
 ·cases h2:iR b m
  ·rfl
  ·exact absurd (h.2 (xu.1 h2)) (Ww.1 h1)
 ·exact (xu.2 (h.1 (xu.1 h1))).symm
theorem Ow:∀ (ws:List Wd) (s t:List ByteArray),(∀ w∈ws,w.2.1∈s↔w.2.1∈t)->bS s ws=bS t ws
 | [],_,_,_=>rfl
 | w::ws,s,t,h=>by
  simp only[bS];rw[Pf (h w (by simp)),Ow ws (w.2.1::s) (w.2.1::t) fun u hu=>by
   simp only[List.mem_cons];rw[h u (by simp[hu])]]
theorem Vf:∀ (a b:List Wd) (s:List ByteArray),bS s (a++b)=(bS s a).or (bS ((eX a).reverse++s) b)
 | [],b,s=>by simp[bS,eX]
 | w::a,b,s=>by
  simp only[List.cons_append,bS]
  split
  ·rfl
  ·rw[Vf a b]
   simp[eX]
theorem agT {s:ByteArray}{g:Gr}(h:parse s=.ok g):bS [] (told (iO g))=(bS [] (iC g)).or (bS [] (lQ g)):=by
 rw[KP,Vf];refine congrArg _ (Ow _ _ _ fun w hw=>?_);have hin:∀ u∈iC g,isToken u.2.1=true:=fun u hu=>by
  have hm:u∈iO g:=List.mem_append_left _ hu;rcases Es h u hm with ⟨h1,_⟩ | ⟨_,h2⟩
  ·unfold iC at hu
   obtain⟨lv,_,hu⟩:=List.mem_flatMap.1 hu;obtain⟨t,_,rfl⟩:=List.mem_map.1 hu;simp at h1
  ·exact h2
 have hwn:isName w.2.1=true:=by
  have hm:w∈told (iO g):=by rw[KP];exact List.mem_append_right _ hw
  have hm2:w∈iO g:=(List.mem_filter.1 hm).1;rcases Es h w hm2 with ⟨_,h2⟩ | ⟨h1,_⟩
  ·exact h2
  ·unfold lQ at hw
   obtain⟨r,_,rfl⟩:=List.mem_map.1 hw;simp at h1
 constructor
 ·intro hm
  rw[List.append_nil,List.mem_reverse]at hm;obtain⟨u,hu,e⟩:=List.mem_map.1 hm;exfalso;exact OA hwn (by rw[<-e];exact hin u hu)
 ·intro hm;cases hm
def ow (all:List ByteArray):List Wd->Option Nat
 | []=>none
 | w::ws=>if (w.1=2\/w.1=4)/\iR w.2.1 all=false then some w.2.2 else ow all ws
def aG (g:Gr):List ByteArray:=g.rules.map fun r=>r.name
def iD (g:Gr):List ByteArray:=eX (iC g)
theorem Vg {names toks:List ByteArray} (hn:∀ b∈names,isName b=true) (ht:∀ b∈toks,isToken b=true):∀ ws:List Wd,(∀ w∈ws,((w.1=1\/w.1=2)/\isName w.2.1=true)\/((w.1=0\/w.1=3\/w.1=4)/\isToken w.2.1=true))->ow (toks++names) ws=l9 names toks ws
 | [],_=>rfl
 | w::ws,h=>by
  have ih:=Vg hn ht ws (fun u hu=>h u (by simp[hu]));simp only[ow,l9];have hw:=h w (by simp);have key:((w.1=2\/w.1=4)/\iR w.2.1 (toks++names)=false)↔((w.1=2/\iR w.2.1 names=false)\/(w.1=4/\iR w.2.1 toks=false)):=by
   rcases hw with ⟨h1,h2⟩ | ⟨h1,h2⟩
   ·have e:iR w.2.1 (toks++names)=iR w.2.1 names:=Pf ⟨fun hm=>(List.mem_append.1 hm).elim (fun hm=>(OA h2 (ht _ hm)).elim) id,fun hm=>List.mem_append_right _ hm⟩
    rw[e];constructor
    ·rintro⟨h3,h4⟩;exact .inl ⟨by omega,h4⟩
    ·rintro (⟨h3,h4⟩ | ⟨h3,_⟩)
     ·exact⟨.inl h3,h4⟩
     ·omega
   ·have e:iR w.2.1 (toks++names)=iR w.2.1 toks:=Pf ⟨fun hm=>(List.mem_append.1 hm).elim id (fun hm=>(OA (hn _ hm) h2).elim),fun hm=>List.mem_append_left _ hm⟩
    rw[e];constructor
    ·rintro⟨h3,h4⟩;exact .inr ⟨by omega,h4⟩
    ·rintro (⟨h3,_⟩ | ⟨h3,h4⟩)
     ·omega
     ·exact⟨.inr h3,h4⟩
  by_cases hc:(w.1=2\/w.1=4)/\iR w.2.1 (toks++names)=false
  ·rw[if_pos hc,if_pos (key.1 hc)]
  ·rw[if_neg hc,if_neg (fun h=>hc (key.2 h)),ih]
theorem Vh (names toks:List ByteArray):∀ ws:List Wd,(∀ w∈ws,w.1=0\/w.1=1)->l9 names toks ws=none
 | [],_=>rfl
 | w::ws,h=>by
  have:=h w (by simp);simp only[l9];rw[if_neg (by omega)];exact Vh names toks ws (fun u hu=>h u (by simp[hu]))
def yC (names toks:List ByteArray):List Rl->Option Nat
 | []=>none
 | r::rs=>(l9 names toks (dD 9 r.alts)).or (yC names toks rs)
theorem aeN (g:Gr)(names toks:List ByteArray):l9 names toks (iO g)=yC names toks g.rules:=by
 unfold iO;rw[Ou,Vh names toks _ fun w hw=>by
  obtain⟨lv,_,hw⟩:=List.mem_flatMap.1 hw;obtain⟨t,_,rfl⟩:=List.mem_map.1 hw;exact .inl rfl,Option.none_or]
 induction g.rules with
 | nil=>rfl
 | cons r rs ih =>
  rw[List.flatMap_cons,Ou,ih,yC];have e:l9 names toks ((1,r.name,r.place)::dD 9 r.alts)=l9 names toks (dD 9 r.alts):=by
   simp only[l9];rw[if_neg (by simp)]
  rw[e]
def au (bs:List Bool)(i:Nat):Bool:=bs[i]?.getD false
def bO (a b:List Bool):Prop:=a.length=b.length/\∀ i,au a i=true->au b i=true
theorem bO.refl (a:List Bool):bO a a:=⟨rfl,fun _ h=>h⟩
theorem bO.trans {a b c:List Bool}(h:bO a b)(k:bO b c):bO a c:=⟨h.1.trans k.1,fun i hi=>k.2 i (h.2 i hi)⟩
theorem at_set (bs:List Bool)(j i:Nat):au (bs.set j true) i=if j=i/\j<bs.length then true else au bs i:=by
 unfold au;rw[List.getElem?_set]
 by_cases h:j=i
 ·subst h
  by_cases hl:j<bs.length
  ·simp[hl]
  ·simp[hl]
 ·simp[h]
theorem bO.set (bs:List Bool)(j:Nat):bO bs (bs.set j true):=⟨by simp,fun i hi=>by rw[at_set];split <;> simp_all⟩
theorem PS {bs:List Bool}{j:Nat}(h:j<bs.length->au bs j=true):bs.set j true=bs:=by
 apply List.ext_getElem?;intro i;rw[List.getElem?_set]
 by_cases hj:j=i
 ·subst hj
  by_cases hl:j<bs.length
  ·have h1:=h hl
   unfold au at h1;rw[List.getElem?_eq_getElem hl]at h1 |-;simp only[Option.getD_some]at h1;simp[h1];exact hl
  ·simp[hl]
 ·simp[hj]
def bB (bs:List Bool):Nat:=bs.countP id
theorem Af (bs:List Bool):bB bs<=bs.length:=List.countP_le_length
theorem cnt_mono:∀ {a b:List Bool},bO a b->bB a<=bB b
 | [],[],_=>lr0
 | [],_::_,h=>by have:=h.1;simp at this
 | _::_,[],h=>by have:=h.1;simp at this
 | x::a,y::b,h=>by
  have ih:=cnt_mono (a:=a) (b:=b) ⟨by have:=h.1;simpa using this,fun i hi=>h.2 (i+1) hi⟩;have h0:x=true->y=true:=fun e=>by subst e;exact h.2 0 rfl
  unfold bB at *;rw[List.countP_cons,List.countP_cons];cases x <;> cases y <;> simp_all <;> omega
theorem cnt_lt:∀ {a b:List Bool} (i:Nat),bO a b->au a i=false->au b i=true->bB a<bB b
 | [],[],i,_,_,hb=>by simp[au]at hb
 | [],_::_,_,h,_,_=>by have:=h.1;simp at this
 | _::_,[],_,h,_,_=>by have:=h.1;simp at this
 | x::a,y::b,0,h,ha,hb=>by
  have hm:=cnt_mono (a:=a) (b:=b) ⟨by have:=h.1;simpa using this,fun i hi=>h.2 (i+1) hi⟩;have hx:x=false:=ha;have hy:y=true:=hb;subst hx hy;unfold bB at *;rw[List.countP_cons,List.countP_cons];simp only[id];simp;omega
 | x::a,y::b,i+1,h,ha,hb=>by
  have ih:=cnt_lt (a:=a) (b:=b) i ⟨by have:=h.1;simpa using this,fun i hi=>h.2 (i+1) hi⟩ ha hb;have h0:x=true->y=true:=fun e=>by subst e;exact h.2 0 rfl
  unfold bB at *;rw[List.countP_cons,List.countP_cons];cases x <;> cases y <;> simp_all <;> omega
def jq (step:Nat->List Bool->List Bool):Nat->Nat->List Bool->List Bool
 | 0,_,bs=>bs
 | k+1,i,bs=>jq step k (i+1) (step i bs)
structure StepB (step:Nat->List Bool->List Bool) (Cl:Nat->List Bool->Prop):Prop where
 le:∀ i bs,bO bs (step i bs)
 idle:∀ i bs,Cl i bs->step i bs=bs
 more:∀ i a bs,bO a bs->¬ Cl i a->(∃ j,au a j=false/\au (step i bs) j=true)
theorem GV {step:Nat->List Bool->List Bool} {Cl:Nat->List Bool->Prop} (h:StepB step Cl):∀ (k i:Nat) (bs:List Bool),bO bs (jq step k i bs)
 | 0,_,bs=>bO.refl bs
 | k+1,i,bs=>(h.le i bs).trans (GV h k (i+1) (step i bs))
theorem Wx {step:Nat->List Bool->List Bool} {Cl:Nat->List Bool->Prop} (h:StepB step Cl):∀ (k i:Nat) (bs:List Bool),(∀ j,i<=j->j<i+k->Cl j bs)->jq step k i bs=bs
 | 0,_,_,_=>rfl
 | k+1,i,bs,hc=>by
  rw[jq,h.idle i bs (hc i (lr0) (by omega))];exact Wx h k (i+1) bs fun j h1 h2=>hc j (by omega) (by omega)
theorem Wy {step:Nat->List Bool->List Bool} {Cl:Nat->List Bool->Prop} (h:StepB step Cl) (a:List Bool):∀ (k i:Nat) (bs:List Bool),bO a bs->(∃ j,i<=j/\j<i+k/\¬ Cl j a)->∃ j,au a j=false/\au (jq step k i bs) j=true
 | 0,i,_,_,⟨j,h1,h2,_⟩=>by omega
 | k+1,i,bs,hl,⟨j,h1,h2,h3⟩=>by
  by_cases hj:j=i
  ·subst hj
   obtain⟨m,hm1,hm2⟩:=h.more j a bs hl h3;exact⟨m,hm1,(GV h k (j+1) (step j bs)).2 m hm2⟩
  ·exact Wy h a k (i+1) (step i bs) (hl.trans (h.le i bs)) ⟨j,by omega,by omega,h3⟩
theorem U0 {step:Nat->List Bool->List Bool}{Cl:Nat->List Bool->Prop}(h:StepB step Cl)(n k:Nat)(bs:List Bool)(hb:bs.length=n)(hk:n+1<=k):∀ i,i<n->Cl i (iter (jq step n 0) k bs):=by
 have key:=VL (R:=jq step n 0) (Inv:=fun s=>s.length=n) (Closed:=fun s=>∀ i,i<n->Cl i s) (cnt:=bB) (N:=n)
  (fun s hs=>by rw[<-hs];exact (GV h _ _ s).1.symm)
  (fun s hs=>by rw[<-hs];exact Af s)
  (fun s hs hc=>by
   have hex:∃ j,0<=j/\j<0+n/\¬ Cl j s:=by
    by_cases hh:∃ j,0<=j/\j<0+n/\¬ Cl j s
    ·exact hh
    ·exfalso;apply hc
     intro i hi
     by_cases hci:Cl i s
     ·exact hci
     ·exact absurd ⟨i,Nat.zero_le _,by omega,hci⟩ hh
   obtain⟨j,h1,h2⟩:=Wy h s n 0 s (bO.refl s) hex;exact cnt_lt j (GV h n 0 s) h1 h2)
  (fun s hs hc=>Wx h n 0 s fun j _ h2=>hc j (by omega))
 exact key k bs hb (by omega)
theorem GR {step:Nat->List Bool->List Bool} {Cl:Nat->List Bool->Prop} (h:StepB step Cl) (n:Nat):∀ (k:Nat) (bs:List Bool),bO bs (iter (jq step n 0) k bs)
 | 0,bs=>bO.refl bs
 | k+1,bs=>(GV h n 0 bs).trans (GR h n k _)
theorem VN {step:Nat->List Bool->List Bool}{I:List Bool->Prop}(hs:∀ i bs,I bs->I (step i bs))(n:Nat):∀ (k:Nat) (bs:List Bool),I bs->I (iter (jq step n 0) k bs):=by
 have hr:∀ (m i:Nat) (bs:List Bool),I bs->I (jq step m i bs):=by
  intro m
  induction m with
  | zero=>intro i bs h;exact h
  | succ m ih=>intro i bs h;exact ih _ _ (hs i bs h)
 intro k
 induction k with
 | zero=>intro bs h;exact h
 | succ k ih=>intro bs h;exact ih _ (hr n 0 bs h)
def jI (ns:List ByteArray)(b:ByteArray):Nat:=ns.findIdx fun x=>decide (x=b)
def oF (l:List Alt):List ByteArray:=eX ((dD 9 l).filter fun w=>decide (w.1=2))
def jD (g:Gr)(i:Nat):List Alt:=(g.rules[i]?.map fun r=>r.alts).getD []
def ja (ns us:List ByteArray)(bs:List Bool):List Bool:=us.foldl (fun bs b=>bs.set (jI ns b) true) bs
theorem EG (ns:List ByteArray):∀ (us:List ByteArray) (bs:List Bool),bO bs (ja ns us bs)
 | [],bs=>bO.refl bs
 | b::us,bs=>(bO.set bs (jI ns b)).trans (EG ns us _)
theorem Xt (ns:List ByteArray):∀ (us:List ByteArray) (bs:List Bool),(∀ b∈us,jI ns b<bs.length->au bs (jI ns b)=true)->ja ns us bs=bs
 | [],_,_=>rfl
 | b::us,bs,h=>by
  show ja ns us (bs.set (jI ns b) true)=bs;rw[PS (h b (by simp))];exact Xt ns us bs fun c hc=>h c (by simp[hc])
theorem PU (ns:List ByteArray):∀ (us:List ByteArray) (bs:List Bool) (b:ByteArray),b∈us->jI ns b<bs.length->au (ja ns us bs) (jI ns b)=true
 | [],_,_,h,_=>by cases h
 | c::us,bs,b,h,hl=>by
  show au (ja ns us (bs.set (jI ns c) true)) _=true;rcases List.mem_cons.1 h with rfl | h
  ·refine (EG ns us _).2 _ ?_
   rw[at_set,if_pos ⟨rfl,hl⟩]
  ·exact PU ns us _ b h (by simpa using hl)
theorem Xu (ns:List ByteArray) (T:List Bool):∀ (us:List ByteArray) (bs:List Bool),bs.length=T.length->(∀ b∈us,jI ns b<T.length->au T (jI ns b)=true)->bO bs T->bO (ja ns us bs) T
 | [],_,_,_,h=>h
 | b::us,bs,hl,hu,h=>by
  show bO (ja ns us (bs.set (jI ns b) true)) T;refine Xu ns T us _ (by simpa using hl) (fun c hc=>hu c (by simp[hc])) ⟨by simpa using hl,fun i hi=>?_⟩;rw[at_set]at hi
  split at hi
  ·rename_i hc
   rw[<-hc.1];exact hu b (by simp) (by rw[<-hl];exact hc.2)
  ·exact h.2 i hi
def jX (g:Gr)(i:Nat)(bs:List Bool):List Bool:=if au bs i=true then ja (aG g) (oF (jD g i)) bs else bs
def zo (g:Gr)(i:Nat)(bs:List Bool):Prop:=au bs i=true->∀ b∈oF (jD g i),jI (aG g) b<bs.length->au bs (jI (aG g) b)=true
theorem KQ (g:Gr):StepB (jX g) (zo g) where
 le i bs:=by
  unfold jX
  split
  ·exact EG _ _ bs
  ·exact bO.refl bs
 idle i bs h:=by
  unfold jX
  split
  ·rename_i hi;exact Xt _ _ bs (h hi)
  ·rfl
 more i a bs hl h:=by
  have hi:au a i=true:=by
   cases hh:au a i
   ·exact absurd (fun h0=>by rw[hh]at h0;cases h0) h
   ·rfl
  have hex:∃ b,b∈oF (jD g i)/\jI (aG g) b<a.length/\au a (jI (aG g) b)=false:=by
   by_cases hh:∃ b,b∈oF (jD g i)/\jI (aG g) b<a.length/\au a (jI (aG g) b)=false
   ·exact hh
   ·exfalso
    apply h;intro _ b hb hlt;cases hq:au a (jI (aG g) b)
    ·exact absurd ⟨b,hb,hlt,hq⟩ hh
    ·rfl
  obtain⟨b,hb,hlt,hq⟩:=hex;refine⟨_,hq,?_⟩;unfold jX;rw[if_pos (hl.2 i hi)];exact PU _ _ bs b hb (by rw[<-hl.1];exact hlt)
def ig (on:ByteArray->Bool):Nat->List Alt->Bool
 | 0,_=>false
 | d+1,l=>l.any fun a=>a.1.all fun x=>decide (x.kind=1) || decide (x.mark=42) || decide (x.mark=63) || (decide (x.kind=0) && on x.name) || (decide (x.kind=2) && ig on d x.alts)
theorem Pg {on on':ByteArray->Bool} (h:∀ b,on b=true->on' b=true):∀ (d:Nat) (l:List Alt),ig on d l=true->ig on' d l=true
 | 0,_,e=>by cases e
 | d+1,l,e=>by
  simp only[ig,List.any_eq_true,List.all_eq_true]at e |-;obtain⟨a,ha,hx⟩:=e;refine⟨a,ha,fun x hxm=>?_⟩;have:=hx x hxm;simp only[Bool.or_eq_true,Bool.and_eq_true]at this |-;rcases this with ((((t | t) | t) | t) | t)
  ·exact .inl (.inl (.inl (.inl t)))
  ·exact .inl (.inl (.inl (.inr t)))
  ·exact .inl (.inl (.inr t))
  ·exact .inl (.inr ⟨t.1,h _ t.2⟩)
  ·exact .inr ⟨t.1,Pg h d _ t.2⟩
def dK (g:Gr)(bs:List Bool)(b:ByteArray):Bool:=au bs (jI (aG g) b)
def mo (g:Gr)(i:Nat)(bs:List Bool):List Bool:=if ig (dK g bs) 9 (jD g i)=true then bs.set i true else bs
def pF (g:Gr)(i:Nat)(bs:List Bool):Prop:=ig (dK g bs) 9 (jD g i)=true->i<bs.length->au bs i=true
theorem K6 (g:Gr):StepB (mo g) (pF g) where
 le i bs:=by
  unfold mo
  split
  ·exact bO.set bs i
  ·exact bO.refl bs
 idle i bs h:=by
  unfold mo
  split
  ·rename_i hi;exact PS (h hi)
  ·rfl
 more i a bs hl h:=by
  have he:ig (dK g a) 9 (jD g i)=true:=by
   cases hh:ig (dK g a) 9 (jD g i)
   ·exact absurd (fun h0=>by rw[hh]at h0;cases h0) h
   ·rfl
  have hlt:i<a.length:=by
   rcases Nat.lt_or_ge i a.length with h' | h'
   ·exact h'
   ·exact absurd (fun _ h0=>by omega) h
  have ha:au a i=false:=by
   cases hh:au a i
   ·rfl
   ·exact absurd (fun _ _=>hh) h
  refine⟨i,ha,?_⟩;unfold mo;rw[if_pos (Pg (on':=dK g bs) (fun b hb=>hl.2 _ hb) 9 _ he),at_set,if_pos ⟨rfl,by rw[<-hl.1];exact hlt⟩]
structure sK (Cl:Nat->List Bool->Prop) (n:Nat) (s bs:List Bool):Prop where
 len:bs.length=n
 has:bO s bs
 closed:∀ i,i<n->Cl i bs
 least:∀ T,T.length=n->bO s T->(∀ i,i<n->Cl i T)->bO bs T
theorem ajy {a b:List Bool}(h:a.length=b.length)(hi:∀ i,au a i=au b i):a=b:=by
 apply List.ext_getElem h;intro i h1 h2;have:=hi i;unfold au at this;rw[List.getElem?_eq_getElem h1,List.getElem?_eq_getElem h2]at this;simpa using this
theorem sK.unique {Cl:Nat->List Bool->Prop}{n:Nat}{s a b:List Bool}(h:sK Cl n s a)(k:sK Cl n s b):a=b:=by
 have h1:=h.least b k.len k.has k.closed;have h2:=k.least a h.len h.has h.closed;refine ajy h1.1 fun i=>?_
 cases ha:au a i
 ·cases hb:au b i
  ·rfl
  ·rw[h2.2 i hb]at ha;cases ha
 ·rw[h1.2 i ha]
theorem Xv (g:Gr)(T:List Bool)(hT:∀ i,i<T.length->zo g i T)(i:Nat)(bs:List Bool)(h:bO bs T):bO (jX g i bs) T:=by
 unfold jX
 split
 ·rename_i hi
  refine Xu _ T _ bs h.1 (fun b hb hlt=>?_) h;have hi':=h.2 i hi;have hil:i<T.length:=by
   rcases Nat.lt_or_ge i T.length with h' | h'
   ·exact h'
   ·unfold au at hi';rw[List.getElem?_eq_none h']at hi';cases hi'
  exact hT i hil hi' b hb hlt
 ·exact h
theorem Yu (g:Gr)(T:List Bool)(hT:∀ i,i<T.length->pF g i T)(i:Nat)(bs:List Bool)(h:bO bs T):bO (mo g i bs) T:=by
 unfold mo
 split
 ·rename_i he
  refine⟨by simpa using h.1,fun j hj=>?_⟩;rw[at_set]at hj
  split at hj
  ·rename_i hc
   rw[<-hc.1];have hil:i<T.length:=by rw[<-h.1];exact hc.2
   exact hT i hil (Pg (on':=dK g T) (fun b hb=>h.2 _ hb) 9 _ he) hil
  ·exact h.2 j hj
 ·exact h
theorem Wz (g:Gr) (n k:Nat) (s:List Bool) (hs:s.length=n) (hk:n+1<=k):sK (zo g) n s (iter (jq (jX g) n 0) k s) where
 len:=by rw[<-hs];exact (GR (KQ g) _ k s).1.symm
 has:=GR (KQ g) n k s
 closed:=U0 (KQ g) n k s hs hk
 least T hT h1 h2:=VN (I:=fun bs=>bO bs T) (fun i bs h=>Xv g T (fun i hi=>h2 i (by omega)) i bs h) n k s h1
theorem Xw (g:Gr) (n k:Nat) (s:List Bool) (hs:s.length=n) (hk:n+1<=k):sK (pF g) n s (iter (jq (mo g) n 0) k s) where
 len:=by rw[<-hs];exact (GR (K6 g) _ k s).1.symm
 has:=GR (K6 g) n k s
 closed:=U0 (K6 g) n k s hs hk
 least T hT h1 h2:=VN (I:=fun bs=>bO bs T) (fun i bs h=>Yu g T (fun i hi=>h2 i (by omega)) i bs h) n k s h1
end Lx
end Go.Proofs.YtlcppnabbicmoaaGreatDoor
