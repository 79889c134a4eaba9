import Derived.Test.YtlcppnabbicmoaaGreatDoorME07
import Derived.Recover
import Derived.RegionTactic
set_option maxHeartbeats 8000000
set_option maxRecDepth 1000000
namespace Go.Proofs.YtlcppnabbicmoaaGreatDoor
section
open Go.RowKit
open Lx (Tk)
open Tr
theorem assert60 (n a:Int)(w:World):(Instr.typeAssert (.iface 104 (.agg #[.int .i64 n,.int .i64 a])) 20 104 true).run Tryz.prog w=.ok (.tuple #[.agg #[.int .i64 n,.int .i64 a],.bool true]) w:=by
 simp[Instr.typeAssert,run_underlying Tryz.underlying104,go_sem,Result.andThen]
theorem endingOf_any (n a:Int) (w:World) :
  Calls Tryz.prog 43 #[.iface 104 (.agg #[.int .i64 n,.int .i64 a])] w fun e w'=>e=.returned (.agg #[.int .i64 n,.int .i64 a])/\Below w.heap.size w w':=by
 have hta:=assert60;go_enter Tryz.func43,Tryz.ntmps43
 go_wp2
 refine bodyPost_ret (v:=.agg #[.int .i64 n,.int .i64 a]) (by simp[results,Tryz.results43,go_sem]) rfl ⟨rfl,?_⟩;exact ((Below.refl _ _).alloc (Nat.le_refl _) _).alloc (by simp) _
theorem catch_facts {B:Nat} (n a x y:Int) {w w1:World} (hb:Below w.heap.size w w1) (hB:B+2<w.heap.size) (kg:Blk w1 B #[.slice none 0 0,.slice none 0 0] 65) (ke:Blk w1 (B+1) #[.int .i64 x] 27) (ka:Blk w1 (B+2) #[.int .i64 y] 3) :
  Below B w (((((w1.setCell ⟨B,0,none⟩ (.slice none 0 0)).setCell ⟨B,1,none⟩ (.slice none 0 0)).setCell ⟨B+1,0,none⟩ (.int .i64 n)).setCell ⟨B+2,0,none⟩ (.int .i64 a)).alloc (.cells #[.int .i64 n,.int .i64 a] 104)).drew /\
  Blk (((((w1.setCell ⟨B,0,none⟩ (.slice none 0 0)).setCell ⟨B,1,none⟩ (.slice none 0 0)).setCell ⟨B+1,0,none⟩ (.int .i64 n)).setCell ⟨B+2,0,none⟩ (.int .i64 a)).alloc (.cells #[.int .i64 n,.int .i64 a] 104)).drew B #[.slice none 0 0,.slice none 0 0] 65 /\
  Blk (((((w1.setCell ⟨B,0,none⟩ (.slice none 0 0)).setCell ⟨B,1,none⟩ (.slice none 0 0)).setCell ⟨B+1,0,none⟩ (.int .i64 n)).setCell ⟨B+2,0,none⟩ (.int .i64 a)).alloc (.cells #[.int .i64 n,.int .i64 a] 104)).drew (B+1) #[.int .i64 n] 27 /\
  Blk (((((w1.setCell ⟨B,0,none⟩ (.slice none 0 0)).setCell ⟨B,1,none⟩ (.slice none 0 0)).setCell ⟨B+1,0,none⟩ (.int .i64 n)).setCell ⟨B+2,0,none⟩ (.int .i64 a)).alloc (.cells #[.int .i64 n,.int .i64 a] 104)).drew (B+2) #[.int .i64 a] 3:=by
 have hs:=hb.size;have b1:=hb.mono (B':=B) (by omega);have b2:=(((b1.setCell (p:=⟨B,0,none⟩) (Nat.le_refl _) (.slice none 0 0)).setCell (p:=⟨B,1,none⟩) (Nat.le_refl _) (.slice none 0 0)).setCell (p:=⟨B+1,0,none⟩) (by simp) (.int .i64 n)).setCell (p:=⟨B+2,0,none⟩) (by simp) (.int .i64 a);refine⟨(b2.alloc (by have:=b2.size;omega) _).drew,?_,?_,?_⟩
 ·exact (((((kg.set 0 (.slice none 0 0)).set 1 (.slice none 0 0)).other (b':=B+1) (i:=0) (by omega) (.int .i64 n)).other (b':=B+2) (i:=0) (by omega) (.int .i64 a)).alloc (.cells #[.int .i64 n,.int .i64 a] 104)).drew
 ·exact (((((ke.other (b':=B) (i:=0) (by omega) (.slice none 0 0)).other (b':=B) (i:=1) (by omega) (.slice none 0 0)).set 0 (.int .i64 n)).other (b':=B+2) (i:=0) (by omega) (.int .i64 a)).alloc (.cells #[.int .i64 n,.int .i64 a] 104)).drew
 ·exact (((((ka.other (b':=B) (i:=0) (by omega) (.slice none 0 0)).other (b':=B) (i:=1) (by omega) (.slice none 0 0)).other (b':=B+1) (i:=0) (by omega) (.int .i64 n)).set 0 (.int .i64 a)).alloc (.cells #[.int .i64 n,.int .i64 a] 104)).drew
theorem catch_panicking (B:Nat) (n a x y:Int) (older:List PanicEntry) (w:World) (hB:B+2<w.heap.size) (kg:Blk w B #[.slice none 0 0,.slice none 0 0] 65) (ke:Blk w (B+1) #[.int .i64 x] 27) (ka:Blk w (B+2) #[.int .i64 y] 3) :
  CallsD Tryz.prog 42 #[.pointer (some ⟨B,0,none⟩),.pointer (some ⟨B+1,0,none⟩),.pointer (some ⟨B+2,0,none⟩)] (.panicking ({ v:=.iface 104 (.agg #[.int .i64 n,.int .i64 a]),recovered:=false }::older)) w fun e u' w' =>
   e=.returned (.tuple #[])/\u'=.panicking ({ v:=.iface 104 (.agg #[.int .i64 n,.int .i64 a]),recovered:=true }::older)/\Below B w w'/\Blk w' B #[.slice none 0 0,.slice none 0 0] 65/\Blk w' (B+1) #[.int .i64 n] 27/\Blk w' (B+2) #[.int .i64 a] 3:=by
 refine callsD_of_wpS Tryz.func42 rfl fun c₀ cs hu=>?_
 apply wpS_seq;apply wpS_region;simp[wpOpsS,go_sem,recoverD,hu,Tryz.ntmps42,Exit.thenS];refine wpS_of_wp ?_
 go_wp2_with (go_at_call 43;refine (endingOf_any n a _).mono ?_;rintro e w1 ⟨rfl,hb⟩)
 have G:=grown_of_below hb none;have kg1:=kg.grown G (by simp);have ke1:=ke.grown G (by simp);have ka1:=ka.grown G (by simp);have g0:w1.cell? ⟨B,0,none⟩=some (.slice none 0 0):=kg1.cell 0;have g1:w1.cell? ⟨B,1,none⟩=some (.slice none 0 0):=kg1.cell 1;have e0:w1.cell? ⟨B+1,0,none⟩=some (.int .i64 x):=ke1.cell 0;have a0:w1.cell? ⟨B+2,0,none⟩=some (.int .i64 y):=ka1.cell 0;have fg:∀ i,w1.frozen? ⟨B,i,none⟩=false:=kg1.frozen;have fe:∀ i,w1.frozen? ⟨B+1,i,none⟩=false:=ke1.frozen;have fa:∀ i,w1.frozen? ⟨B+2,i,none⟩=false:=ka1.frozen;have hs:w.heap.size<=w1.heap.size:=hb.size;have hs0:B<w1.heap.size:=by omega
 have hs1:B+1<w1.heap.size:=by omega
 have hs2:B+2<w1.heap.size:=by omega
 go_region
 all_goals
  exact⟨rfl,_,rfl,.tuple #[],results_none rfl _ _ _,rfl,rfl,catch_facts n a x y hb hB kg1 ke1 ka1⟩
theorem catch_idle (g e a:Addr) (w:World) :
  CallsD Tryz.prog 42 #[.pointer (some g),.pointer (some e),.pointer (some a)] .returning w fun e u' w'=>e=.returned (.tuple #[])/\u'=.returning/\w'=w:=by
 refine callsD_of_wpS Tryz.func42 rfl fun c₀ cs hu=>?_
 apply wpS_seq;apply wpS_region;simp[wpOpsS,go_sem,recoverD,hu,Tryz.ntmps42,Exit.thenS];refine wpS_of_wp ?_;go_wp2_with fail;cases c₀;simp only at hu;subst hu;refine⟨rfl,_,rfl,.tuple #[],results_none rfl _ _ _,rfl,rfl,rfl⟩
end
section
open Go.RowKit
open Lx (Tk)
open Tr
namespace Lx
theorem extract_size (s:ByteArray)(i j:Nat):(s.extract i j).size<=s.size:=by
 rw[ByteArray.size_extract];omega
theorem lexTo_sz (s:ByteArray):∀ (f i:Nat) (t:Tk),t∈lexTo s f i->t.1.size<=s.size
 | 0,i,t,h=>by
  simp only[lexTo,List.mem_singleton]at h;subst h;exact Nat.zero_le _
 | f+1,i,t,h=>by
  simp only[lexTo]at h
  split at h
  ·rcases List.mem_cons.1 h with rfl | h
   ·exact extract_size _ _ _
   ·exact lexTo_sz s f _ t h
  ·simp only[List.mem_singleton]at h;subst h;exact Nat.zero_le _
theorem lex_sz (s:ByteArray)(t:Tk)(h:t∈lex s):t.1.size<=s.size:=lexTo_sz s _ _ t h
theorem lex_len (s:ByteArray):(lex s).length<=s.size+1:=lexAt_len s _
end Lx
theorem Rd.start {s:ByteArray} {B:Nat} {w1:World} {v:Value} (hs:s.size<=2000) (h:w1.ownsRow B 112 2 v (Lx.lex s).length (Lx.tkCells (Lx.lex s))) :
  ∃ sb cap,v=.slice (some ⟨sb,0,none⟩) (Lx.lex s).length cap/\B<=sb/\sb<w1.heap.size/\Rd sb cap (Lx.lex s) w1.heap.size (w1.alloc (.cells #[v,.int .i64 0] 109)) (Lx.lex s) 0:=by
 have hwf:=Lx.lex_wf s;have hne:=hwf.ne;obtain⟨g,cap,hv,hb,hlt⟩:=h.form hne;subst hv;have hcap:(Lx.lex s).length<=cap:=by
  rcases h.2 with ⟨h0,_⟩ | ⟨g',cap',cur,hv,_,_,hle,_⟩
  ·cases h0
  ·cases hv;exact hle
 have kN:=Blk.new w1 #[.slice (some ⟨g,0,none⟩) (Lx.lex s).length cap,.int .i64 0] 109;refine⟨g,cap,rfl,hb,hlt,?_⟩;refine⟨hwf,⟨[],rfl⟩,hcap,?_,kN.cell 1,kN.frozen 0,kN.frozen 1,?_,by omega,fun t ht=>Nat.le_trans (Lx.lex_sz s t ht) hs,by have:=Lx.lex_len s;omega⟩
 ·rw[show (Lx.lex s).length - (Lx.lex s).length=0 by omega];exact kN.cell 0
 ·intro j t hj
  obtain⟨h1,h2⟩:=Lx.tkCells_get _ j t hj;have c1:=h.cells (g:=g) rfl (j*2) _ h1;have c2:=h.cells (g:=g) rfl (j*2+1) _ h2;have hadd:∀ k,(⟨g,0,none⟩:Addr).add k=⟨g,k,none⟩:=fun k=>by unfold Addr.add;split <;> simp_all
  rw[hadd]at c1 c2;have hold:∀ k,(w1.alloc (.cells #[.slice (some ⟨g,0,none⟩) (Lx.lex s).length cap,.int .i64 0] 109)).cell? ⟨g,k,none⟩=w1.cell? ⟨g,k,none⟩:=fun k=>World.cell?_of_block (w:=w1) (Below.heap_alloc _ _ _ hlt)
  rw[hold,hold];exact⟨c1,c2⟩
def ParseEnds (w:World)(s:ByteArray)(e:Ending)(w':World):Prop :=
 Below w.heap.size w w' /\
  match Lx.parse s with
  | .ok g=>∃ vl vr,e=.returned (.tuple #[.agg #[vl,vr],.int .i64 0,.int .i64 0])/\GramIn (In w.heap.size w'.heap.size) w' vl vr g
  | .error (n,a)=>e=.returned (.tuple #[.agg #[.slice none 0 0,.slice none 0 0],.int .i64 (n:Int),.int .i64 (a:Int)])
theorem ParseEnds.yes {w w':World} {s:ByteArray} {g:Lx.Gr} {vl vr:Value} (hr:Lx.parse s=.ok g) (hb:Below w.heap.size w w') (hg:GramIn (In w.heap.size w'.heap.size) w' vl vr g) :
  ParseEnds w s (.returned (.tuple #[.agg #[vl,vr],.int .i64 0,.int .i64 0])) w':=by
 unfold ParseEnds;rw[hr];exact⟨hb,vl,vr,rfl,hg⟩
theorem ParseEnds.no {w w':World} {s:ByteArray} {n a:Nat} (hr:Lx.parse s=.error (n,a)) (hb:Below w.heap.size w w') :
  ParseEnds w s (.returned (.tuple #[.agg #[.slice none 0 0,.slice none 0 0],.int .i64 (n:Int),.int .i64 (a:Int)])) w':=by
 unfold ParseEnds;rw[hr];exact⟨hb,rfl⟩
theorem Parse_any (s:ByteArray)(w:World)(hmax:s.size<=maxLen):Calls Tryz.prog 24 #[.string s] w (ParseEnds w s):=by
 unfold maxLen at hmax;have hmf:∀ (fn:Fn) (first cap:Array Value) (w:World),(Instr.makeFunc fn first cap).run Tryz.prog w=.ok (.func fn first cap) w:=fun _ _ _ _=>rfl
 by_cases hlong:2000<s.size
 ·have HP:Hid (Lx.parse s=.error (1,0)):=by show _=_;unfold Lx.parse;rw[if_pos hlong]
  go_enter_defers Tryz.func24,Tryz.ntmps24
  go_wp2
  refine leaves_cons (f:=42) (args:=#[.pointer (some ⟨w.heap.size,0,none⟩),.pointer (some ⟨w.heap.size+1,0,none⟩),.pointer (some ⟨w.heap.size+2,0,none⟩)]) (by simp) (by simp[go_sem]) ?_;refine (catch_idle _ _ _ _).mono ?_;rintro e u' w'' ⟨rfl,rfl,rfl⟩;refine⟨.tuple #[.agg #[.slice none 0 0,.slice none 0 0],.int .i64 1,.int .i64 0],by simp[results,Tryz.results24,go_sem],?_⟩;exact ParseEnds.no HP.out ((((Below.refl _ _).alloc (Nat.le_refl _) _).alloc (by simp) _).alloc (by simp;omega) _)
 ·have hs:s.size<=2000:=by omega
  have hw3:(((w.alloc (.cells #[.slice none 0 0,.slice none 0 0] 65)).alloc (.cells #[.int .i64 0] 27)).alloc (.cells #[.int .i64 0] 3)).heap.size=w.heap.size+3:=by simp
  have kg:=((Blk.new w #[.slice none 0 0,.slice none 0 0] 65).alloc (.cells #[.int .i64 0] 27)).alloc (.cells #[.int .i64 0] 3);have ke:=(Blk.new (w.alloc (.cells #[.slice none 0 0,.slice none 0 0] 65)) #[.int .i64 0] 27).alloc (.cells #[.int .i64 0] 3);have ka:=Blk.new ((w.alloc (.cells #[.slice none 0 0,.slice none 0 0] 65)).alloc (.cells #[.int .i64 0] 27)) #[.int .i64 0] 3;rw[show (w.alloc (.cells #[.slice none 0 0,.slice none 0 0] 65)).heap.size=w.heap.size+1 by simp]at ke;rw[show ((w.alloc (.cells #[.slice none 0 0,.slice none 0 0] 65)).alloc (.cells #[.int .i64 0] 27)).heap.size=w.heap.size+2 by simp]at ka;have b0:Below w.heap.size w (((w.alloc (.cells #[.slice none 0 0,.slice none 0 0] 65)).alloc (.cells #[.int .i64 0] 27)).alloc (.cells #[.int .i64 0] 3)):=(((Below.refl _ _).alloc (Nat.le_refl _) _).alloc (by simp) _).alloc (by simp;omega) _
  go_enter_defers Tryz.func24,Tryz.ntmps24
  go_wp2_with fail;refine (All_any s _ hs).mono ?_;rintro e w1 ⟨v,rfl,hown,hb⟩;rw[hw3]at hown hb;have hRd:=Rd.start hs hown;obtain⟨sb,cap,rfl,hsb,hsb1,hrd⟩:=hRd;have b1:=b0.trans (hb.mono (by omega));have kg1:Blk w1 w.heap.size #[.slice none 0 0,.slice none 0 0] 65:=(hb.block _ (by omega)).trans kg;have ke1:Blk w1 (w.heap.size+1) #[.int .i64 0] 27:=(hb.block _ (by omega)).trans ke;have ka1:Blk w1 (w.heap.size+2) #[.int .i64 0] 3:=(hb.block _ (by omega)).trans ka;have s1:w.heap.size+3<=w1.heap.size:=by omega
  clear kg ke ka hown hb hw3;go_wp2_with fail;refine (grammar_rd sb cap _ w1.heap.size _ _ hrd).mono ?_;intro e w2 he;have b2:=b1.alloc (by omega) (.cells #[.slice (some ⟨sb,0,none⟩) (Lx.lex s).length cap,.int .i64 0] 109);have hsz:(w1.alloc (.cells #[.slice (some ⟨sb,0,none⟩) (Lx.lex s).length cap,.int .i64 0] 109)).heap.size=w1.heap.size+1:=by simp
  cases hpg:Lx.pGrammar (Lx.lex s) with
  | error x =>
   obtain⟨n,a⟩:=x;obtain⟨rfl,hg⟩:=he.err hpg;have HP:Hid (Lx.parse s=.error (n,a)):=by show _=_;unfold Lx.parse;rw[if_neg hlong,hpg]
   have b3:=b2.grown hg (by rw[hsz];omega) (fun k hk=>by cases hk;omega);have kg2:=(kg1.alloc _).grown hg (by simp;omega);have ke2:=(ke1.alloc _).grown hg (by simp;omega);have ka2:=(ka1.alloc _).grown hg (by simp;omega);have hs2:=hg.size;rw[hsz]at hs2;clear hpg he;refine leaves_cons (f:=42) (args:=#[.pointer (some ⟨w.heap.size,0,none⟩),.pointer (some ⟨w.heap.size+1,0,none⟩),.pointer (some ⟨w.heap.size+2,0,none⟩)]) (by simp) (by simp[go_sem]) ?_;refine (catch_panicking w.heap.size n a 0 0 [] w2 (by omega) kg2 ke2 ka2).mono ?_;rintro e u' w3 ⟨rfl,rfl,hb3,kg3,ke3,ka3⟩;have g0:w3.cell? ⟨w.heap.size,0,none⟩=some (.slice none 0 0):=kg3.cell 0;have g1:w3.cell? ⟨w.heap.size,1,none⟩=some (.slice none 0 0):=kg3.cell 1;have e0:w3.cell? ⟨w.heap.size+1,0,none⟩=some (.int .i64 n):=ke3.cell 0;have a0:w3.cell? ⟨w.heap.size+2,0,none⟩=some (.int .i64 a):=ka3.cell 0;have e0':w3.cell? ⟨w.heap.size+1+1,0,none⟩=some (.int .i64 a):=ka3.cell 0;refine⟨.tuple #[.agg #[.slice none 0 0,.slice none 0 0],.int .i64 n,.int .i64 a],by simp[results,Tryz.results24,go_sem,g0,g1,e0,a0],?_⟩;exact ParseEnds.no HP.out (b3.trans hb3)
  | ok x =>
   obtain⟨g,ts'⟩:=x;obtain⟨v,rfl,hg,hrd2,vl,vr,rfl,hG⟩:=he.ok hpg;have HP:Hid (Lx.parse s=.ok g):=by show _=_;unfold Lx.parse;rw[if_neg hlong,hpg]
   obtain⟨la,lk,lc,rfl⟩:=Seq.form hG.1;obtain⟨ra,rk,rc,rfl⟩:=SeqS.form hG.2;have b3:=b2.grown hg (by rw[hsz];omega) (fun k hk=>by cases hk;omega);have kg2:=(kg1.alloc _).grown hg (by simp;omega);have ke2:=(ke1.alloc _).grown hg (by simp;omega);have ka2:=(ka1.alloc _).grown hg (by simp;omega);have g0:w2.cell? ⟨w.heap.size,0,none⟩=some (.slice none 0 0):=kg2.cell 0;have g1:w2.cell? ⟨w.heap.size,1,none⟩=some (.slice none 0 0):=kg2.cell 1;have e0:w2.cell? ⟨w.heap.size+1,0,none⟩=some (.int .i64 0):=ke2.cell 0;have a0:w2.cell? ⟨w.heap.size+2,0,none⟩=some (.int .i64 0):=ka2.cell 0;have fg:∀ i,w2.frozen? ⟨w.heap.size,i,none⟩=false:=kg2.frozen;have fe:∀ i,w2.frozen? ⟨w.heap.size+1,i,none⟩=false:=ke2.frozen;have fa:∀ i,w2.frozen? ⟨w.heap.size+2,i,none⟩=false:=ka2.frozen;rw[hsz]at hG;clear hpg he hrd hrd2 kg1 ke1 ka1 kg2 ke2 ka2;go_wp2_with fail;refine leaves_cons (f:=42) (args:=#[.pointer (some ⟨w.heap.size,0,none⟩),.pointer (some ⟨w.heap.size+1,0,none⟩),.pointer (some ⟨w.heap.size+2,0,none⟩)]) (by simp) (by simp[go_sem]) ?_;refine (catch_idle _ _ _ _).mono ?_;rintro e u' w'' ⟨rfl,rfl,rfl⟩;refine⟨.tuple #[.agg #[.slice la lk lc,.slice ra rk rc],.int .i64 0,.int .i64 0],by simp[results,Tryz.results24,go_sem,g0,g1,e0,a0],?_⟩;refine ParseEnds.yes HP.out ((((b3.setCell (Nat.le_refl _) _).setCell (Nat.le_refl _) _).setCell (by simp) _).setCell (by simp;omega) _) ?_;refine hG.move (fun b hb=>?_) (fun b hb=>?_)
   ·have h1:=hb.1
    rw[Below.heap_setCell _ _ _ _ (fun e=>by have e':b=w.heap.size+1+1:=e;omega),Below.heap_setCell _ _ _ _ (fun e=>by have e':b=w.heap.size+1:=e;omega),Below.heap_setCell _ _ _ _ (fun e=>by have e':b=w.heap.size:=e;omega),Below.heap_setCell _ _ _ _ (fun e=>by have e':b=w.heap.size:=e;omega)]
   ·have h1:=hb.1
    have h2:=hb.2;exact⟨by omega,by simpa [World.setCell]using h2⟩
end
section
open Go.RowKit
open Lx (Tk)
open Tr
namespace Lx
theorem pLevels_none {ts:List Tk} (h:hd ts=noText):∀ f acc,pLevels f ts acc=.ok (acc,ts)
  | 0,_=>rfl
  | f+1,acc=>by
    have:¬ 0<=levelKind (hd ts):=by rw[h];decide
    rw[pLevels,if_neg this]
theorem pGrammar_first {ts ts':List Tk}{g:Gr}(h:pGrammar ts=.ok (g,ts')):hd ts≠noText:=by
  intro e;unfold pGrammar at h;rw[pLevels_none e]at h;have hr:pRule ts=.error (2,pl ts):=by
    unfold pRule pWord;rw[if_neg (by rw[e];decide)]
  simp only[hr]at h;cases h
theorem parse_ok {s:ByteArray}{g:Gr}(h:parse s=.ok g):s.size<=2000/\∃ ts',pGrammar (lex s)=.ok (g,ts'):=by
  unfold parse at h
  split at h
  · cases h
  · rename_i hs
    cases hr:pGrammar (lex s) with
    | error e=>rw[hr]at h;cases h
    | ok x =>
      obtain⟨g',ts'⟩:=x;rw[hr]at h;cases h;exact⟨by omega,ts',rfl⟩
theorem formL_ne {b:ByteArray}{ts:List Tk}(h:hd ts≠noText):formL b ts≠[]:=by
  cases ts with
  | nil=>exact absurd rfl h
  | cons t r =>
    intro e;simp only[formL,List.append_eq_nil_iff]at e;have e2:=e.2.1;apply h;show t.1=noText;exact ByteArray.ext (Array.ext' e2)
end Lx
def PrintEnds (w:World)(s:ByteArray)(e:Ending)(w':World):Prop :=
  Below w.heap.size w w' /\
    match Lx.parse s with
    | .ok _=>e=.returned (.tuple #[.string ⟨(Lx.formL Lx.noText (Lx.lex s)).toArray⟩,.int .i64 0,.int .i64 0])
    | .error (n,a)=>e=.returned (.tuple #[.string ⟨#[]⟩,.int .i64 (n:Int),.int .i64 (a:Int)])
theorem PrintEnds.yes {w w':World} {s:ByteArray} {g:Lx.Gr} (hr:Lx.parse s=.ok g) (hb:Below w.heap.size w w') :
    PrintEnds w s (.returned (.tuple #[.string ⟨(Lx.formL Lx.noText (Lx.lex s)).toArray⟩,.int .i64 0,.int .i64 0])) w':=by
  unfold PrintEnds;rw[hr];exact⟨hb,rfl⟩
theorem PrintEnds.no {w w':World} {s:ByteArray} {n a:Nat} (hr:Lx.parse s=.error (n,a)) (hb:Below w.heap.size w w') :
    PrintEnds w s (.returned (.tuple #[.string ⟨#[]⟩,.int .i64 (n:Int),.int .i64 (a:Int)])) w':=by
  unfold PrintEnds;rw[hr];exact⟨hb,rfl⟩
theorem ParseEnds.out {w w':World} {s:ByteArray} {e:Ending} (h:ParseEnds w s e w'):Below w.heap.size w w' /\
    ((∃ g vl vr,Lx.parse s=.ok g/\e=.returned (.tuple #[.agg #[vl,vr],.int .i64 0,.int .i64 0])/\GramIn (In w.heap.size w'.heap.size) w' vl vr g) ∨
     (∃ n a:Nat,0<n/\Lx.parse s=.error (n,a)/\e=.returned (.tuple #[.agg #[.slice none 0 0,.slice none 0 0],.int .i64 (n:Int),.int .i64 (a:Int)]))):=by
  unfold ParseEnds at h;obtain⟨hb,h⟩:=h;refine⟨hb,?_⟩;cases hr:Lx.parse s with
  | ok g=>rw[hr]at h;obtain⟨vl,vr,he,hg⟩:=h;exact .inl ⟨g,vl,vr,rfl,he,hg⟩
  | error x=>obtain⟨n,a⟩:=x;rw[hr]at h;exact .inr ⟨n,a,Lx.parse_pos hr,rfl,h⟩
theorem Print_any (s:ByteArray)(w:World)(hmax:s.size<=maxLen):Calls Tryz.prog 22 #[.string s] w (PrintEnds w s):=by
  have P:=Parse_any s w hmax;clear hmax;go_enter Tryz.func22,Tryz.ntmps22;go_wp2_with fail;refine P.mono ?_;intro e w1 he;obtain⟨hb1,⟨g,vl,vr,hr,rfl,hg⟩ | ⟨n,a,hn,hr,rfl⟩⟩:=he.out
  · obtain⟨la,lk,lc,rfl⟩:=Seq.form hg.1
    obtain⟨ra,rk,rc,rfl⟩:=SeqS.form hg.2;have HR:Hid _:=hr;obtain⟨hs,ts',hpg⟩:=Lx.parse_ok hr;have hf:=Lx.formL_ne (b:=Lx.noText) (Lx.pGrammar_first hpg);have HF:Hid (Lx.formL Lx.noText (Lx.lex s)≠[]):=hf;have hbA:=hb1.alloc hb1.size (.cells #[.slice la lk lc,.slice ra rk rc] 65);clear hr hpg hf he P hg;go_wp2_with fail;refine (All_any s _ hs).mono ?_;rintro e w2 ⟨v,rfl,hown,hb2⟩;have hb3:Below w.heap.size w w2:=hbA.trans (hb2.mono hbA.size);obtain⟨xa,xk,xc,rfl⟩:=own_form hown;have hlen:=Lx.lex_len s;go_wp2_with fail;refine (form_any (Lx.lex s) _ w2 (own_le hown (Nat.zero_le _)) (by omega) (fun t ht=>Nat.le_trans (Lx.lex_sz s t ht) hs) HF.out).mono ?_;rintro e w3 ⟨rfl,hb4⟩;go_wp2_with fail;refine bodyPost_ret (v:=.tuple #[.string ⟨(Lx.formL Lx.noText (Lx.lex s)).toArray⟩,.int .i64 0,.int .i64 0]) (by simp[results,Tryz.results22,go_sem]) rfl ?_;exact PrintEnds.yes HR.out (hb3.trans (hb4.mono hb3.size))
  · have HR:Hid _:=hr
    have hn0:((n:Int) == 0)=false:=beq_eq_false_iff_ne.2 (by omega);clear hr he P;go_wp2_with fail;refine bodyPost_ret (v:=.tuple #[.string ⟨#[]⟩,.int .i64 (n:Int),.int .i64 (a:Int)]) (by simp[results,Tryz.results22,go_sem]) rfl ?_;exact PrintEnds.no HR.out (hb1.alloc hb1.size _)
end
section
open Go.RowKit
open Lx (Tk)
open Tr
namespace Lx
def formB:ByteArray->List ByteArray->List UInt8
 | _,[]=>[]
 | b,w::ws=>(gapOf b w).data.toList++(w.data.toList++formB w ws)
theorem formL_B:∀ (b:ByteArray) (ts:List Tk),formL b ts=formB b (ts.map Prod.fst)
 | _,[]=>rfl
 | b,t::ts=>by simp only[formL,List.map_cons,formB,formL_B t.1 ts]
theorem text_eq {a:ByteArray}{l:List UInt8}(h:(a.toList == l)=true):a=⟨l.toArray⟩:=by
 have:=eq_of_beq h;rw[ByteArray.toList_eq]at this;exact ByteArray.ext (Array.ext' (by simpa using this))
theorem pRules_end:∀ (f:Nat) (ts:List Tk) (acc l:List Rl) (ts':List Tk),ts.length<=f->pRules f ts acc=.ok (l,ts')->hd ts'=noText
 | 0,ts,acc,l,ts',hl,h=>by
  simp only[pRules,Except.ok.injEq,Prod.mk.injEq]at h;cases ts with
  | nil=>rw[<-h.2];rfl
  | cons t r=>simp at hl
 | f+1,ts,acc,l,ts',hl,h=>by
  simp only[pRules]at h
  split at h
  ·rename_i h0
   simp only[Except.ok.injEq,Prod.mk.injEq]at h;rw[<-h.2];exact h0
  ·rename_i h0
   cases hr:pRule ts with
   | error e=>rw[hr]at h;cases h
   | ok y =>
    obtain⟨x,ts1⟩:=y;rw[hr]at h;have h1:=pRule_len hr;have h2:ts.tail.length+1<=ts.length:=by
     cases ts with
     | nil=>exact absurd rfl h0
     | cons t r=>simp
    exact pRules_end f ts1 _ l ts' (by omega) h
theorem pGrammar_end {ts ts':List Tk}{g:Gr}(h:pGrammar ts=.ok (g,ts')):hd ts'=noText:=by
 unfold pGrammar at h;cases h1:pLevels ts.length ts [] with
 | error e=>rw[h1]at h;cases h
 | ok y =>
  obtain⟨lv,ts1⟩:=y;rw[h1]at h;simp only at h;cases h2:pRule ts1 with
  | error e=>rw[h2]at h;cases h
  | ok y =>
   obtain⟨x,ts2⟩:=y;rw[h2]at h;simp only at h;cases h3:pRules ts2.length ts2 [x] with
   | error e=>rw[h3]at h;cases h
   | ok y =>
    obtain⟨l,ts3⟩:=y;rw[h3]at h;simp only[Except.ok.injEq,Prod.mk.injEq]at h;rw[<-h.2];exact pRules_end _ _ _ _ _ (Nat.le_refl _) h3
theorem WF.some:∀ {ts:List Tk} {sg:List ByteArray},WF ts->ts.map Prod.fst=sg++[noText]->∀ w∈sg,w≠noText
 | [],_,h,_,_,_=>h.elim
 | [t],sg,h,e,w,hw=>by
  cases sg with
  | nil=>cases hw
  | cons a l=>have:=congrArg List.length e;simp at this
 | t::u::r,sg,h,e,w,hw=>by
  cases sg with
  | nil=>cases hw
  | cons a l =>
   simp only[List.map_cons,List.cons_append,List.cons.injEq]at e;rcases List.mem_cons.1 hw with rfl | hw
   ·rw[<-e.1];exact h.1
   ·exact WF.some (ts:=u::r) h.2 (by simpa using e.2) w hw
end Lx
end
section
open Go.RowKit
namespace Lx
/-! The signs of a text,by the list of its bytes. -/
def bt (c:UInt8):Int:=(c.toNat:Int)
def wcB (c:UInt8):Bool:=wordB (bt c)
def gapL:List UInt8->Bool->List UInt8
 | [],_=>[]
 | c::r,b=>if bt c=10 then gapL r false else if bt c=35 then gapL r true else if b=false/\bt c≠32/\bt c≠9 then c::r else gapL r b
def signLen:List UInt8->Nat
 | []=>0
 | c::r=>if bt c=37 then 1+(r.takeWhile wcB).length else max ((c::r).takeWhile wcB).length 1
def lexP:Nat->Nat->List UInt8->List Tk
 | 0,o,_=>[(noText,o)]
 | _+1,o,[]=>[(noText,o)]
 | f+1,o,c::r=>(⟨((c::r).take (signLen (c::r))).toArray⟩,o)::lexP f (o+((c::r).length - (gapL ((c::r).drop (signLen (c::r))) false).length)) (gapL ((c::r).drop (signLen (c::r))) false)
def bytes (s:ByteArray):List UInt8:=s.data.toList
theorem bytes_len (s:ByteArray):(bytes s).length=s.size:=data_len s
theorem drop_cons {s:ByteArray}{i:Nat}(h:i<s.size):∃ c,(bytes s).drop i=c::(bytes s).drop (i+1)/\byteAt s i=bt c:=by
 have h':i<(bytes s).length:=by rw[bytes_len];exact h
 refine⟨(bytes s)[i],List.drop_eq_getElem_cons h',?_⟩;rw[byteAt_eq s i h];rfl
theorem drop_nil {s:ByteArray}{i:Nat}(h:s.size<=i):(bytes s).drop i=[]:=List.drop_eq_nil_of_le (by rw[bytes_len];exact h)
theorem gapTo_L (s:ByteArray):∀ (f i:Nat) (b:Bool),s.size-i<=f->i<=s.size->(bytes s).drop (gapTo s f i b)=gapL ((bytes s).drop i) b
 | 0,i,b,hf,hi=>by
  rw[show gapTo s 0 i b=i from rfl,drop_nil (by omega)];rfl
 | f+1,i,b,hf,hi=>by
  by_cases h:i<s.size
  ·obtain⟨c,h1,h2⟩:=drop_cons h
   have i1:=gapTo_L s f (i+1) false (by omega) (by omega);have i2:=gapTo_L s f (i+1) true (by omega) (by omega);have i3:=gapTo_L s f (i+1) b (by omega) (by omega);rw[h1];simp only[gapTo,gapL,h2]
   split
   ·exact i1
   ·split
    ·exact i2
    ·split
     ·exact h1
     ·exact i3
  ·have hz:=gapTo_bd s (f+1) i b
   rw[drop_nil (by omega),drop_nil (i:=i) (by omega)];rfl
theorem gapEnd_L {s:ByteArray}{i:Nat}(b:Bool)(hi:i<=s.size):(bytes s).drop (gapEnd s i b)=gapL ((bytes s).drop i) b:=gapTo_L s _ i b (Nat.le_refl _) hi
theorem wordTo_L (s:ByteArray):∀ (f i:Nat),s.size-i<=f->i<=s.size->s.size-i=f->wordTo s f i=i+(((bytes s).drop i).takeWhile wcB).length
 | 0,i,_,hi,hf=>by
  rw[drop_nil (by omega)];rfl
 | f+1,i,_,hi,hf=>by
  obtain⟨c,h1,h2⟩:=drop_cons (s:=s) (i:=i) (by omega);rw[h1];simp only[wordTo,h2,List.takeWhile_cons];have ih:=wordTo_L s f (i+1) (by omega) (by omega) (by omega);cases hw:wcB c
  ·rw[if_neg (by show ¬ wcB c=true;rw[hw];decide)];simp
  ·rw[if_pos (by exact hw),ih];simp;omega
theorem wordEnd_L {s:ByteArray}{i:Nat}(hi:i<=s.size):wordEnd s i=i+(((bytes s).drop i).takeWhile wcB).length:=wordTo_L s _ i (Nat.le_refl _) hi rfl
theorem signEnd_L {s:ByteArray}{i:Nat}(h:i<s.size):signEnd s i=i+signLen ((bytes s).drop i):=by
 obtain⟨c,h1,h2⟩:=drop_cons h;unfold signEnd;rw[h1];simp only[signLen,h2]
 split
 ·rw[wordEnd_L (by omega)];omega
 ·rw[wordEnd_L (by omega),h1];omega
theorem lexTo_P (s:ByteArray):∀ (f i:Nat),i<=s.size->lexTo s f i=lexP f i ((bytes s).drop i)
 | 0,i,_=>rfl
 | f+1,i,hi=>by
  by_cases h:i<s.size
  ·obtain⟨c,h1,h2⟩:=drop_cons h
   have hb:=signEnd_bd h;have hn:=nextAt_bd h;have hsE:=signEnd_L h;have hg:=gapEnd_L (s:=s) (i:=signEnd s i) false hb.2;have ih:=lexTo_P s f (nextAt s i) hn.2;have hlen:=congrArg List.length hg;rw[List.length_drop,bytes_len]at hlen;rw[hsE,<-List.drop_drop,<-hsE]at hg hlen;have hl0:((bytes s).drop i).length=s.size-i:=by rw[List.length_drop,bytes_len]
   simp only[lexTo];rw[if_pos h,ih];rw[h1]at hsE hg hlen hl0;rw[h1,lexP];have e1:s.extract i (signEnd s i)=⟨((c::(bytes s).drop (i+1)).take (signLen (c::(bytes s).drop (i+1)))).toArray⟩:=by
    refine ByteArray.ext (Array.ext' ?_);rw[Lib.extract_data];show ((bytes s).drop i).take _=_;rw[h1,hsE];simp
   have hne:nextAt s i=i+((c::(bytes s).drop (i+1)).length - (gapL ((c::(bytes s).drop (i+1)).drop (signLen (c::(bytes s).drop (i+1)))) false).length):=by
    have e3:gapEnd s (signEnd s i) false=nextAt s i:=rfl;rw[e3]at hlen;omega
   rw[e1];refine congrArg _ ?_;have e4:(bytes s).drop (nextAt s i)=gapL ((c::(bytes s).drop (i+1)).drop (signLen (c::(bytes s).drop (i+1)))) false:=hg;rw[e4,hne]
  ·have e0:=drop_nil (s:=s) (i:=i) (by omega)
   rw[e0];simp only[lexTo,lexP];rw[if_neg h];rfl
theorem lex_P (s:ByteArray):lex s=lexP (s.size-gapEnd s 0 false) (gapEnd s 0 false) (gapL (bytes s) false):=by
 have hb:=gapEnd_bd (s:=s) (i:=0) false (Nat.zero_le _);have h1:=gapEnd_L (s:=s) (i:=0) false (Nat.zero_le _);unfold lex lexAt;rw[lexTo_P s _ _ hb.2,h1];rfl
end Lx
end
section
open Go.RowKit
namespace Lx
def ngap (c:UInt8):Prop:=bt c≠10/\bt c≠35/\bt c≠32/\bt c≠9
def Sig:List UInt8->Prop
 | []=>False
 | c::r=>ngap c/\if bt c=37∨wcB c=true then ∀ x∈r,wcB x=true else r=[]
def Stop:List UInt8->List UInt8->Prop
 | _,[]=>True
 | w,x::_=>wcB x=false∨∃ c,w=[c]/\bt c≠37/\wcB c=false
theorem takeWhile_stop {r t:List UInt8}(hr:∀ x∈r,wcB x=true)(ht:t=[]∨∃ x t',t=x::t'/\wcB x=false):((r++t).takeWhile wcB).length=r.length:=by
 induction r with
 | nil =>
  rcases ht with rfl | ⟨x,t',rfl,hx⟩
  ·rfl
  ·simp[hx]
 | cons c r ih =>
  have:=ih (fun x hx=>hr x (by simp[hx]));simp only[List.cons_append,List.takeWhile_cons,hr c (by simp),List.length_cons];simp[this]
theorem stop_head {w t:List UInt8}(h:Stop w t)(hw:¬ ∃ c,w=[c]/\bt c≠37/\wcB c=false):t=[]∨∃ x t',t=x::t'/\wcB x=false:=by
 cases t with
 | nil=>exact .inl rfl
 | cons x t'=>exact .inr ⟨x,t',rfl,h.resolve_right hw⟩
theorem sign_len {w t:List UInt8}(h:Sig w)(hs:Stop w t):signLen (w++t)=w.length:=by
 cases w with
 | nil=>exact h.elim
 | cons c r =>
  obtain⟨_,hr⟩:=h;simp only[List.cons_append,signLen]
  by_cases h37:bt c=37
  ·rw[if_pos (.inl h37)]at hr
   rw[if_pos h37,takeWhile_stop hr (stop_head hs (fun ⟨d,e,h1,_⟩=>h1 (by cases e;exact h37)))];simp;omega
  ·rw[if_neg h37]
   cases hc:wcB c
   ·rw[if_neg (by simp[h37,hc])]at hr
    subst hr;simp[hc]
   ·rw[if_pos (.inr hc)]at hr
    have h1:=takeWhile_stop (r:=c::r) (t:=t) (fun x hx=>by
     rcases List.mem_cons.1 hx with rfl | hx
     ·exact hc
     ·exact hr x hx) (stop_head hs (fun ⟨d,e,_,h2⟩=>by cases e;rw[hc]at h2;cases h2))
    rw[List.cons_append]at h1;rw[h1];simp
theorem gap_sig {w t:List UInt8}(h:Sig w):gapL (w++t) false=w++t:=by
 cases w with
 | nil=>exact h.elim
 | cons c r =>
  obtain⟨⟨h1,h2,h3,h4⟩,_⟩:=h;simp only[List.cons_append,gapL];rw[if_neg h1,if_neg h2,if_pos ⟨trivial,h3,h4⟩]
def lay (gp:ByteArray->ByteArray->List UInt8) (fin:ByteArray->List UInt8):ByteArray->List ByteArray->List UInt8
 | b,[]=>fin b
 | b,w::ws=>gp b w++(bytes w++lay gp fin w ws)
structure Gaps (gp:ByteArray->ByteArray->List UInt8) (fin:ByteArray->List UInt8):Prop where
 gap:∀ b w r,gapL (gp b w++r) false=gapL r false
 gapF:∀ b,gapL (fin b) false=[]
 stop:∀ b w r,Sig (bytes b)->Sig (bytes w)->Stop (bytes b) (gp b w++(bytes w++r))
 stopF:∀ b,Sig (bytes b)->Stop (bytes b) (fin b)
theorem lay_stop {gp:ByteArray->ByteArray->List UInt8}{fin:ByteArray->List UInt8}(hg:Gaps gp fin){w:ByteArray}{ws:List ByteArray}(hw:Sig (bytes w))(hs:∀ x∈ws,Sig (bytes x)):Stop (bytes w) (lay gp fin w ws):=by
 cases ws with
 | nil=>exact hg.stopF w hw
 | cons x ws=>exact hg.stop w x _ hw (hs x (by simp))
theorem relex {gp:ByteArray->ByteArray->List UInt8} {fin:ByteArray->List UInt8} (hg:Gaps gp fin):∀ (ws:List ByteArray) (b:ByteArray) (f o:Nat),(∀ x∈ws,Sig (bytes x))->(gapL (lay gp fin b ws) false).length<=f->(lexP f o (gapL (lay gp fin b ws) false)).map Prod.fst=ws++[noText]
 | [],b,f,o,_,_=>by
  rw[lay,hg.gapF];cases f <;> rfl
 | w::ws,b,f,o,hs,hf=>by
  have hw:=hs w (by simp);have hst:=lay_stop (ws:=ws) hg hw (fun x hx=>hs x (by simp[hx]));have hsl:=sign_len hw hst;rw[lay,hg.gap,gap_sig hw]at hf ⊢;have hne:bytes w≠[]:=by intro e;rw[e]at hw;exact hw
  have hpos:0<(bytes w).length:=List.length_pos_iff.2 hne;have hll:(gapL (lay gp fin w ws) false).length<=(lay gp fin w ws).length:=by
   have:∀ (l:List UInt8) (b:Bool),(gapL l b).length<=l.length:=by
    intro l
    induction l with
    | nil=>intro b;exact Nat.le_refl _
    | cons c r ih =>
     intro b;have a1:=ih false;have a2:=ih true;have a3:=ih b;simp only[gapL,List.length_cons]
     split
     ·omega
     ·split
      ·omega
      ·split
       ·simp
       ·omega
   exact this _ _
  rw[List.length_append]at hf;obtain⟨f',rfl⟩:∃ f',f=f'+1:=⟨f-1,by omega⟩;have ih:=fun o=>relex hg ws w f' o (fun x hx=>hs x (by simp[hx])) (by omega)
  cases hb:bytes w with
  | nil=>exact absurd hb hne
  | cons c r =>
   rw[hb,List.cons_append]at hsl;rw[List.cons_append,lexP,hsl];simp only[List.map_cons,List.cons_append];have e1:(c::(r++lay gp fin w ws)).take (c::r).length=c::r:=by rw[<-List.cons_append];exact List.take_left
   have e2:(c::(r++lay gp fin w ws)).drop (c::r).length=lay gp fin w ws:=by rw[<-List.cons_append];exact List.drop_left
   rw[e1,e2,ih];refine congrArg (·::_) ?_;exact ByteArray.ext (Array.ext' hb.symm)
theorem gapL_head:∀ (l:List UInt8) (b:Bool) (c:UInt8) (r:List UInt8),gapL l b=c::r->ngap c
 | [],_,_,_,h=>by cases h
 | x::l,b,c,r,h=>by
  simp only[gapL]at h
  split at h
  ·exact gapL_head l false c r h
  ·rename_i h1
   split at h
   ·exact gapL_head l true c r h
   ·rename_i h2
    split at h
    ·rename_i h3
     cases h;exact⟨h1,h2,h3.2.1,h3.2.2⟩
    ·exact gapL_head l b c r h
theorem take_takeWhile (p:UInt8->Bool):∀ l:List UInt8,l.take (l.takeWhile p).length=l.takeWhile p
 | []=>rfl
 | c::r=>by
  simp only[List.takeWhile_cons];cases p c
  ·rfl
  ·simp[take_takeWhile p r]
theorem mem_takeWhile {p:UInt8->Bool}:∀ {l:List UInt8} {x:UInt8},x∈l.takeWhile p->p x=true
 | [],_,h=>by cases h
 | c::r,x,h=>by
  simp only[List.takeWhile_cons]at h;cases hc:p c
  ·rw[hc]at h;cases h
  ·rw[hc]at h
   rcases List.mem_cons.1 h with rfl | h
   ·exact hc
   ·exact mem_takeWhile h
theorem sig_take {c:UInt8}{r:List UInt8}(h:ngap c):Sig ((c::r).take (signLen (c::r))):=by
 simp only[signLen]
 by_cases h37:bt c=37
 ·rw[if_pos h37,Nat.add_comm,List.take_succ_cons,take_takeWhile]
  refine⟨h,?_⟩;rw[if_pos (.inl h37)];exact fun x hx=>mem_takeWhile hx
 ·rw[if_neg h37]
  cases hc:wcB c
  ·simp only[List.takeWhile_cons,hc]
   refine⟨h,?_⟩;rw[if_neg (by simp[h37,hc])];rfl
  ·simp only[List.takeWhile_cons,hc,if_true,List.length_cons]
   rw[Nat.max_eq_left (by omega),List.take_succ_cons,take_takeWhile];refine⟨h,?_⟩;rw[if_pos (.inr hc)];exact fun x hx=>mem_takeWhile hx
theorem lexP_sig:∀ (f o:Nat) (l:List UInt8),(∀ c r,l=c::r->ngap c)->∀ t∈lexP f o l,t.1=noText∨Sig (bytes t.1)
 | 0,o,l,_,t,ht=>by
  simp only[lexP,List.mem_singleton]at ht;subst ht;exact .inl rfl
 | f+1,o,[],_,t,ht=>by
  simp only[lexP,List.mem_singleton]at ht;subst ht;exact .inl rfl
 | f+1,o,c::r,hl,t,ht=>by
  simp only[lexP]at ht;rcases List.mem_cons.1 ht with rfl | ht
  ·right
   show Sig ((c::r).take (signLen (c::r)));exact sig_take (hl c r rfl)
  ·exact lexP_sig f _ _ (fun c r h=>gapL_head _ _ _ _ h) t ht
theorem lex_sig (s:ByteArray)(t:Tk)(h:t∈lex s):t.1=noText∨Sig (bytes t.1):=by
 rw[lex_P]at h;exact lexP_sig _ _ _ (fun c r e=>gapL_head _ _ _ _ e) t h
end Lx
end
section
open Go.RowKit
end
section
open Go Go.RowKit
namespace Lx
/-! Signs further on: errors are told as much further on. -/
section
variable (k:Nat)
variable {k}
end
end Lx
end
section
open Go Go.RowKit
namespace Lx
/-! The words of a text,as chapter 2's package finds them again,and as the grammar has them. -/
abbrev Wd:=Nat × ByteArray × Nat
def nextIn (il:Bool)(t:Tk):Bool:=if isName t.1=true then false else il
def wdOf (beh:ByteArray)(il:Bool)(t:Tk)(nx:ByteArray):List Wd :=
 if isName t.1=true then [(if nx=tEq then 1 else 2,t.1,t.2)]
 else if isToken t.1=true then [(if il=true then 0 else if beh=tPrec then 4 else 3,t.1,t.2)]
 else []
def wl:ByteArray->Bool->List Tk->List Wd
 | _,_,[]=>[]
 | beh,il,t::ts=>wdOf beh il t (hd ts)++wl t.1 (nextIn il t) ts
def flatA:Nat->List Alt->List Wd
 | 0,_=>[]
 | d+1,l=>l.flatMap fun a=>(a.1.flatMap fun x=>(if x.kind=0 then [(2,x.name,x.place)] else if x.kind=1 then [(3,x.name,x.place)] else [])++flatA d x.alts)++(if a.2.1=noText then [] else [(4,a.2.1,a.2.2)])
def flatI (d:Nat)(x:It):List Wd:=(if x.kind=0 then [(2,x.name,x.place)] else if x.kind=1 then [(3,x.name,x.place)] else [])++flatA d x.alts
def flatOne (d:Nat)(a:Alt):List Wd:=a.1.flatMap (flatI d)++(if a.2.1=noText then [] else [(4,a.2.1,a.2.2)])
theorem flatA_nil:∀ d,flatA d []=[]
 | 0=>rfl
 | _+1=>rfl
theorem flatA_succ (d:Nat)(l:List Alt):flatA (d+1) l=l.flatMap (flatOne d):=rfl
def flatG (g:Gr):List Wd:=(g.levels.flatMap fun lv=>lv.tokens.map fun t=>(0,t.1,t.2))++g.rules.flatMap fun r=>(1,r.name,r.place)::flatA 9 r.alts
def Pass {α:Type}(fl:α->List Wd)(f:List Tk->Res α):Prop:=∀ ts x ts',WF ts->f ts=.ok (x,ts')->WF ts'/\(hd ts'≠tEq->∀ beh,beh≠tPrec->∃ beh',beh'≠tPrec/\wl beh false ts=fl x++wl beh' false ts')
theorem wl_cons {ts:List Tk}(h:WF ts)(beh:ByteArray)(il:Bool):wl beh il ts=wdOf beh il (hd ts,pl ts) (hd ts.tail)++wl (hd ts) (nextIn il (hd ts,pl ts)) ts.tail:=by
 cases ts with
 | nil=>exact h.elim
 | cons t r=>rfl
theorem wd_no {t:ByteArray}{p:Nat}{nx beh:ByteArray}{il:Bool}(h1:isName t=false)(h2:isToken t=false):wdOf beh il (t,p) nx=[]:=by
 unfold wdOf;simp only[h1,h2];rfl
theorem next_no {t:ByteArray}{p:Nat}(h1:isName t=false)(il:Bool):nextIn il (t,p)=il:=by
 unfold nextIn;simp only[h1];rfl
theorem wl_skip {ts:List Tk}(h:WF ts){b:ByteArray}(hb:hd ts=b)(h1:isName b=false)(h2:isToken b=false)(beh:ByteArray)(il:Bool):wl beh il ts=wl b il ts.tail:=by
 rw[wl_cons h,hb,wd_no h1 h2,next_no h1];rfl
theorem pMust_wl {b:ByteArray}(hn:b≠noText)(h1:isName b=false)(h2:isToken b=false){ts ts':List Tk}{u:Unit}(hw:WF ts)(h:pMust b ts=.ok (u,ts'))(beh:ByteArray)(il:Bool):WF ts'/\wl beh il ts=wl b il ts':=by
 obtain⟨e1,e2⟩:=pMust_len h;subst e1;exact⟨hw.tail (by rw[e2];exact hn),wl_skip hw e2 h1 h2 beh il⟩
theorem pMark_wl {ts:List Tk}(hw:WF ts){beh:ByteArray}(hb:beh≠tPrec):WF (pMark ts).2/\∃ beh',beh'≠tPrec/\wl beh false ts=wl beh' false (pMark ts).2:=by
 unfold pMark
 split
 ·rename_i h;exact⟨hw.tail (by rw[h];decide),_,by decide,wl_skip hw h (by decide) (by decide) beh false⟩
 ·split
  ·rename_i h;exact⟨hw.tail (by rw[h];decide),_,by decide,wl_skip hw h (by decide) (by decide) beh false⟩
  ·split
   ·rename_i h;exact⟨hw.tail (by rw[h];decide),_,by decide,wl_skip hw h (by decide) (by decide) beh false⟩
   ·exact⟨hw,beh,hb,rfl⟩
theorem pMark_hd {ts:List Tk}(h:hd (pMark ts).2≠tEq):hd ts≠tEq:=by
 unfold pMark at h
 split at h
 ·rename_i h1;rw[h1];decide
 ·split at h
  ·rename_i h1;rw[h1];decide
  ·split at h
   ·rename_i h1;rw[h1];decide
   ·exact h
theorem word_ne {k:ByteArray->Bool}(h0:k noText=false){t:ByteArray}(h:k t=true):t≠noText:=fun e=>by rw[e,h0]at h;cases h
theorem name_prec {t:ByteArray}(h:isName t=true):t≠tPrec:=fun e=>by rw[e]at h;exact absurd h (by decide)
theorem tok_prec {t:ByteArray}(h:isToken t=true):t≠tPrec:=fun e=>by rw[e]at h;exact absurd h (by decide)
theorem tok_name {t:ByteArray}(h:isToken t=true):isName t=false:=by
 unfold isToken isWord at h;simp only[Bool.and_eq_true]at h;have hc:=h.1.2;unfold isName isWord;have:small (byteAt t 0)=false:=by
  unfold capital at hc;unfold small;have:=of_decide_eq_true hc;exact decide_eq_false (by omega)
 simp[this]
theorem pItem_pass {d:Nat}{grp:List Tk->Res (List Alt)}(hg:∀ ts x ts',WF ts->hd ts=tOpen->grp ts=.ok (x,ts')->WF ts'/\∀ beh,∃ beh',beh'≠tPrec/\wl beh false ts=flatA d x++wl beh' false ts'):Pass (flatI d) (pItem grp):=fun ts x ts' hw h=>by
 rw[pItem_eq]at h
 split at h
 ·rename_i ho
  obtain⟨al,t1,h1,h2⟩:=bnd_ok h;cases h2;obtain⟨w1,k1⟩:=hg _ _ _ hw ho h1;refine⟨(pMark_wl w1 (beh:=noText) (by decide)).1,fun _ beh hb=>?_⟩;obtain⟨b1,n1,e1⟩:=k1 beh;obtain⟨_,b2,n2,e2⟩:=pMark_wl w1 n1;refine⟨b2,n2,?_⟩;rw[e1,e2];simp only[flatI,List.append_assoc];rfl
 ·split at h
  ·rename_i ho hnm
   cases h;have wt:=hw.tail (word_ne (by decide) hnm);refine⟨(pMark_wl wt (beh:=noText) (by decide)).1,fun he beh hb=>?_⟩;obtain⟨_,b2,n2,e2⟩:=pMark_wl wt (name_prec hnm);refine⟨b2,n2,?_⟩;rw[wl_cons hw,show nextIn false (hd ts,pl ts)=false by unfold nextIn;split <;> rfl,e2];unfold wdOf flatI;simp only[hnm,if_true,if_neg (pMark_hd he),flatA_nil,List.append_nil]
  ·split at h
   ·rename_i ho hnm htk
    cases h;have wt:=hw.tail (word_ne (by decide) htk);refine⟨(pMark_wl wt (beh:=noText) (by decide)).1,fun he beh hb=>?_⟩;obtain⟨_,b2,n2,e2⟩:=pMark_wl wt (tok_prec htk);refine⟨b2,n2,?_⟩;rw[wl_cons hw,next_no (tok_name htk),e2];unfold wdOf flatI;simp only[tok_name htk,htk,if_true,if_neg hb,flatA_nil,List.append_nil];simp
   ·cases h
end Lx
end
section
open Go Go.RowKit
namespace Lx
theorem sees_ne {ts:List Tk}(h:seesItem ts=true):hd ts≠tEq:=by
 intro e;unfold seesItem at h;rw[e]at h;exact absurd h (by decide)
theorem pItems_pass {d:Nat} {grp:List Tk->Res (List Alt)} (hp:Pass (flatI d) (pItem grp)) (hl:∀ ts x ts',grp ts=.ok (x,ts')->ts'.length<=ts.tail.length):∀ (f:Nat) (ts:List Tk) (a x:List It) (ts':List Tk),WF ts->ts.length<=f->pItems grp f ts a=.ok (x,ts')->WF ts'/\∃ y,x=a++y/\(hd ts'≠tEq->hd ts≠tEq/\∀ beh,beh≠tPrec->∃ beh',beh'≠tPrec/\wl beh false ts=y.flatMap (flatI d)++wl beh' false ts')
 | 0,ts,a,x,ts',hw,hf,h=>by have:=hw.ne;omega
 | f+1,ts,a,x,ts',hw,hf,h=>by
  rw[pItems_eq]at h
  split at h
  ·rename_i hs
   obtain⟨z,t1,h1,h2⟩:=bnd_ok h;obtain⟨w1,k1⟩:=hp _ _ _ hw h1;have hlen:=pItem_len hl h1;have htl:=hw.tail_len;obtain⟨w2,y,e1,k2⟩:=pItems_pass hp hl f t1 _ x ts' w1 (by omega) h2;refine⟨w2,z::y,by rw[e1];simp,fun he=>⟨sees_ne hs,fun beh hb=>?_⟩⟩;obtain⟨n1,k3⟩:=k2 he;obtain⟨b1,hb1,e2⟩:=k1 n1 beh hb;obtain⟨b2,hb2,e3⟩:=k3 b1 hb1;exact⟨b2,hb2,by rw[e2,e3,List.flatMap_cons,List.append_assoc]⟩
  ·cases h
   exact⟨hw,[],by simp,fun he=>⟨he,fun beh hb=>⟨beh,hb,rfl⟩⟩⟩
theorem pPrec_pass (top:Bool)(a:List It){ts ts':List Tk}{x:Alt}(hw:WF ts)(h:pPrec top a ts=.ok (x,ts')):WF ts'/\x.1=a/\(hd ts'≠tEq->hd ts≠tEq)/\∀ beh,beh≠tPrec->∃ beh',beh'≠tPrec/\wl beh false ts=(if x.2.1=noText then [] else [(4,x.2.1,x.2.2)])++wl beh' false ts':=by
 rw[pPrec_eq]at h
 split at h
 ·rename_i hc
  obtain⟨b,t1,h1,h2⟩:=bnd_ok h;cases h2;obtain⟨e1,e2,e3⟩:=pWord_len h1;have wt:=hw.tail (by rw[hc.2];decide);subst e1 e2;refine⟨wt.tail (word_ne (by decide) e3),rfl,fun _=>by rw[hc.2];decide,fun beh hb=>⟨hd ts.tail,tok_prec e3,?_⟩⟩;rw[wl_skip hw hc.2 (by decide) (by decide),wl_cons wt,next_no (tok_name e3)];rw[if_neg (word_ne (by decide) e3)];unfold wdOf;simp only[tok_name e3,e3,if_true];simp
 ·cases h
  exact⟨hw,rfl,fun h=>h,fun beh hb=>⟨beh,hb,by simp⟩⟩
theorem pAlt_pass {d:Nat}{grp:List Tk->Res (List Alt)}(hp:Pass (flatI d) (pItem grp))(hl:∀ ts x ts',grp ts=.ok (x,ts')->ts'.length<=ts.tail.length)(top:Bool):Pass (flatOne d) (pAlt grp top):=fun ts x ts' hw h=>by
 rw[pAlt_eq]at h;obtain⟨y,t1,h1,h2⟩:=bnd_ok h;obtain⟨w1,z,e1,k1⟩:=pItems_pass hp hl _ _ _ _ _ hw (Nat.le_refl _) h1;obtain⟨w2,e2,n2,k2⟩:=pPrec_pass top _ w1 h2;refine⟨w2,fun he beh hb=>?_⟩;obtain⟨_,k3⟩:=k1 (n2 he);obtain⟨b1,hb1,q1⟩:=k3 beh hb;obtain⟨b2,hb2,q2⟩:=k2 b1 hb1;refine⟨b2,hb2,?_⟩;rw[q1,q2];unfold flatOne;rw[e2,e1,List.nil_append,List.append_assoc]
theorem pMore_pass {d:Nat} {grp:List Tk->Res (List Alt)} (hp:Pass (flatI d) (pItem grp)) (hl:∀ ts x ts',grp ts=.ok (x,ts')->ts'.length<=ts.tail.length) (top:Bool):∀ (f:Nat) (ts:List Tk) (a x:List Alt) (ts':List Tk),WF ts->ts.length<=f->pMore grp top f ts a=.ok (x,ts')->WF ts'/\∃ y,x=a++y/\(hd ts'≠tEq->hd ts≠tEq/\∀ beh,beh≠tPrec->∃ beh',beh'≠tPrec/\wl beh false ts=y.flatMap (flatOne d)++wl beh' false ts')
 | 0,ts,a,x,ts',hw,hf,h=>by have:=hw.ne;omega
 | f+1,ts,a,x,ts',hw,hf,h=>by
  rw[pMore_eq]at h
  split at h
  ·rename_i hs
   obtain⟨z,t1,h1,h2⟩:=bnd_ok h;have wt:=hw.tail (by rw[hs];decide);obtain⟨w1,k1⟩:=pAlt_pass hp hl top _ _ _ wt h1;have hlen:=pAlt_len hl h1;have htl:=hw.tail_len;obtain⟨w2,y,e1,k2⟩:=pMore_pass hp hl top f t1 _ x ts' w1 (by omega) h2;refine⟨w2,z::y,by rw[e1];simp,fun he=>⟨by rw[hs];decide,fun beh hb=>?_⟩⟩;obtain⟨n1,k3⟩:=k2 he;obtain⟨b1,hb1,e2⟩:=k1 n1 tBar (by decide);obtain⟨b2,hb2,e3⟩:=k3 b1 hb1;refine⟨b2,hb2,?_⟩;rw[wl_skip hw hs (by decide) (by decide),e2,e3,List.flatMap_cons,List.append_assoc]
  ·cases h
   exact⟨hw,[],by simp,fun he=>⟨he,fun beh hb=>⟨beh,hb,rfl⟩⟩⟩
theorem pAltsBy_pass {d:Nat}{grp:List Tk->Res (List Alt)}(hp:Pass (flatI d) (pItem grp))(hl:∀ ts x ts',grp ts=.ok (x,ts')->ts'.length<=ts.tail.length)(top:Bool):Pass (flatA (d+1)) (pAltsBy grp top):=fun ts x ts' hw h=>by
 rw[pAltsBy_eq]at h;obtain⟨y,t1,h1,h2⟩:=bnd_ok h;obtain⟨w1,k1⟩:=pAlt_pass hp hl top _ _ _ hw h1;obtain⟨w2,z,e1,k2⟩:=pMore_pass hp hl top _ _ _ _ _ w1 (Nat.le_refl _) h2;refine⟨w2,fun he beh hb=>?_⟩;obtain⟨n1,k3⟩:=k2 he;obtain⟨b1,hb1,q1⟩:=k1 n1 beh hb;obtain⟨b2,hb2,q2⟩:=k3 b1 hb1;refine⟨b2,hb2,?_⟩;rw[q1,q2,e1,flatA_succ,List.flatMap_append,List.flatMap_cons,List.flatMap_nil,List.append_nil,List.append_assoc]
theorem pGroup_pass {d:Nat}{r:List Tk->Res (List Alt)}(hr:Pass (flatA d) r)(ts:List Tk)(x:List Alt)(ts':List Tk)(hw:WF ts)(ho:hd ts=tOpen)(h:pGroup r ts=.ok (x,ts')):WF ts'/\∀ beh,∃ beh',beh'≠tPrec/\wl beh false ts=flatA d x++wl beh' false ts':=by
 rw[pGroup_eq]at h;obtain⟨y,t1,h1,h2⟩:=bnd_ok h;obtain⟨u,t2,h3,h4⟩:=bnd_ok h2;cases h4;obtain⟨w1,k1⟩:=hr _ _ _ (hw.tail (by rw[ho];decide)) h1;have e3:=(pMust_len h3).2;obtain⟨w2,k2⟩:=pMust_wl (by decide) (by decide) (by decide) w1 h3 noText false;refine⟨w2,fun beh=>?_⟩;obtain⟨b1,hb1,q1⟩:=k1 (by rw[e3];decide) tOpen (by decide);refine⟨tShut,by decide,?_⟩;rw[wl_skip hw ho (by decide) (by decide),q1,(pMust_wl (by decide) (by decide) (by decide) w1 h3 b1 false).2]
theorem pAlts_pass:∀ d,Pass (flatA (d+1)) (pAlts d)
 | 0=>pAltsBy_pass (grp:=fun ts=>.error (3,pl ts)) (pItem_pass (fun _ _ _ _ _ h=>by cases h)) (fun _ _ _ h=>by cases h) false
 | d+1=>pAltsBy_pass (pItem_pass (pGroup_pass (pAlts_pass d))) (pGroup_len (pAlts_len d)) (d == 7)
theorem pRule_pass {ts ts':List Tk}{x:Rl}(hw:WF ts)(h:pRule ts=.ok (x,ts')):WF ts'/\∀ beh il,wl beh il ts=(1,x.name,x.place)::flatA 9 x.alts++wl tSemi false ts':=by
 rw[pRule_eq]at h;obtain⟨n,t1,h1,h2⟩:=bnd_ok h;obtain⟨_,t2,h3,h4⟩:=bnd_ok h2;obtain⟨l,t3,h5,h6⟩:=bnd_ok h4;obtain⟨_,t4,h7,h8⟩:=bnd_ok h6;cases h8;obtain⟨e1,e2,e3⟩:=pWord_len h1;subst e1 e2;have wt:=hw.tail (word_ne (by decide) e3);have heq:=(pMust_len h3).2;obtain⟨w2,k2⟩:=pMust_wl (by decide) (by decide) (by decide) wt h3 (hd ts) false;obtain⟨w3,k3⟩:=pAlts_pass 8 _ _ _ w2 h5;have hsm:=(pMust_len h7).2;obtain⟨b1,hb1,q1⟩:=k3 (by rw[hsm];decide) tEq (by decide);obtain⟨w4,k4⟩:=pMust_wl (by decide) (by decide) (by decide) w3 h7 b1 false;refine⟨w4,fun beh il=>?_⟩;rw[wl_cons hw,show nextIn il (hd ts,pl ts)=false by unfold nextIn;rw[if_pos e3],k2,q1,k4];unfold wdOf;simp only[e3,if_true,heq];simp
theorem pTokens_pass:∀ (f:Nat) (ts a x ts':List Tk),WF ts->ts.length<=f->pTokens f ts a=.ok (x,ts')->WF ts'/\∃ y,x=a++y/\∀ beh,wl beh true ts=y.map (fun t=>(0,t.1,t.2))++wl tSemi true ts'
 | 0,ts,a,x,ts',hw,hf,h=>by have:=hw.ne;omega
 | f+1,ts,a,x,ts',hw,hf,h=>by
  rw[pTokens_eq]at h
  split at h
  ·rename_i hs
   cases h;exact⟨hw.tail (by rw[hs];decide),[],by simp,fun beh=>by rw[wl_skip hw hs (by decide) (by decide)];rfl⟩
  ·obtain⟨b,t1,h1,h2⟩:=bnd_ok h
   obtain⟨e1,e2,e3⟩:=pWord_len h1;subst e1 e2;have wt:=hw.tail (word_ne (by decide) e3);have htl:=hw.tail_len;obtain⟨w2,y,q1,q2⟩:=pTokens_pass f ts.tail _ x ts' wt (by omega) h2;refine⟨w2,(hd ts,pl ts)::y,by rw[q1];simp,fun beh=>?_⟩;rw[wl_cons hw,next_no (tok_name e3),q2];unfold wdOf;simp only[tok_name e3,e3,if_true];simp
theorem pLevel_pass {ts ts':List Tk}{x:Lv}(hw:WF ts)(hk:0<=levelKind (hd ts))(h:pLevel ts=.ok (x,ts')):WF ts'/\∀ beh,wl beh true ts=x.tokens.map (fun t=>(0,t.1,t.2))++wl tSemi true ts':=by
 rw[pLevel_eq]at h;obtain⟨b,t1,h1,h2⟩:=bnd_ok h;obtain⟨l,t2,h3,h4⟩:=bnd_ok h2;cases h4;have hcase:hd ts=tLeft∨hd ts=tRight∨hd ts=tNone:=by
  unfold levelKind at hk
  split at hk
  ·rename_i h;exact .inl h
  ·split at hk
   ·rename_i h;exact .inr (.inl h)
   ·split at hk
    ·rename_i h;exact .inr (.inr h)
    ·exact absurd hk (by decide)
 have hno:isName (hd ts)=false/\isToken (hd ts)=false/\hd ts≠noText:=by
  rcases hcase with e | e | e <;> rw[e] <;> decide
 have wt:=hw.tail hno.2.2;obtain⟨e1,e2,e3⟩:=pWord_len h1;subst e1 e2;have wt2:=wt.tail (word_ne (by decide) e3);obtain⟨w3,y,q1,q2⟩:=pTokens_pass _ _ _ _ _ wt2 (Nat.le_refl _) h3;refine⟨w3,fun beh=>?_⟩;rw[wl_skip hw rfl hno.1 hno.2.1,wl_cons wt,next_no (tok_name e3),q2,q1];unfold wdOf;simp only[tok_name e3,e3,if_true];simp
theorem pLevels_pass:∀ (f:Nat) (ts:List Tk) (a x:List Lv) (ts':List Tk),WF ts->pLevels f ts a=.ok (x,ts')->WF ts'/\∃ y,x=a++y/\∀ beh,∃ beh',wl beh true ts=(y.flatMap fun lv=>lv.tokens.map fun t=>(0,t.1,t.2))++wl beh' true ts'
 | 0,ts,a,x,ts',hw,h=>by cases h;exact⟨hw,[],by simp,fun beh=>⟨beh,rfl⟩⟩
 | f+1,ts,a,x,ts',hw,h=>by
  rw[pLevels_eq]at h
  split at h
  ·rename_i hk
   obtain⟨z,t1,h1,h2⟩:=bnd_ok h;obtain⟨w1,k1⟩:=pLevel_pass hw hk h1;obtain⟨w2,y,e1,k2⟩:=pLevels_pass f t1 _ x ts' w1 h2;refine⟨w2,z::y,by rw[e1];simp,fun beh=>?_⟩;obtain⟨b2,q2⟩:=k2 tSemi;exact⟨b2,by rw[k1,q2,List.flatMap_cons,List.append_assoc]⟩
  ·cases h;exact⟨hw,[],by simp,fun beh=>⟨beh,rfl⟩⟩
theorem pRules_pass:∀ (f:Nat) (ts:List Tk) (a x:List Rl) (ts':List Tk),WF ts->pRules f ts a=.ok (x,ts')->WF ts'/\∃ y,x=a++y/\∀ beh il,∃ beh' il',wl beh il ts=(y.flatMap fun r=>(1,r.name,r.place)::flatA 9 r.alts)++wl beh' il' ts'
 | 0,ts,a,x,ts',hw,h=>by cases h;exact⟨hw,[],by simp,fun beh il=>⟨beh,il,rfl⟩⟩
 | f+1,ts,a,x,ts',hw,h=>by
  rw[pRules_eq]at h
  split at h
  ·cases h;exact⟨hw,[],by simp,fun beh il=>⟨beh,il,rfl⟩⟩
  ·obtain⟨z,t1,h1,h2⟩:=bnd_ok h
   obtain⟨w1,k1⟩:=pRule_pass hw h1;obtain⟨w2,y,e1,k2⟩:=pRules_pass f t1 _ x ts' w1 h2;refine⟨w2,z::y,by rw[e1];simp,fun beh il=>?_⟩;obtain⟨b2,il2,q2⟩:=k2 tSemi false;exact⟨b2,il2,by rw[k1,q2,List.flatMap_cons,List.append_assoc]⟩
theorem words_flat {s:ByteArray}{g:Gr}(h:parse s=.ok g):wl noText true (lex s)=flatG g:=by
 obtain⟨_,ts',hp⟩:=parse_ok h;have hend:=pGrammar_end hp;rw[pGrammar_bnd]at hp;obtain⟨lv,t1,h1,h2⟩:=bnd_ok hp;obtain⟨x,t2,h3,h4⟩:=bnd_ok h2;obtain⟨l,t3,h5,h6⟩:=bnd_ok h4;cases h6;obtain⟨w1,y1,e1,k1⟩:=pLevels_pass _ _ _ _ _ (lex_wf s) h1;obtain⟨w2,k2⟩:=pRule_pass w1 h3;obtain⟨w3,y3,e3,k3⟩:=pRules_pass _ _ _ _ _ w2 h5;obtain⟨b1,q1⟩:=k1 noText;obtain⟨b3,il3,q3⟩:=k3 tSemi false;have hlast:wl b3 il3 ts'=[]:=by
  rw[wl_cons w3,hend,wd_no (by decide) (by decide)];have:=w3
  match ts',this,hend with
  | [t],_,_=>rfl
  | t::u::r,h,e=>exact absurd e h.1
 rw[q1,k2,q3,hlast,e1,e3];unfold flatG;simp
end Lx
end
section
open Go Go.RowKit
namespace Lx
/-! Chapter 2: what a grammar must be,over the pure grammar. -/
theorem wl_kinds:∀ (ts:List Tk) (beh:ByteArray) (il:Bool) (w:Wd),w∈wl beh il ts->((w.1=1∨w.1=2)/\isName w.2.1=true)∨((w.1=0∨w.1=3∨w.1=4)/\isToken w.2.1=true)
 | [],_,_,_,h=>by cases h
 | t::ts,beh,il,w,h=>by
  rcases List.mem_append.1 h with h | h
  ·unfold wdOf at h
   split at h
   ·rename_i hn
    simp only[List.mem_singleton]at h;subst h
    left
    refine⟨?_,hn⟩
    by_cases he:hd ts=tEq
    ·left;simp[he]
    ·right;simp[he]
   ·split at h
    ·rename_i hn ht
     simp only[List.mem_singleton]at h;subst h
     right
     refine⟨?_,ht⟩
     by_cases h1:il=true
     ·left;simp[h1]
     ·by_cases h2:beh=tPrec
      ·right;right;simp[h1,h2]
      ·right;left;simp[h1,h2]
    ·cases h
  ·exact wl_kinds ts _ _ w h
theorem flat_kinds {s:ByteArray}{g:Gr}(h:parse s=.ok g)(w:Wd)(hw:w∈flatG g):((w.1=1∨w.1=2)/\isName w.2.1=true)∨((w.1=0∨w.1=3∨w.1=4)/\isToken w.2.1=true):=by
 rw[<-words_flat h]at hw;exact wl_kinds _ _ _ w hw
theorem name_not_tok {t:ByteArray}(h1:isName t=true)(h2:isToken t=true):False:=by rw[tok_name h2]at h1;cases h1
def told (ws:List Wd):List Wd:=ws.filter fun w=>decide (w.1=0∨w.1=1)
def memB (b:ByteArray)(l:List ByteArray):Bool:=l.any fun x=>decide (x=b)
theorem memB_iff {b:ByteArray}{l:List ByteArray}:memB b l=true↔b∈l:=by
 unfold memB;rw[List.any_eq_true];constructor
 ·rintro⟨x,hx,e⟩
  have:=of_decide_eq_true e;subst this;exact hx
 ·intro h;exact⟨b,h,decide_eq_true rfl⟩
def firstDup:List ByteArray->List Wd->Option Nat
 | _,[]=>none
 | seen,w::ws=>if memB w.2.1 seen=true then some w.2.2 else firstDup (w.2.1::seen) ws
def levelWords (g:Gr):List Wd:=g.levels.flatMap fun lv=>lv.tokens.map fun t=>(0,t.1,t.2)
def ruleWords (g:Gr):List Wd:=g.rules.map fun r=>(1,r.name,r.place)
theorem flatA_used:∀ (d:Nat) (l:List Alt) (w:Wd),w∈flatA d l->w.1=2∨w.1=3∨w.1=4
 | 0,_,_,h=>by cases h
 | d+1,l,w,h=>by
  rw[flatA_succ]at h;obtain⟨a,_,h⟩:=List.mem_flatMap.1 h;rcases List.mem_append.1 h with h | h
  ·obtain⟨x,_,h⟩:=List.mem_flatMap.1 h
   rcases List.mem_append.1 h with h | h
   ·split at h
    ·simp only[List.mem_singleton]at h;subst h;exact .inl rfl
    ·split at h
     ·simp only[List.mem_singleton]at h;subst h;exact .inr (.inl rfl)
     ·cases h
   ·exact flatA_used d _ w h
  ·split at h
   ·cases h
   ·simp only[List.mem_singleton]at h;subst h;exact .inr (.inr rfl)
theorem told_flatA (d:Nat)(l:List Alt):told (flatA d l)=[]:=by
 unfold told;rw[List.filter_eq_nil_iff];intro w hw;have:=flatA_used d l w hw;simp only[decide_eq_true_eq];omega
theorem told_levels (g:Gr):told (levelWords g)=levelWords g:=by
 unfold told;rw[List.filter_eq_self];intro w hw;unfold levelWords at hw;obtain⟨lv,_,hw⟩:=List.mem_flatMap.1 hw;obtain⟨t,_,rfl⟩:=List.mem_map.1 hw;rfl
theorem told_flat (g:Gr):told (flatG g)=levelWords g++ruleWords g:=by
 unfold flatG;have h1:told (levelWords g)=levelWords g:=told_levels g;have h2:∀ rs:List Rl,told (rs.flatMap fun r=>(1,r.name,r.place)::flatA 9 r.alts)=rs.map fun r=>(1,r.name,r.place):=by
  intro rs
  induction rs with
  | nil=>rfl
  | cons r rs ih =>
   rw[List.flatMap_cons,List.map_cons,<-ih];have h3:=told_flatA 9 r.alts;unfold told at h3 ⊢;rw[List.filter_append,List.filter_cons,h3];rfl
 show told (levelWords g++_)=_;unfold told at h1 h2 ⊢;rw[List.filter_append,h1,h2];rfl
def firstUnknown (names toks:List ByteArray):List Wd->Option Nat
 | []=>none
 | w::ws=>if (w.1=2/\memB w.2.1 names=false)∨(w.1=4/\memB w.2.1 toks=false) then some w.2.2 else firstUnknown names toks ws
theorem firstUnknown_app (names toks:List ByteArray)(a b:List Wd):firstUnknown names toks (a++b)=(firstUnknown names toks a).or (firstUnknown names toks b):=by
 induction a with
 | nil=>simp[firstUnknown]
 | cons w a ih =>
  simp only[List.cons_append,firstUnknown]
  split
  ·rfl
  ·exact ih
def iter {σ:Type} (R:σ->σ):Nat->σ->σ
 | 0,s=>s
 | k+1,s=>iter R k (R s)
theorem iter_closed {σ:Type} {R:σ->σ} {Inv Closed:σ->Prop} {cnt:σ->Nat} {N:Nat} (hI:∀ s,Inv s->Inv (R s)) (hN:∀ s,Inv s->cnt s<=N) (hp:∀ s,Inv s->¬ Closed s->cnt s<cnt (R s)) (hk:∀ s,Inv s->Closed s->R s=s):∀ (k:Nat) (s:σ),Inv s->N+1<=k+cnt s->Closed (iter R k s)
 | 0,s,hi,h=>by have:=hN s hi;omega
 | k+1,s,hi,h=>by
  by_cases hc:Closed s
  ·have:∀ k,iter R k s=s:=by
    intro k
    induction k with
    | zero=>rfl
    | succ k ih=>rw[iter,hk s hi hc,ih]
   rw[this];exact hc
  ·have:=hp s hi hc
   exact iter_closed hI hN hp hk k (R s) (hI s hi) (by omega)
end Lx
end
section
open Go Go.RowKit
namespace Lx
def textsOf (ws:List Wd):List ByteArray:=ws.map fun w=>w.2.1
theorem memB_false {b:ByteArray}{l:List ByteArray}:memB b l=false↔b ∉ l:=by
 rw[<-Bool.not_eq_true,memB_iff]
theorem memB_same {b:ByteArray}{l m:List ByteArray}(h:b∈l↔b∈m):memB b l=memB b m:=by
 cases h1:memB b l
 ·cases h2:memB b m
  ·rfl
  ·exact absurd (h.2 (memB_iff.1 h2)) (memB_false.1 h1)
 ·exact (memB_iff.2 (h.1 (memB_iff.1 h1))).symm
theorem firstDup_same:∀ (ws:List Wd) (s t:List ByteArray),(∀ w∈ws,w.2.1∈s↔w.2.1∈t)->firstDup s ws=firstDup t ws
 | [],_,_,_=>rfl
 | w::ws,s,t,h=>by
  simp only[firstDup];rw[memB_same (h w (by simp)),firstDup_same ws (w.2.1::s) (w.2.1::t) fun u hu=>by
   simp only[List.mem_cons];rw[h u (by simp[hu])]]
theorem firstDup_app:∀ (a b:List Wd) (s:List ByteArray),firstDup s (a++b)=(firstDup s a).or (firstDup ((textsOf a).reverse++s) b)
 | [],b,s=>by simp[firstDup,textsOf]
 | w::a,b,s=>by
  simp only[List.cons_append,firstDup]
  split
  ·rfl
  ·rw[firstDup_app a b]
   simp[textsOf]
theorem dup_parts {s:ByteArray}{g:Gr}(h:parse s=.ok g):firstDup [] (told (flatG g))=(firstDup [] (levelWords g)).or (firstDup [] (ruleWords g)):=by
 rw[told_flat,firstDup_app];refine congrArg _ (firstDup_same _ _ _ fun w hw=>?_);have hin:∀ u∈levelWords g,isToken u.2.1=true:=fun u hu=>by
  have hm:u∈flatG g:=List.mem_append_left _ hu;rcases flat_kinds h u hm with ⟨h1,_⟩ | ⟨_,h2⟩
  ·unfold levelWords at hu
   obtain⟨lv,_,hu⟩:=List.mem_flatMap.1 hu;obtain⟨t,_,rfl⟩:=List.mem_map.1 hu;simp at h1
  ·exact h2
 have hwn:isName w.2.1=true:=by
  have hm:w∈told (flatG g):=by rw[told_flat];exact List.mem_append_right _ hw
  have hm2:w∈flatG g:=(List.mem_filter.1 hm).1;rcases flat_kinds h w hm2 with ⟨_,h2⟩ | ⟨h1,_⟩
  ·exact h2
  ·unfold ruleWords at hw
   obtain⟨r,_,rfl⟩:=List.mem_map.1 hw;simp at h1
 constructor
 ·intro hm
  rw[List.append_nil,List.mem_reverse]at hm;obtain⟨u,hu,e⟩:=List.mem_map.1 hm;exfalso;exact name_not_tok hwn (by rw[<-e];exact hin u hu)
 ·intro hm;cases hm
def firstNone (all:List ByteArray):List Wd->Option Nat
 | []=>none
 | w::ws=>if (w.1=2∨w.1=4)/\memB w.2.1 all=false then some w.2.2 else firstNone all ws
def ruleNames (g:Gr):List ByteArray:=g.rules.map fun r=>r.name
def levelToks (g:Gr):List ByteArray:=textsOf (levelWords g)
theorem none_unknown {names toks:List ByteArray} (hn:∀ b∈names,isName b=true) (ht:∀ b∈toks,isToken b=true):∀ ws:List Wd,(∀ w∈ws,((w.1=1∨w.1=2)/\isName w.2.1=true)∨((w.1=0∨w.1=3∨w.1=4)/\isToken w.2.1=true))->firstNone (toks++names) ws=firstUnknown names toks ws
 | [],_=>rfl
 | w::ws,h=>by
  have ih:=none_unknown hn ht ws (fun u hu=>h u (by simp[hu]));simp only[firstNone,firstUnknown];have hw:=h w (by simp);have key:((w.1=2∨w.1=4)/\memB w.2.1 (toks++names)=false)↔((w.1=2/\memB w.2.1 names=false)∨(w.1=4/\memB w.2.1 toks=false)):=by
   rcases hw with ⟨h1,h2⟩ | ⟨h1,h2⟩
   ·have e:memB w.2.1 (toks++names)=memB w.2.1 names:=memB_same ⟨fun hm=>(List.mem_append.1 hm).elim (fun hm=>(name_not_tok h2 (ht _ hm)).elim) id,fun hm=>List.mem_append_right _ hm⟩
    rw[e];constructor
    ·rintro⟨h3,h4⟩;exact .inl ⟨by omega,h4⟩
    ·rintro (⟨h3,h4⟩ | ⟨h3,_⟩)
     ·exact⟨.inl h3,h4⟩
     ·omega
   ·have e:memB w.2.1 (toks++names)=memB w.2.1 toks:=memB_same ⟨fun hm=>(List.mem_append.1 hm).elim id (fun hm=>(name_not_tok (hn _ hm) h2).elim),fun hm=>List.mem_append_left _ hm⟩
    rw[e];constructor
    ·rintro⟨h3,h4⟩;exact .inr ⟨by omega,h4⟩
    ·rintro (⟨h3,_⟩ | ⟨h3,h4⟩)
     ·omega
     ·exact⟨.inr h3,h4⟩
  by_cases hc:(w.1=2∨w.1=4)/\memB w.2.1 (toks++names)=false
  ·rw[if_pos hc,if_pos (key.1 hc)]
  ·rw[if_neg hc,if_neg (fun h=>hc (key.2 h)),ih]
theorem unknown_skip (names toks:List ByteArray):∀ ws:List Wd,(∀ w∈ws,w.1=0∨w.1=1)->firstUnknown names toks ws=none
 | [],_=>rfl
 | w::ws,h=>by
  have:=h w (by simp);simp only[firstUnknown];rw[if_neg (by omega)];exact unknown_skip names toks ws (fun u hu=>h u (by simp[hu]))
def rulesUnknown (names toks:List ByteArray):List Rl->Option Nat
 | []=>none
 | r::rs=>(firstUnknown names toks (flatA 9 r.alts)).or (rulesUnknown names toks rs)
theorem unknown_rules (g:Gr)(names toks:List ByteArray):firstUnknown names toks (flatG g)=rulesUnknown names toks g.rules:=by
 unfold flatG;rw[firstUnknown_app,unknown_skip names toks _ fun w hw=>by
  obtain⟨lv,_,hw⟩:=List.mem_flatMap.1 hw;obtain⟨t,_,rfl⟩:=List.mem_map.1 hw;exact .inl rfl,Option.none_or]
 induction g.rules with
 | nil=>rfl
 | cons r rs ih =>
  rw[List.flatMap_cons,firstUnknown_app,ih,rulesUnknown];have e:firstUnknown names toks ((1,r.name,r.place)::flatA 9 r.alts)=firstUnknown names toks (flatA 9 r.alts):=by
   simp only[firstUnknown];rw[if_neg (by simp)]
  rw[e]
end Lx
end
section
open Go Go.RowKit
namespace Lx
/-! Sets of rules as rows of Bools: what grows by rounds. -/
def at? (bs:List Bool)(i:Nat):Bool:=bs[i]?.getD false
def LeB (a b:List Bool):Prop:=a.length=b.length/\∀ i,at? a i=true->at? b i=true
theorem LeB.refl (a:List Bool):LeB a a:=⟨rfl,fun _ h=>h⟩
theorem LeB.trans {a b c:List Bool}(h:LeB a b)(k:LeB b c):LeB a c:=⟨h.1.trans k.1,fun i hi=>k.2 i (h.2 i hi)⟩
theorem at_set (bs:List Bool)(j i:Nat):at? (bs.set j true) i=if j=i/\j<bs.length then true else at? bs i:=by
 unfold at?;rw[List.getElem?_set]
 by_cases h:j=i
 ·subst h
  by_cases hl:j<bs.length
  ·simp[hl]
  ·simp[hl]
 ·simp[h]
theorem LeB.set (bs:List Bool)(j:Nat):LeB bs (bs.set j true):=⟨by simp,fun i hi=>by rw[at_set];split <;> simp_all⟩
theorem set_same {bs:List Bool}{j:Nat}(h:j<bs.length->at? bs j=true):bs.set j true=bs:=by
 apply List.ext_getElem?;intro i;rw[List.getElem?_set]
 by_cases hj:j=i
 ·subst hj
  by_cases hl:j<bs.length
  ·have h1:=h hl
   unfold at? at h1;rw[List.getElem?_eq_getElem hl]at h1 ⊢;simp only[Option.getD_some]at h1;simp[h1];exact hl
  ·simp[hl]
 ·simp[hj]
def cntB (bs:List Bool):Nat:=bs.countP id
theorem cntB_le (bs:List Bool):cntB bs<=bs.length:=List.countP_le_length
theorem cnt_mono:∀ {a b:List Bool},LeB a b->cntB a<=cntB b
 | [],[],_=>Nat.le_refl _
 | [],_::_,h=>by have:=h.1;simp at this
 | _::_,[],h=>by have:=h.1;simp at this
 | x::a,y::b,h=>by
  have ih:=cnt_mono (a:=a) (b:=b) ⟨by have:=h.1;simpa using this,fun i hi=>h.2 (i+1) hi⟩;have h0:x=true->y=true:=fun e=>by subst e;exact h.2 0 rfl
  unfold cntB at *;rw[List.countP_cons,List.countP_cons];cases x <;> cases y <;> simp_all <;> omega
theorem cnt_lt:∀ {a b:List Bool} (i:Nat),LeB a b->at? a i=false->at? b i=true->cntB a<cntB b
 | [],[],i,_,_,hb=>by simp[at?]at hb
 | [],_::_,_,h,_,_=>by have:=h.1;simp at this
 | _::_,[],_,h,_,_=>by have:=h.1;simp at this
 | x::a,y::b,0,h,ha,hb=>by
  have hm:=cnt_mono (a:=a) (b:=b) ⟨by have:=h.1;simpa using this,fun i hi=>h.2 (i+1) hi⟩;have hx:x=false:=ha;have hy:y=true:=hb;subst hx hy;unfold cntB at *;rw[List.countP_cons,List.countP_cons];simp only[id];simp;omega
 | x::a,y::b,i+1,h,ha,hb=>by
  have ih:=cnt_lt (a:=a) (b:=b) i ⟨by have:=h.1;simpa using this,fun i hi=>h.2 (i+1) hi⟩ ha hb;have h0:x=true->y=true:=fun e=>by subst e;exact h.2 0 rfl
  unfold cntB at *;rw[List.countP_cons,List.countP_cons];cases x <;> cases y <;> simp_all <;> omega
def roundB (step:Nat->List Bool->List Bool):Nat->Nat->List Bool->List Bool
 | 0,_,bs=>bs
 | k+1,i,bs=>roundB step k (i+1) (step i bs)
structure StepB (step:Nat->List Bool->List Bool) (Cl:Nat->List Bool->Prop):Prop where
 le:∀ i bs,LeB bs (step i bs)
 idle:∀ i bs,Cl i bs->step i bs=bs
 more:∀ i a bs,LeB a bs->¬ Cl i a->(∃ j,at? a j=false/\at? (step i bs) j=true)
theorem round_le {step:Nat->List Bool->List Bool} {Cl:Nat->List Bool->Prop} (h:StepB step Cl):∀ (k i:Nat) (bs:List Bool),LeB bs (roundB step k i bs)
 | 0,_,bs=>LeB.refl bs
 | k+1,i,bs=>(h.le i bs).trans (round_le h k (i+1) (step i bs))
theorem round_idle {step:Nat->List Bool->List Bool} {Cl:Nat->List Bool->Prop} (h:StepB step Cl):∀ (k i:Nat) (bs:List Bool),(∀ j,i<=j->j<i+k->Cl j bs)->roundB step k i bs=bs
 | 0,_,_,_=>rfl
 | k+1,i,bs,hc=>by
  rw[roundB,h.idle i bs (hc i (Nat.le_refl _) (by omega))];exact round_idle h k (i+1) bs fun j h1 h2=>hc j (by omega) (by omega)
theorem round_more {step:Nat->List Bool->List Bool} {Cl:Nat->List Bool->Prop} (h:StepB step Cl) (a:List Bool):∀ (k i:Nat) (bs:List Bool),LeB a bs->(∃ j,i<=j/\j<i+k/\¬ Cl j a)->∃ j,at? a j=false/\at? (roundB step k i bs) j=true
 | 0,i,_,_,⟨j,h1,h2,_⟩=>by omega
 | k+1,i,bs,hl,⟨j,h1,h2,h3⟩=>by
  by_cases hj:j=i
  ·subst hj
   obtain⟨m,hm1,hm2⟩:=h.more j a bs hl h3;exact⟨m,hm1,(round_le h k (j+1) (step j bs)).2 m hm2⟩
  ·exact round_more h a k (i+1) (step i bs) (hl.trans (h.le i bs)) ⟨j,by omega,by omega,h3⟩
theorem rounds_closed {step:Nat->List Bool->List Bool}{Cl:Nat->List Bool->Prop}(h:StepB step Cl)(n k:Nat)(bs:List Bool)(hb:bs.length=n)(hk:n+1<=k):∀ i,i<n->Cl i (iter (roundB step n 0) k bs):=by
 have key:=iter_closed (R:=roundB step n 0) (Inv:=fun s=>s.length=n) (Closed:=fun s=>∀ i,i<n->Cl i s) (cnt:=cntB) (N:=n)
  (fun s hs=>by rw[<-hs];exact (round_le h _ _ s).1.symm)
  (fun s hs=>by rw[<-hs];exact cntB_le s)
  (fun s hs hc=>by
   have hex:∃ j,0<=j/\j<0+n/\¬ Cl j s:=by
    by_cases hh:∃ j,0<=j/\j<0+n/\¬ Cl j s
    ·exact hh
    ·exfalso;apply hc
     intro i hi
     by_cases hci:Cl i s
     ·exact hci
     ·exact absurd ⟨i,Nat.zero_le _,by omega,hci⟩ hh
   obtain⟨j,h1,h2⟩:=round_more h s n 0 s (LeB.refl s) hex;exact cnt_lt j (round_le h n 0 s) h1 h2)
  (fun s hs hc=>round_idle h n 0 s fun j _ h2=>hc j (by omega))
 exact key k bs hb (by omega)
theorem rounds_le {step:Nat->List Bool->List Bool} {Cl:Nat->List Bool->Prop} (h:StepB step Cl) (n:Nat):∀ (k:Nat) (bs:List Bool),LeB bs (iter (roundB step n 0) k bs)
 | 0,bs=>LeB.refl bs
 | k+1,bs=>(round_le h n 0 bs).trans (rounds_le h n k _)
theorem rounds_keep {step:Nat->List Bool->List Bool}{I:List Bool->Prop}(hs:∀ i bs,I bs->I (step i bs))(n:Nat):∀ (k:Nat) (bs:List Bool),I bs->I (iter (roundB step n 0) k bs):=by
 have hr:∀ (m i:Nat) (bs:List Bool),I bs->I (roundB step m i bs):=by
  intro m
  induction m with
  | zero=>intro i bs h;exact h
  | succ m ih=>intro i bs h;exact ih _ _ (hs i bs h)
 intro k
 induction k with
 | zero=>intro bs h;exact h
 | succ k ih=>intro bs h;exact ih _ (hr n 0 bs h)
end Lx
end
section
open Go Go.RowKit
namespace Lx
def ixOf (ns:List ByteArray)(b:ByteArray):Nat:=ns.findIdx fun x=>decide (x=b)
def usedN (l:List Alt):List ByteArray:=textsOf ((flatA 9 l).filter fun w=>decide (w.1=2))
def altsAt (g:Gr)(i:Nat):List Alt:=(g.rules[i]?.map fun r=>r.alts).getD []
def markL (ns us:List ByteArray)(bs:List Bool):List Bool:=us.foldl (fun bs b=>bs.set (ixOf ns b) true) bs
theorem mark_le (ns:List ByteArray):∀ (us:List ByteArray) (bs:List Bool),LeB bs (markL ns us bs)
 | [],bs=>LeB.refl bs
 | b::us,bs=>(LeB.set bs (ixOf ns b)).trans (mark_le ns us _)
theorem mark_idle (ns:List ByteArray):∀ (us:List ByteArray) (bs:List Bool),(∀ b∈us,ixOf ns b<bs.length->at? bs (ixOf ns b)=true)->markL ns us bs=bs
 | [],_,_=>rfl
 | b::us,bs,h=>by
  show markL ns us (bs.set (ixOf ns b) true)=bs;rw[set_same (h b (by simp))];exact mark_idle ns us bs fun c hc=>h c (by simp[hc])
theorem mark_has (ns:List ByteArray):∀ (us:List ByteArray) (bs:List Bool) (b:ByteArray),b∈us->ixOf ns b<bs.length->at? (markL ns us bs) (ixOf ns b)=true
 | [],_,_,h,_=>by cases h
 | c::us,bs,b,h,hl=>by
  show at? (markL ns us (bs.set (ixOf ns c) true)) _=true;rcases List.mem_cons.1 h with rfl | h
  ·refine (mark_le ns us _).2 _ ?_
   rw[at_set,if_pos ⟨rfl,hl⟩]
  ·exact mark_has ns us _ b h (by simpa using hl)
theorem mark_keep (ns:List ByteArray) (T:List Bool):∀ (us:List ByteArray) (bs:List Bool),bs.length=T.length->(∀ b∈us,ixOf ns b<T.length->at? T (ixOf ns b)=true)->LeB bs T->LeB (markL ns us bs) T
 | [],_,_,_,h=>h
 | b::us,bs,hl,hu,h=>by
  show LeB (markL ns us (bs.set (ixOf ns b) true)) T;refine mark_keep ns T us _ (by simpa using hl) (fun c hc=>hu c (by simp[hc])) ⟨by simpa using hl,fun i hi=>?_⟩;rw[at_set]at hi
  split at hi
  ·rename_i hc
   rw[<-hc.1];exact hu b (by simp) (by rw[<-hl];exact hc.2)
  ·exact h.2 i hi
def comeStep (g:Gr)(i:Nat)(bs:List Bool):List Bool:=if at? bs i=true then markL (ruleNames g) (usedN (altsAt g i)) bs else bs
def ClC (g:Gr)(i:Nat)(bs:List Bool):Prop:=at? bs i=true->∀ b∈usedN (altsAt g i),ixOf (ruleNames g) b<bs.length->at? bs (ixOf (ruleNames g) b)=true
theorem come_step (g:Gr):StepB (comeStep g) (ClC g) where
 le i bs:=by
  unfold comeStep
  split
  ·exact mark_le _ _ bs
  ·exact LeB.refl bs
 idle i bs h:=by
  unfold comeStep
  split
  ·rename_i hi;exact mark_idle _ _ bs (h hi)
  ·rfl
 more i a bs hl h:=by
  have hi:at? a i=true:=by
   cases hh:at? a i
   ·exact absurd (fun h0=>by rw[hh]at h0;cases h0) h
   ·rfl
  have hex:∃ b,b∈usedN (altsAt g i)/\ixOf (ruleNames g) b<a.length/\at? a (ixOf (ruleNames g) b)=false:=by
   by_cases hh:∃ b,b∈usedN (altsAt g i)/\ixOf (ruleNames g) b<a.length/\at? a (ixOf (ruleNames g) b)=false
   ·exact hh
   ·exfalso
    apply h;intro _ b hb hlt;cases hq:at? a (ixOf (ruleNames g) b)
    ·exact absurd ⟨b,hb,hlt,hq⟩ hh
    ·rfl
  obtain⟨b,hb,hlt,hq⟩:=hex;refine⟨_,hq,?_⟩;unfold comeStep;rw[if_pos (hl.2 i hi)];exact mark_has _ _ bs b hb (by rw[<-hl.1];exact hlt)
def endsA (on:ByteArray->Bool):Nat->List Alt->Bool
 | 0,_=>false
 | d+1,l=>l.any fun a=>a.1.all fun x=>decide (x.kind=1) || decide (x.mark=42) || decide (x.mark=63) || (decide (x.kind=0) && on x.name) || (decide (x.kind=2) && endsA on d x.alts)
theorem ends_mono {on on':ByteArray->Bool} (h:∀ b,on b=true->on' b=true):∀ (d:Nat) (l:List Alt),endsA on d l=true->endsA on' d l=true
 | 0,_,e=>by cases e
 | d+1,l,e=>by
  simp only[endsA,List.any_eq_true,List.all_eq_true]at e ⊢;obtain⟨a,ha,hx⟩:=e;refine⟨a,ha,fun x hxm=>?_⟩;have:=hx x hxm;simp only[Bool.or_eq_true,Bool.and_eq_true]at this ⊢;rcases this with ((((t | t) | t) | t) | t)
  ·exact .inl (.inl (.inl (.inl t)))
  ·exact .inl (.inl (.inl (.inr t)))
  ·exact .inl (.inl (.inr t))
  ·exact .inl (.inr ⟨t.1,h _ t.2⟩)
  ·exact .inr ⟨t.1,ends_mono h d _ t.2⟩
def onB (g:Gr)(bs:List Bool)(b:ByteArray):Bool:=at? bs (ixOf (ruleNames g) b)
def endStep (g:Gr)(i:Nat)(bs:List Bool):List Bool:=if endsA (onB g bs) 9 (altsAt g i)=true then bs.set i true else bs
def ClE (g:Gr)(i:Nat)(bs:List Bool):Prop:=endsA (onB g bs) 9 (altsAt g i)=true->i<bs.length->at? bs i=true
theorem end_step (g:Gr):StepB (endStep g) (ClE g) where
 le i bs:=by
  unfold endStep
  split
  ·exact LeB.set bs i
  ·exact LeB.refl bs
 idle i bs h:=by
  unfold endStep
  split
  ·rename_i hi;exact set_same (h hi)
  ·rfl
 more i a bs hl h:=by
  have he:endsA (onB g a) 9 (altsAt g i)=true:=by
   cases hh:endsA (onB g a) 9 (altsAt g i)
   ·exact absurd (fun h0=>by rw[hh]at h0;cases h0) h
   ·rfl
  have hlt:i<a.length:=by
   rcases Nat.lt_or_ge i a.length with h' | h'
   ·exact h'
   ·exact absurd (fun _ h0=>by omega) h
  have ha:at? a i=false:=by
   cases hh:at? a i
   ·rfl
   ·exact absurd (fun _ _=>hh) h
  refine⟨i,ha,?_⟩;unfold endStep;rw[if_pos (ends_mono (on':=onB g bs) (fun b hb=>hl.2 _ hb) 9 _ he),at_set,if_pos ⟨rfl,by rw[<-hl.1];exact hlt⟩]
structure LeastB (Cl:Nat->List Bool->Prop) (n:Nat) (s bs:List Bool):Prop where
 len:bs.length=n
 has:LeB s bs
 closed:∀ i,i<n->Cl i bs
 least:∀ T,T.length=n->LeB s T->(∀ i,i<n->Cl i T)->LeB bs T
theorem at_ext {a b:List Bool}(h:a.length=b.length)(hi:∀ i,at? a i=at? b i):a=b:=by
 apply List.ext_getElem h;intro i h1 h2;have:=hi i;unfold at? at this;rw[List.getElem?_eq_getElem h1,List.getElem?_eq_getElem h2]at this;simpa using this
theorem LeastB.unique {Cl:Nat->List Bool->Prop}{n:Nat}{s a b:List Bool}(h:LeastB Cl n s a)(k:LeastB Cl n s b):a=b:=by
 have h1:=h.least b k.len k.has k.closed;have h2:=k.least a h.len h.has h.closed;refine at_ext h1.1 fun i=>?_
 cases ha:at? a i
 ·cases hb:at? b i
  ·rfl
  ·rw[h2.2 i hb]at ha;cases ha
 ·rw[h1.2 i ha]
theorem come_keep (g:Gr)(T:List Bool)(hT:∀ i,i<T.length->ClC g i T)(i:Nat)(bs:List Bool)(h:LeB bs T):LeB (comeStep g i bs) T:=by
 unfold comeStep
 split
 ·rename_i hi
  refine mark_keep _ T _ bs h.1 (fun b hb hlt=>?_) h;have hi':=h.2 i hi;have hil:i<T.length:=by
   rcases Nat.lt_or_ge i T.length with h' | h'
   ·exact h'
   ·unfold at? at hi';rw[List.getElem?_eq_none h']at hi';cases hi'
  exact hT i hil hi' b hb hlt
 ·exact h
theorem end_keep (g:Gr)(T:List Bool)(hT:∀ i,i<T.length->ClE g i T)(i:Nat)(bs:List Bool)(h:LeB bs T):LeB (endStep g i bs) T:=by
 unfold endStep
 split
 ·rename_i he
  refine⟨by simpa using h.1,fun j hj=>?_⟩;rw[at_set]at hj
  split at hj
  ·rename_i hc
   rw[<-hc.1];have hil:i<T.length:=by rw[<-h.1];exact hc.2
   exact hT i hil (ends_mono (on':=onB g T) (fun b hb=>h.2 _ hb) 9 _ he) hil
  ·exact h.2 j hj
 ·exact h
theorem come_least (g:Gr) (n k:Nat) (s:List Bool) (hs:s.length=n) (hk:n+1<=k):LeastB (ClC g) n s (iter (roundB (comeStep g) n 0) k s) where
 len:=by rw[<-hs];exact (rounds_le (come_step g) _ k s).1.symm
 has:=rounds_le (come_step g) n k s
 closed:=rounds_closed (come_step g) n k s hs hk
 least T hT h1 h2:=rounds_keep (I:=fun bs=>LeB bs T) (fun i bs h=>come_keep g T (fun i hi=>h2 i (by omega)) i bs h) n k s h1
theorem end_least (g:Gr) (n k:Nat) (s:List Bool) (hs:s.length=n) (hk:n+1<=k):LeastB (ClE g) n s (iter (roundB (endStep g) n 0) k s) where
 len:=by rw[<-hs];exact (rounds_le (end_step g) _ k s).1.symm
 has:=rounds_le (end_step g) n k s
 closed:=rounds_closed (end_step g) n k s hs hk
 least T hT h1 h2:=rounds_keep (I:=fun bs=>LeB bs T) (fun i bs h=>end_keep g T (fun i hi=>h2 i (by omega)) i bs h) n k s h1
end Lx
end
end Go.Proofs.YtlcppnabbicmoaaGreatDoor
