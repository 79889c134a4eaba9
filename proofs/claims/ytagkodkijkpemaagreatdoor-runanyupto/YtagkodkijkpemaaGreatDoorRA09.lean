import Derived.Test.YtagkodkijkpemaaGreatDoorRA08
import Derived.Recover
import Derived.Lib.Builder
import Derived.Lib.AppendStr
import Derived.Lib.UnsafeStr
import Derived.Laws.Externs
import Derived.BigQuiet
import Derived.Lib.ItoaNum
import Derived.MapKept
import Derived.Carry
set_option maxHeartbeats 8000000
set_option maxRecDepth 1000000
namespace Go.Proofs.YtagkodkijkpemaaGreatDoor
open Lx Go.Proofs.Tryz
open Go.RowKit Tr
section
open Go.RowKit
open Lx (Tk)
open Tr
theorem ajh(n a:Int)(w:World):(Instr.typeAssert (.iface 175 (.agg #[.int .i64 n,.int .i64 a])) 20 175 true).run prog w=.ok (.tuple #[.agg #[.int .i64 n,.int .i64 a],.bool true]) w:=by
 simp[Instr.typeAssert,fy underlying175,go_sem,Result.andThen]
theorem afg(n a:Int)(w:World):
  Calls prog 69 #[.iface 175 (.agg #[.int .i64 n,.int .i64 a])] w fun e w'=>e=.returned (.agg #[.int .i64 n,.int .i64 a])/\Below w.heap.size w w':=by
 have b:=ajh;go_enter func69,ntmps69
 go_wp2
 refine fx (v:=.agg #[.int .i64 n,.int .i64 a]) (by simp[results,results69,go_sem]) rfl ⟨rfl,?_⟩;exact((cV _ _).alloc (zL0) _).alloc (by simp) _
theorem afG{B:Nat}(n a x y:Int){w w1:World}(b:Below w.heap.size w w1)(j:B+2<w.heap.size)(kg:aj w1 B #[.slice none 0 0,.slice none 0 0] 105)(f:aj w1 (B+1) #[.int .i64 x] 24)(ka:aj w1 (B+2) #[.int .i64 y] 3):
  Below B w (((((w1.setCell ⟨B,0,none⟩ (.slice none 0 0)).setCell ⟨B,1,none⟩ (.slice none 0 0)).setCell ⟨B+1,0,none⟩ (.int .i64 n)).setCell ⟨B+2,0,none⟩ (.int .i64 a)).alloc (.cells #[.int .i64 n,.int .i64 a] 175)).drew /\
  aj (((((w1.setCell ⟨B,0,none⟩ (.slice none 0 0)).setCell ⟨B,1,none⟩ (.slice none 0 0)).setCell ⟨B+1,0,none⟩ (.int .i64 n)).setCell ⟨B+2,0,none⟩ (.int .i64 a)).alloc (.cells #[.int .i64 n,.int .i64 a] 175)).drew B #[.slice none 0 0,.slice none 0 0] 105 /\
  aj (((((w1.setCell ⟨B,0,none⟩ (.slice none 0 0)).setCell ⟨B,1,none⟩ (.slice none 0 0)).setCell ⟨B+1,0,none⟩ (.int .i64 n)).setCell ⟨B+2,0,none⟩ (.int .i64 a)).alloc (.cells #[.int .i64 n,.int .i64 a] 175)).drew (B+1) #[.int .i64 n] 24 /\
  aj (((((w1.setCell ⟨B,0,none⟩ (.slice none 0 0)).setCell ⟨B,1,none⟩ (.slice none 0 0)).setCell ⟨B+1,0,none⟩ (.int .i64 n)).setCell ⟨B+2,0,none⟩ (.int .i64 a)).alloc (.cells #[.int .i64 n,.int .i64 a] 175)).drew (B+2) #[.int .i64 a] 3:=by
 have g:=b.size;have d:=b.mono (B':=B) (by omega);have c:=(((d.setCell (p:=⟨B,0,none⟩) (zL0) (.slice none 0 0)).setCell (p:=⟨B,1,none⟩) (zL0) (.slice none 0 0)).setCell (p:=⟨B+1,0,none⟩) (by simp) (.int .i64 n)).setCell (p:=⟨B+2,0,none⟩) (by simp) (.int .i64 a);refine⟨(c.alloc (by have:=c.size;omega) _).drew,?_,?_,?_⟩
 ·exact(((((kg.set 0 (.slice none 0 0)).set 1 (.slice none 0 0)).other (b':=B+1) (i:=0) (by omega) (.int .i64 n)).other (b':=B+2) (i:=0) (by omega) (.int .i64 a)).alloc (.cells #[.int .i64 n,.int .i64 a] 175)).drew
 ·exact(((((f.other (b':=B) (i:=0) (by omega) (.slice none 0 0)).other (b':=B) (i:=1) (by omega) (.slice none 0 0)).set 0 (.int .i64 n)).other (b':=B+2) (i:=0) (by omega) (.int .i64 a)).alloc (.cells #[.int .i64 n,.int .i64 a] 175)).drew
 ·exact(((((ka.other (b':=B) (i:=0) (by omega) (.slice none 0 0)).other (b':=B) (i:=1) (by omega) (.slice none 0 0)).other (b':=B+1) (i:=0) (by omega) (.int .i64 n)).set 0 (.int .i64 a)).alloc (.cells #[.int .i64 n,.int .i64 a] 175)).drew
theorem aeG(B:Nat)(n a x y:Int)(b:List PanicEntry)(w:World)(l:B+2<w.heap.size)(kg:aj w B #[.slice none 0 0,.slice none 0 0] 105)(o:aj w (B+1) #[.int .i64 x] 24)(ka:aj w (B+2) #[.int .i64 y] 3):
  CallsD prog 68 #[.pointer (some ⟨B,0,none⟩),.pointer (some ⟨B+1,0,none⟩),.pointer (some ⟨B+2,0,none⟩)] (.panicking ({ v:=.iface 175 (.agg #[.int .i64 n,.int .i64 a]),recovered:=false }::b)) w fun e u' w'=>
   e=.returned (.tuple #[])/\u'=.panicking ({ v:=.iface 175 (.agg #[.int .i64 n,.int .i64 a]),recovered:=true }::b)/\Below B w w'/\aj w' B #[.slice none 0 0,.slice none 0 0] 105/\aj w' (B+1) #[.int .i64 n] 24/\aj w' (B+2) #[.int .i64 a] 3:=by
 refine callsD_of_wpS func68 rfl fun r C k=>?_
 apply wpS_seq;apply wpS_region;simp[wpOpsS,go_sem,recoverD,k,ntmps68,Exit.thenS];refine wpS_of_wp ?_
 go_wp2_with (go_at_call 69;refine(afg n a _).mono ?_;rintro e w1⟨rfl,d⟩)
 have G:=Ij d none;have c:=kg.grown G (by simp);have g:=o.grown G (by simp);have f:=ka.grown G (by simp);have z:w1.cell? ⟨B,0,none⟩=some (.slice none 0 0):=c.cell 0;have q:w1.cell? ⟨B,1,none⟩=some (.slice none 0 0):=c.cell 1;have A:w1.cell? ⟨B+1,0,none⟩=some (.int .i64 x):=g.cell 0;have E:w1.cell? ⟨B+2,0,none⟩=some (.int .i64 y):=f.cell 0;have u:∀i,w1.frozen? ⟨B,i,none⟩=false:=c.frozen;have t:∀i,w1.frozen? ⟨B+1,i,none⟩=false:=g.frozen;have D:∀i,w1.frozen? ⟨B+2,i,none⟩=false:=f.frozen;have s:w.heap.size<=w1.heap.size:=d.size;have m:B<w1.heap.size:=by omega
 have j:B+1<w1.heap.size:=by omega
 have p:B+2<w1.heap.size:=by omega
 go_region
 all_goals
  exact⟨rfl,_,rfl,.tuple #[],oY rfl _ _ _,rfl,rfl,afG n a x y d l c g f⟩
theorem Yy(g e a:Addr)(w:World):
  CallsD prog 68 #[.pointer (some g),.pointer (some e),.pointer (some a)] .returning w fun e u' w'=>e=.returned (.tuple #[])/\u'=.returning/\w'=w:=by
 refine callsD_of_wpS func68 rfl fun c d b=>?_
 apply wpS_seq;apply wpS_region;simp[wpOpsS,go_sem,recoverD,b,ntmps68,Exit.thenS];refine wpS_of_wp ?_;go_wp2_with fail;cases c;simp only at b;subst b;refine⟨rfl,_,rfl,.tuple #[],oY rfl _ _ _,rfl,rfl,rfl⟩
end
section
open Go.RowKit
open Lx (Tk)
open Tr
namespace Lx
theorem extract_size(s:ByteArray)(i j:Nat):(s.extract i j).size<=s.size:=by
 rw[ByteArray.size_extract];omega
theorem aaq(s:ByteArray):∀(f i:Nat)(t:Tk),t∈mE s f i->t.1.size<=s.size
 |0,i,t,h=>by
  simp only[mE,cM]at h;subst h;exact eR _
 |f+1,i,t,h=>by
  simp only[mE]at h
  split at h
  ·rcases ee.1 h with rfl | h
   ·exact extract_size _ _ _
   ·exact aaq s f _ t h
  ·simp only[cM]at h;subst h;exact eR _
theorem ab8(s:ByteArray)(t:Tk)(h:t∈lex s):t.1.size<=s.size:=aaq s _ _ t h
theorem akM(s:ByteArray):(lex s).length<=s.size+1:=Mr s _
end Lx
theorem Rd.start{s:ByteArray}{B:Nat}{w1:World}{v:Value}(q:s.size<=2000)(h:w1.ownsRow B 185 2 v (Lx.lex s).length (qm (Lx.lex s))):
  ∃sb cap,v=.slice (some ⟨sb,0,none⟩) (Lx.lex s).length cap/\B<=sb/\sb<w1.heap.size/\Rd sb cap (Lx.lex s) w1.heap.size (w1.alloc (.cells #[v,.int .i64 0] 182)) (Lx.lex s) 0:=by
 have d:=Lx.lex_wf s;have i:=d.ne;obtain⟨g,cap,m,u,f⟩:=h.form i;subst m;have b:(Lx.lex s).length<=cap:=by
  rcases h.2 with ⟨x,_⟩|⟨A,o,z,m,_,_,l,_⟩
  ·cases x
  ·cases m;exact l
 have kN:=aj.new w1 #[.slice (some ⟨g,0,none⟩) (Lx.lex s).length cap,.int .i64 0] 182;refine⟨g,cap,rfl,u,f,?_⟩;refine⟨d,⟨[],rfl⟩,b,?_,kN.cell 1,kN.frozen 0,kN.frozen 1,?_,by omega,fun t y=>dg (ab8 s t y) q,by have:=akM s;omega⟩
 ·rw[show (Lx.lex s).length - (Lx.lex s).length=0 by omega];exact kN.cell 0
 ·intro j t r
  obtain⟨h1,h2⟩:=QA _ j t r;have n:=h.cells (g:=g) rfl (j*2) _ h1;have p:=h.cells (g:=g) rfl (j*2+1) _ h2;have c:∀k,(⟨g,0,none⟩:Addr).add k=⟨g,k,none⟩:=fun k=>by unfold Addr.add;split <;> simp_all
  rw[c]at n p;have a:∀k,(w1.alloc (.cells #[.slice (some ⟨g,0,none⟩) (Lx.lex s).length cap,.int .i64 0] 182)).cell? ⟨g,k,none⟩=w1.cell? ⟨g,k,none⟩:=fun k=>cJ (w:=w1) (di _ _ _ f)
  rw[a,a];exact⟨n,p⟩
def wF(w:World)(s:ByteArray)(e:Ending)(w':World):Prop :=
 Below w.heap.size w w' /\
  match Lx.parse s with
  |.ok g=>∃vl vr,e=.returned (.tuple #[.agg #[vl,vr],.int .i64 0,.int .i64 0])/\BF (In w.heap.size w'.heap.size) w' vl vr g
  | .error (n,a)=>e=.returned (.tuple #[.agg #[.slice none 0 0,.slice none 0 0],.int .i64 (n:Int),.int .i64 (a:Int)])
theorem wF.yes{w w':World}{s:ByteArray}{g:Lx.Gr}{a b:Value}(c:Lx.parse s=.ok g)(d:Below w.heap.size w w')(f:BF (In w.heap.size w'.heap.size) w' a b g):
  wF w s (.returned (.tuple #[.agg #[a,b],.int .i64 0,.int .i64 0])) w':=by
 unfold wF;rw[c];exact⟨d,a,b,rfl,f⟩
theorem wF.no{w w':World}{s:ByteArray}{n a:Nat}(b:Lx.parse s=.error (n,a))(c:Below w.heap.size w w'):
  wF w s (.returned (.tuple #[.agg #[.slice none 0 0,.slice none 0 0],.int .i64 (n:Int),.int .i64 (a:Int)])) w':=by
 unfold wF;rw[b];exact⟨c,rfl⟩
theorem Zu(s:ByteArray)(w:World)(y:s.size<=maxLen):Calls prog 41 #[.string s] w (wF w s):=by
 unfold maxLen at y;have Cm:∀(fn:Fn)(first c:Array Value)(w:World),(Instr.makeFunc fn first c).run prog w=.ok (.func fn first c) w:=fun _ _ _ _=>rfl
 by_cases hlong:2000<s.size
 ·have A:Hid (Lx.parse s=.error (1,0)):=by show _=_;unfold Lx.parse;rw[de hlong]
  go_enter_defers func41,ntmps41
  go_wp2
  refine leaves_cons (f:=68) (args:=#[.pointer (some ⟨w.heap.size,0,none⟩),.pointer (some ⟨w.heap.size+1,0,none⟩),.pointer (some ⟨w.heap.size+2,0,none⟩)]) (by simp) (by simp[go_sem]) ?_;refine(Yy _ _ _ _).mono ?_;rintro e V I⟨rfl,rfl,rfl⟩;refine⟨.tuple #[.agg #[.slice none 0 0,.slice none 0 0],.int .i64 1,.int .i64 0],by simp[results,results41,go_sem],?_⟩;exact wF.no A.out ((((cV _ _).alloc (zL0) _).alloc (by simp) _).alloc (by simp;omega) _)
 ·have U:s.size<=2000:=by omega
  have q:(((w.alloc (.cells #[.slice none 0 0,.slice none 0 0] 105)).alloc (.cells #[.int .i64 0] 24)).alloc (.cells #[.int .i64 0] 3)).heap.size=w.heap.size+3:=by simp
  have kg:=((aj.new w #[.slice none 0 0,.slice none 0 0] 105).alloc (.cells #[.int .i64 0] 24)).alloc (.cells #[.int .i64 0] 3);have S:=(aj.new (w.alloc (.cells #[.slice none 0 0,.slice none 0 0] 105)) #[.int .i64 0] 24).alloc (.cells #[.int .i64 0] 3);have K:=aj.new ((w.alloc (.cells #[.slice none 0 0,.slice none 0 0] 105)).alloc (.cells #[.int .i64 0] 24)) #[.int .i64 0] 3;rw[show (w.alloc (.cells #[.slice none 0 0,.slice none 0 0] 105)).heap.size=w.heap.size+1 by simp]at S;rw[show ((w.alloc (.cells #[.slice none 0 0,.slice none 0 0] 105)).alloc (.cells #[.int .i64 0] 24)).heap.size=w.heap.size+2 by simp]at K;have b0:Below w.heap.size w (((w.alloc (.cells #[.slice none 0 0,.slice none 0 0] 105)).alloc (.cells #[.int .i64 0] 24)).alloc (.cells #[.int .i64 0] 3)):=(((cV _ _).alloc (zL0) _).alloc (by simp) _).alloc (by simp;omega) _
  go_enter_defers func41,ntmps41
  go_wp2_with fail;refine(aa6 s _ U).mono ?_;rintro e w1⟨v,rfl,d,j⟩;rw[q]at d j;have X:=Rd.start U d;obtain⟨T,c,rfl,ac,aa,p⟩:=X;have b1:=b0.trans (j.mono (by omega));have O:aj w1 w.heap.size #[.slice none 0 0,.slice none 0 0] 105:=(j.block _ (by omega)).trans kg;have G:aj w1 (w.heap.size+1) #[.int .i64 0] 24:=(j.block _ (by omega)).trans S;have F:aj w1 (w.heap.size+2) #[.int .i64 0] 3:=(j.block _ (by omega)).trans K;have s1:w.heap.size+3<=w1.heap.size:=by omega
  clear kg S K d j q;go_wp2_with fail;refine(agD T c _ w1.heap.size _ _ p).mono ?_;intro e w2 B;have W:=b1.alloc (by omega) (.cells #[.slice (some ⟨T,0,none⟩) (Lx.lex s).length c,.int .i64 0] 182);have hsz:(w1.alloc (.cells #[.slice (some ⟨T,0,none⟩) (Lx.lex s).length c,.int .i64 0] 182)).heap.size=w1.heap.size+1:=by simp
  cases hpg:jq (Lx.lex s) with
  |error x=>
   obtain⟨n,a⟩:=x;obtain⟨rfl,l⟩:=B.err hpg;have A:Hid (Lx.parse s=.error (n,a)):=by show _=_;unfold Lx.parse;rw[dk hlong,hpg]
   have N:=W.grown l (by rw[hsz];omega) (fun k Q=>by cases Q;omega);have m:=(O.alloc _).grown l (by simp;omega);have u:=(G.alloc _).grown l (by simp;omega);have t:=(F.alloc _).grown l (by simp;omega);have L:=l.size;rw[hsz]at L;clear hpg B;refine leaves_cons (f:=68) (args:=#[.pointer (some ⟨w.heap.size,0,none⟩),.pointer (some ⟨w.heap.size+1,0,none⟩),.pointer (some ⟨w.heap.size+2,0,none⟩)]) (by simp) (by simp[go_sem]) ?_;refine(aeG w.heap.size n a 0 0 [] w2 (by omega) m u t).mono ?_;rintro e V o⟨rfl,rfl,E,r,H,z⟩;have P:o.cell? ⟨w.heap.size,0,none⟩=some (.slice none 0 0):=r.cell 0;have M:o.cell? ⟨w.heap.size,1,none⟩=some (.slice none 0 0):=r.cell 1;have R:o.cell? ⟨w.heap.size+1,0,none⟩=some (.int .i64 n):=H.cell 0;have J:o.cell? ⟨w.heap.size+2,0,none⟩=some (.int .i64 a):=z.cell 0;have ab:o.cell? ⟨w.heap.size+1+1,0,none⟩=some (.int .i64 a):=z.cell 0;refine⟨.tuple #[.agg #[.slice none 0 0,.slice none 0 0],.int .i64 n,.int .i64 a],by simp[results,results41,go_sem,P,M,R,J],?_⟩;exact wF.no A.out (N.trans E)
  |ok x=>
   obtain⟨g,Y⟩:=x;obtain⟨v,rfl,l,JD,vl,vr,rfl,C⟩:=B.ok hpg;have A:Hid (Lx.parse s=.ok g):=by show _=_;unfold Lx.parse;rw[dk hlong,hpg]
   obtain⟨la,lk,lc,rfl⟩:=Seq.form C.1;obtain⟨Z,rk,rc,rfl⟩:=dQ.form C.2;have N:=W.grown l (by rw[hsz];omega) (fun k Q=>by cases Q;omega);have m:=(O.alloc _).grown l (by simp;omega);have u:=(G.alloc _).grown l (by simp;omega);have t:=(F.alloc _).grown l (by simp;omega);have P:w2.cell? ⟨w.heap.size,0,none⟩=some (.slice none 0 0):=m.cell 0;have M:w2.cell? ⟨w.heap.size,1,none⟩=some (.slice none 0 0):=m.cell 1;have R:w2.cell? ⟨w.heap.size+1,0,none⟩=some (.int .i64 0):=u.cell 0;have J:w2.cell? ⟨w.heap.size+2,0,none⟩=some (.int .i64 0):=t.cell 0;have fg:∀i,w2.frozen? ⟨w.heap.size,i,none⟩=false:=m.frozen;have fe:∀i,w2.frozen? ⟨w.heap.size+1,i,none⟩=false:=u.frozen;have fa:∀i,w2.frozen? ⟨w.heap.size+2,i,none⟩=false:=t.frozen;rw[hsz]at C;clear hpg B p JD O G F m u t;go_wp2_with fail;refine leaves_cons (f:=68) (args:=#[.pointer (some ⟨w.heap.size,0,none⟩),.pointer (some ⟨w.heap.size+1,0,none⟩),.pointer (some ⟨w.heap.size+2,0,none⟩)]) (by simp) (by simp[go_sem]) ?_;refine(Yy _ _ _ _).mono ?_;rintro e V I⟨rfl,rfl,rfl⟩;refine⟨.tuple #[.agg #[.slice la lk lc,.slice Z rk rc],.int .i64 0,.int .i64 0],by simp[results,results41,go_sem,P,M,R,J],?_⟩;refine wF.yes A.out ((((N.setCell (zL0) _).setCell (zL0) _).setCell (by simp) _).setCell (by simp;omega) _) ?_;refine C.move (fun b j=>?_) (fun b j=>?_)
   ·have h1:=j.1
    rw[zS0 (fun e=>by have D:b=w.heap.size+1+1:=e;omega),zS0 (fun e=>by have D:b=w.heap.size+1:=e;omega),zS0 (fun e=>by have D:b=w.heap.size:=e;omega),zS0 (fun e=>by have D:b=w.heap.size:=e;omega)]
   ·have h1:=j.1
    have h2:=j.2;exact⟨by omega,by simpa [World.setCell]using h2⟩
end
section
open Go.RowKit
open Lx (Tk)
open Tr
namespace Lx
theorem aji{s:ByteArray}{g:Gr}(h:parse s=.ok g):s.size<=2000/\∃ts',jq (lex s)=.ok (g,ts'):=by
 unfold parse at h
 split at h
 ·cases h
 ·rename_i b
  cases hr:jq (lex s) with
  |error e=>rw[hr]at h;cases h
  |ok x=>
   obtain⟨a,ts'⟩:=x;rw[hr]at h;cases h;exact⟨by omega,ts',rfl⟩
end Lx
end
section
open Go.RowKit
open Lx (Tk)
open Tr
namespace Lx
theorem Yz:∀(f:Nat)(ts:List Tk)(acc l:List Rl)(ts':List Tk),ts.length<=f->jv f ts acc=.ok (l,ts')->hd ts'=aT
 |0,ts,acc,l,ts',hl,h=>by
  simp only[jv,jn,ip]at h;cases ts with
  |nil=>rw[<-h.2];rfl
  |cons t r=>simp at hl
 |f+1,ts,acc,l,ts',hl,h=>by
  simp only[jv]at h
  split at h
  ·rename_i a
   simp only[jn,ip]at h;rw[<-h.2];exact a
  ·rename_i a
   cases hr:iC ts with
   |error e=>rw[hr]at h;cases h
   |ok y=>
    obtain⟨x,b⟩:=y;rw[hr]at h;have h1:=Q0 hr;have h2:ts.tail.length+1<=ts.length:=by
     cases ts with
     |nil=>exact absurd rfl a
     |cons t r=>simp
    exact Yz f b _ l ts' (by omega) h
theorem afh{ts ts':List Tk}{g:Gr}(h:jq ts=.ok (g,ts')):hd ts'=aT:=by
 unfold jq at h;cases h1:kZ ts.length ts [] with
 |error e=>rw[h1]at h;cases h
 |ok y=>
  obtain⟨d,b⟩:=y;rw[h1]at h;simp only at h;cases h2:iC b with
  |error e=>rw[h2]at h;cases h
  |ok y=>
   obtain⟨x,a⟩:=y;rw[h2]at h;simp only at h;cases h3:jv a.length a [x] with
   |error e=>rw[h3]at h;cases h
   |ok y=>
    obtain⟨l,c⟩:=y;rw[h3]at h;simp only[jn,ip]at h;rw[<-h.2];exact Yz _ _ _ _ _ (zL0) h3
end Lx
end
namespace Lx
abbrev Wd:=Nat×ByteArray×Nat
def yO(il:Bool)(t:Tk):Bool:=if isName t.1=true then false else il
def qU(aH:ByteArray)(il:Bool)(t:Tk)(nx:ByteArray):List Wd :=
 if isName t.1=true then [(if nx=lZ then 1 else 2,t.1,t.2)]
 else if isToken t.1=true then [(if il=true then 0 else if aH=jT then 4 else 3,t.1,t.2)]
 else []
def wl:ByteArray->Bool->List Tk->List Wd
 |_,_,[]=>[]
 |aH,il,t::ts=>qU aH il t (hd ts)++wl t.1 (yO il t) ts
def eY:Nat->List Alt->List Wd
 |0,_=>[]
 |d+1,l=>l.flatMap fun a=>(a.1.flatMap fun x=>(if x.kind=0 then [(2,x.name,x.place)] else if x.kind=1 then [(3,x.name,x.place)] else [])++eY d x.alts)++(if a.2.1=aT then [] else [(4,a.2.1,a.2.2)])
def mJ(d:Nat)(x:It):List Wd:=(if x.kind=0 then [(2,x.name,x.place)] else if x.kind=1 then [(3,x.name,x.place)] else [])++eY d x.alts
def Dn(d:Nat)(a:Alt):List Wd:=a.1.flatMap (mJ d)++(if a.2.1=aT then [] else [(4,a.2.1,a.2.2)])
theorem Zv:∀d,eY d []=[]
 |0=>rfl
 |_+1=>rfl
theorem Iy(d:Nat)(l:List Alt):eY (d+1) l=l.flatMap (Dn d):=rfl
def iG(g:Gr):List Wd:=(g.levels.flatMap fun lv=>lv.tokens.map fun t=>(0,t.1,t.2))++g.rules.flatMap fun r=>(1,r.name,r.place)::eY 9 r.alts
def Pass{α:Type}(fl:α->List Wd)(f:List Tk->aR α):Prop:=∀ts x ts',WF ts->f ts=.ok (x,ts')->WF ts'/\(hd ts'≠lZ->∀aH,aH≠jT->∃jV,jV≠jT/\wl aH false ts=fl x++wl jV false ts')
theorem Bu{ts:List Tk}(h:WF ts)(aH:ByteArray)(a:Bool):wl aH a ts=qU aH a (hd ts,pl ts) (hd ts.tail)++wl (hd ts) (yO a (hd ts,pl ts)) ts.tail:=by
 cases ts with
 |nil=>exact h.elim
 |cons t r=>rfl
theorem Tj{t:ByteArray}{p:Nat}{b aH:ByteArray}{a:Bool}(h1:isName t=false)(h2:isToken t=false):qU aH a (t,p) b=[]:=by
 unfold qU;simp only[h1,h2];rfl
theorem Dq{t:ByteArray}{p:Nat}(h1:isName t=false)(a:Bool):yO a (t,p)=a:=by
 unfold yO;simp only[h1];rfl
theorem zS{ts:List Tk}(h:WF ts){b:ByteArray}(c:hd ts=b)(h1:isName b=false)(h2:isToken b=false)(aH:ByteArray)(a:Bool):wl aH a ts=wl b a ts.tail:=by
 rw[Bu h,c,Tj h1 h2,Dq h1];rfl
theorem ML{b:ByteArray}(f:b≠aT)(h1:isName b=false)(h2:isToken b=false){ts ts':List Tk}{u:Unit}(c:WF ts)(h:jy b ts=.ok (u,ts'))(aH:ByteArray)(a:Bool):WF ts'/\wl aH a ts=wl b a ts':=by
 obtain⟨g,d⟩:=yH h;subst g;exact⟨c.tail (by rw[d];exact f),zS c d h1 h2 aH a⟩
theorem Fa{ts:List Tk}(a:WF ts){aH:ByteArray}(b:aH≠jT):WF (dJ ts).2/\∃jV,jV≠jT/\wl aH false ts=wl jV false (dJ ts).2:=by
 unfold dJ
 split
 ·rename_i h;exact⟨a.tail (by rw[h];decide),_,by decide,zS a h (by decide) (by decide) aH false⟩
 ·split
  ·rename_i h;exact⟨a.tail (by rw[h];decide),_,by decide,zS a h (by decide) (by decide) aH false⟩
  ·split
   ·rename_i h;exact⟨a.tail (by rw[h];decide),_,by decide,zS a h (by decide) (by decide) aH false⟩
   ·exact⟨a,aH,b,rfl⟩
theorem ajj{ts:List Tk}(h:hd (dJ ts).2≠lZ):hd ts≠lZ:=by
 unfold dJ at h
 split at h
 ·rename_i h1;rw[h1];decide
 ·split at h
  ·rename_i h1;rw[h1];decide
  ·split at h
   ·rename_i h1;rw[h1];decide
   ·exact h
theorem Bv{k:ByteArray->Bool}(a:k aT=false){t:ByteArray}(h:k t=true):t≠aT:=fun e=>by rw[e,a]at h;cases h
theorem ahP{t:ByteArray}(h:isName t=true):t≠jT:=fun e=>by rw[e]at h;exact absurd h (by decide)
theorem aar{t:ByteArray}(h:isToken t=true):t≠jT:=fun e=>by rw[e]at h;exact absurd h (by decide)
theorem zO{t:ByteArray}(h:isToken t=true):isName t=false:=by
 unfold isToken isWord at h;simp only[j']at h;have a:=h.1.2;unfold isName isWord;have:small (iy t 0)=false:=by
  unfold capital at a;unfold small;have:=js a;exact eV (by omega)
 simp[this]
theorem YA{d:Nat}{aF:List Tk->aR (List Alt)}(q:∀ts x ts',WF ts->hd ts=mF->aF ts=.ok (x,ts')->WF ts'/\∀aH,∃jV,jV≠jT/\wl aH false ts=eY d x++wl jV false ts'):Pass (mJ d) (iB aF):=fun ts x ts' g h=>by
 rw[ajd]at h
 split at h
 ·rename_i l
  obtain⟨t,r,h1,h2⟩:=ni h;cases h2;obtain⟨w1,o⟩:=q _ _ _ g l h1;refine⟨(Fa w1 (aH:=aT) (by decide)).1,fun _ aH k=>?_⟩;obtain⟨s,n,p⟩:=o aH;obtain⟨_,i,f,c⟩:=Fa w1 n;refine⟨i,f,?_⟩;rw[p,c];simp only[mJ,dq];rfl
 ·split at h
  ·rename_i l b
   cases h;have j:=g.tail (Bv (by decide) b);refine⟨(Fa j (aH:=aT) (by decide)).1,fun m aH k=>?_⟩;obtain⟨_,i,f,c⟩:=Fa j (ahP b);refine⟨i,f,?_⟩;rw[Bu g,show yO false (hd ts,pl ts)=false by unfold yO;split <;> rfl,c];unfold qU mJ;simp only[b,qe,dk (ajj m),Zv,eN]
  ·split at h
   ·rename_i l b a
    cases h;have j:=g.tail (Bv (by decide) a);refine⟨(Fa j (aH:=aT) (by decide)).1,fun m aH k=>?_⟩;obtain⟨_,i,f,c⟩:=Fa j (aar a);refine⟨i,f,?_⟩;rw[Bu g,Dq (zO a),c];unfold qU mJ;simp only[zO a,a,qe,dk k,Zv,eN];simp
   ·cases h
theorem akN{ts:List Tk}(h:rO ts=true):hd ts≠lZ:=by
 intro e;unfold rO at h;rw[e]at h;exact absurd h (by decide)
theorem XT{d:Nat}{aF:List Tk->aR (List Alt)}(j:Pass (mJ d) (iB aF))(l:∀ts x ts',aF ts=.ok (x,ts')->ts'.length<=ts.tail.length):∀(f:Nat)(ts:List Tk)(a x:List It)(ts':List Tk),WF ts->ts.length<=f->jr aF f ts a=.ok (x,ts')->WF ts'/\∃y,x=a++y/\(hd ts'≠lZ->hd ts≠lZ/\∀aH,aH≠jT->∃jV,jV≠jT/\wl aH false ts=y.flatMap (mJ d)++wl jV false ts')
 |0,ts,a,x,ts',hw,hf,h=>by have:=hw.ne;omega
 |f+1,ts,a,x,ts',hw,hf,h=>by
  rw[ahM]at h
  split at h
  ·rename_i p
   obtain⟨z,t,h1,h2⟩:=ni h;obtain⟨w1,A⟩:=j _ _ _ hw h1;have k:=QZ l h1;have q:=hw.sS;obtain⟨w2,y,r,s⟩:=XT j l f t _ x ts' w1 (by omega) h2;refine⟨w2,z::y,by rw[r];simp,fun c=>⟨akN p,fun aH b=>?_⟩⟩;obtain⟨o,m⟩:=s c;obtain⟨v,i,n⟩:=A o aH b;obtain⟨B,g,u⟩:=m v i;exact⟨B,g,by rw[n,u,du,dq]⟩
  ·cases h
   exact⟨hw,[],by simp,fun c=>⟨c,fun aH b=>⟨aH,b,rfl⟩⟩⟩
theorem agE(top:Bool)(a:List It){ts ts':List Tk}{x:Alt}(f:WF ts)(h:qz top a ts=.ok (x,ts')):WF ts'/\x.1=a/\(hd ts'≠lZ->hd ts≠lZ)/\∀aH,aH≠jT->∃jV,jV≠jT/\wl aH false ts=(if x.2.1=aT then [] else [(4,x.2.1,x.2.2)])++wl jV false ts':=by
 rw[aje]at h
 split at h
 ·rename_i d
  obtain⟨b,l,h1,h2⟩:=ni h;cases h2;obtain⟨k,j,c⟩:=oC h1;have i:=f.tail (by rw[d.2];decide);subst k j;refine⟨i.tail (Bv (by decide) c),rfl,fun _=>by rw[d.2];decide,fun aH g=>⟨hd ts.tail,aar c,?_⟩⟩;rw[zS f d.2 (by decide) (by decide),Bu i,Dq (zO c)];rw[dk (Bv (by decide) c)];unfold qU;simp only[zO c,c,qe];simp
 ·cases h
  exact⟨f,rfl,fun h=>h,fun aH g=>⟨aH,g,by simp⟩⟩
theorem Zw{d:Nat}{aF:List Tk->aR (List Alt)}(m:Pass (mJ d) (iB aF))(s:∀ts x ts',aF ts=.ok (x,ts')->ts'.length<=ts.tail.length)(top:Bool):Pass (Dn d) (iH aF top):=fun ts x ts' o h=>by
 rw[akJ]at h;obtain⟨y,v,h1,h2⟩:=ni h;obtain⟨w1,z,k,i⟩:=XT m s _ _ _ _ _ o (zL0) h1;obtain⟨w2,f,g,n⟩:=agE top _ w1 h2;refine⟨w2,fun r l j=>?_⟩;obtain⟨_,c⟩:=i (g r);obtain⟨q,b,t⟩:=c l j;obtain⟨u,a,p⟩:=n q b;refine⟨u,a,?_⟩;rw[t,p];unfold Dn;rw[f,k,go,dq]
theorem YB{d:Nat}{aF:List Tk->aR (List Alt)}(l:Pass (mJ d) (iB aF))(j:∀ts x ts',aF ts=.ok (x,ts')->ts'.length<=ts.tail.length)(top:Bool):∀(f:Nat)(ts:List Tk)(a x:List Alt)(ts':List Tk),WF ts->ts.length<=f->lW aF top f ts a=.ok (x,ts')->WF ts'/\∃y,x=a++y/\(hd ts'≠lZ->hd ts≠lZ/\∀aH,aH≠jT->∃jV,jV≠jT/\wl aH false ts=y.flatMap (Dn d)++wl jV false ts')
 |0,ts,a,x,ts',hw,hf,h=>by have:=hw.ne;omega
 |f+1,ts,a,x,ts',hw,hf,h=>by
  rw[ajf]at h
  split at h
  ·rename_i b
   obtain⟨z,t,h1,h2⟩:=ni h;have C:=hw.tail (by rw[b];decide);obtain⟨w1,A⟩:=Zw l j top _ _ _ C h1;have m:=IK j h1;have q:=hw.sS;obtain⟨w2,y,r,s⟩:=YB l j top f t _ x ts' w1 (by omega) h2;refine⟨w2,z::y,by rw[r];simp,fun c=>⟨by rw[b];decide,fun aH k=>?_⟩⟩;obtain⟨p,n⟩:=s c;obtain⟨v,i,o⟩:=A p BP (by decide);obtain⟨B,g,u⟩:=n v i;refine⟨B,g,?_⟩;rw[zS hw b (by decide) (by decide),o,u,du,dq]
  ·cases h
   exact⟨hw,[],by simp,fun c=>⟨c,fun aH k=>⟨aH,k,rfl⟩⟩⟩
theorem Xr{d:Nat}{aF:List Tk->aR (List Alt)}(c:Pass (mJ d) (iB aF))(f:∀ts x ts',aF ts=.ok (x,ts')->ts'.length<=ts.tail.length)(top:Bool):Pass (eY (d+1)) (qo aF top):=fun ts x ts' o h=>by
 rw[agA]at h;obtain⟨y,u,h1,h2⟩:=ni h;obtain⟨w1,j⟩:=Zw c f top _ _ _ o h1;obtain⟨w2,z,l,n⟩:=YB c f top _ _ _ _ _ w1 (zL0) h2;refine⟨w2,fun r m k=>?_⟩;obtain⟨i,g⟩:=n r;obtain⟨q,b,s⟩:=j i m k;obtain⟨t,a,p⟩:=g q b;refine⟨t,a,?_⟩;rw[s,p,l,Iy,fL,du,pL,eN,dq]
theorem afH{d:Nat}{r:List Tk->aR (List Alt)}(g:Pass (eY d) r)(ts:List Tk)(x:List Alt)(ts':List Tk)(a:WF ts)(b:hd ts=mF)(h:qw r ts=.ok (x,ts')):WF ts'/\∀aH,∃jV,jV≠jT/\wl aH false ts=eY d x++wl jV false ts':=by
 rw[ahN]at h;obtain⟨y,m,h1,h2⟩:=ni h;obtain⟨u,n,h3,h4⟩:=ni h2;cases h4;obtain⟨w1,k⟩:=g _ _ _ (a.tail (by rw[b];decide)) h1;have c:=(yH h3).2;obtain⟨w2,l⟩:=ML (by decide) (by decide) (by decide) w1 h3 aT false;refine⟨w2,fun aH=>?_⟩;obtain⟨f,i,j⟩:=k (by rw[c];decide) mF (by decide);refine⟨BH,by decide,?_⟩;rw[zS a b (by decide) (by decide),j,(ML (by decide) (by decide) (by decide) w1 h3 f false).2]
theorem YC:∀d,Pass (eY (d+1)) (nu d)
 |0=>Xr (aF:=fun a=>.error (3,pl a)) (YA (fun _ _ _ _ _ h=>by cases h)) (fun _ _ _ h=>by cases h) false
 |d+1=>Xr (YA (afH (YC d))) (QL (Ms d)) (d == 7)
theorem YD{ts ts':List Tk}{x:Rl}(d:WF ts)(h:iC ts=.ok (x,ts')):WF ts'/\∀aH il,wl aH il ts=(1,x.name,x.place)::eY 9 x.alts++wl mG false ts':=by
 rw[ajg]at h;obtain⟨n,B,h1,h2⟩:=ni h;obtain⟨_,z,h3,h4⟩:=ni h2;obtain⟨l,C,u,s⟩:=ni h4;obtain⟨_,A,f,p⟩:=ni s;cases p;obtain⟨j,q,c⟩:=oC h1;subst j q;have o:=d.tail (Bv (by decide) c);have b:=(yH h3).2;obtain⟨w2,t⟩:=ML (by decide) (by decide) (by decide) o h3 (hd ts) false;obtain⟨g,i⟩:=YC 8 _ _ _ w2 u;have a:=(yH f).2;obtain⟨k,v,m⟩:=i (by rw[a];decide) lZ (by decide);obtain⟨y,r⟩:=ML (by decide) (by decide) (by decide) g f k false;refine⟨y,fun aH il=>?_⟩;rw[Bu d,show yO il (hd ts,pl ts)=false by unfold yO;rw[de c],t,m,r];unfold qU;simp only[c,qe,b];simp
theorem Xt:∀(f:Nat)(ts a x ts':List Tk),WF ts->ts.length<=f->jF f ts a=.ok (x,ts')->WF ts'/\∃y,x=a++y/\∀aH,wl aH true ts=y.map (fun t=>(0,t.1,t.2))++wl mG true ts'
 |0,ts,a,x,ts',hw,hf,h=>by have:=hw.ne;omega
 |f+1,ts,a,x,ts',hw,hf,h=>by
  rw[agB]at h
  split at h
  ·rename_i d
   cases h;exact⟨hw.tail (by rw[d];decide),[],by simp,fun aH=>by rw[zS hw d (by decide) (by decide)];rfl⟩
  ·obtain⟨b,n,h1,h2⟩:=ni h
   obtain⟨j,g,c⟩:=oC h1;subst j g;have m:=hw.tail (Bv (by decide) c);have i:=hw.sS;obtain⟨w2,y,l,k⟩:=Xt f ts.tail _ x ts' m (by omega) h2;refine⟨w2,(hd ts,pl ts)::y,by rw[l];simp,fun aH=>?_⟩;rw[Bu hw,Dq (zO c),k];unfold qU;simp only[zO c,c,qe];simp
theorem afI{ts ts':List Tk}{x:Lv}(i:WF ts)(d:0<=ja (hd ts))(h:lu ts=.ok (x,ts')):WF ts'/\∀aH,wl aH true ts=x.tokens.map (fun t=>(0,t.1,t.2))++wl mG true ts':=by
 rw[Q8]at h;obtain⟨b,q,h1,h2⟩:=ni h;obtain⟨l,r,h3,h4⟩:=ni h2;cases h4;have a:hd ts=NG\/hd ts=Nz\/hd ts=NH:=by
  unfold ja at d
  split at d
  ·rename_i h;exact .inl h
  ·split at d
   ·rename_i h;exact .inr (.inl h)
   ·split at d
    ·rename_i h;exact .inr (.inr h)
    ·exact absurd d (by decide)
 have c:isName (hd ts)=false/\isToken (hd ts)=false/\hd ts≠aT:=by
  rcases a with e|e|e <;> rw[e] <;> decide
 have j:=i.tail c.2.2;obtain⟨n,m,f⟩:=oC h1;subst n m;have g:=j.tail (Bv (by decide) f);obtain⟨k,y,p,o⟩:=Xt _ _ _ _ _ g (zL0) h3;refine⟨k,fun aH=>?_⟩;rw[zS i rfl c.1 c.2.1,Bu j,Dq (zO f),o,p];unfold qU;simp only[zO f,f,qe];simp
theorem Xu:∀(f:Nat)(ts:List Tk)(a x:List Lv)(ts':List Tk),WF ts->kZ f ts a=.ok (x,ts')->WF ts'/\∃y,x=a++y/\∀aH,∃jV,wl aH true ts=(y.flatMap fun lv=>lv.tokens.map fun t=>(0,t.1,t.2))++wl jV true ts'
 |0,ts,a,x,ts',hw,h=>by cases h;exact⟨hw,[],by simp,fun aH=>⟨aH,rfl⟩⟩
 |f+1,ts,a,x,ts',hw,h=>by
  rw[agC]at h
  split at h
  ·rename_i b
   obtain⟨z,c,h1,h2⟩:=ni h;obtain⟨w1,d⟩:=afI hw b h1;obtain⟨w2,y,g,j⟩:=Xu f c _ x ts' w1 h2;refine⟨w2,z::y,by rw[g];simp,fun aH=>?_⟩;obtain⟨i,k⟩:=j mG;exact⟨i,by rw[d,k,du,dq]⟩
  ·cases h;exact⟨hw,[],by simp,fun aH=>⟨aH,rfl⟩⟩
theorem XU:∀(f:Nat)(ts:List Tk)(a x:List Rl)(ts':List Tk),WF ts->jv f ts a=.ok (x,ts')->WF ts'/\∃y,x=a++y/\∀aH il,∃jV il',wl aH il ts=(y.flatMap fun r=>(1,r.name,r.place)::eY 9 r.alts)++wl jV il' ts'
 |0,ts,a,x,ts',hw,h=>by cases h;exact⟨hw,[],by simp,fun aH il=>⟨aH,il,rfl⟩⟩
 |f+1,ts,a,x,ts',hw,h=>by
  rw[ahO]at h
  split at h
  ·cases h;exact⟨hw,[],by simp,fun aH il=>⟨aH,il,rfl⟩⟩
  ·obtain⟨z,c,h1,h2⟩:=ni h
   obtain⟨w1,d⟩:=YD hw h1;obtain⟨w2,y,g,j⟩:=XU f c _ x ts' w1 h2;refine⟨w2,z::y,by rw[g];simp,fun aH il=>?_⟩;obtain⟨i,b,k⟩:=j mG false;exact⟨i,b,by rw[d,k,du,dq]⟩
theorem QM{s:ByteArray}{g:Gr}(h:parse s=.ok g):wl aT true (lex s)=iG g:=by
 obtain⟨_,c,f⟩:=aji h;have a:=afh f;rw[aff]at f;obtain⟨A,E,h1,h2⟩:=ni f;obtain⟨x,D,h3,h4⟩:=ni h2;obtain⟨l,F,v,p⟩:=ni h4;cases p;obtain⟨w1,B,k,z⟩:=Xu _ _ _ _ _ (lex_wf s) h1;obtain⟨w2,q⟩:=YD w1 h3;obtain⟨i,G,y,j⟩:=XU _ _ _ _ _ w2 v;obtain⟨C,n⟩:=z aT;obtain⟨o,d,m⟩:=j mG false;have b:wl o d c=[]:=by
  rw[Bu i,a,Tj (by decide) (by decide)];have:=i
  match c,this,a with
  | [t],_,_=>rfl
  |t::u::r,h,e=>exact absurd e h.1
 rw[n,q,m,b,k,y];unfold iG;simp
theorem aas:∀(ts:List Tk)(aH:ByteArray)(il:Bool)(w:Wd),w∈wl aH il ts->((w.1=1\/w.1=2)/\isName w.2.1=true)\/((w.1=0\/w.1=3\/w.1=4)/\isToken w.2.1=true)
 | [],_,_,_,h=>by cases h
 |t::ts,aH,il,w,h=>by
  rcases cY.1 h with h|h
  ·unfold qU at h
   split at h
   ·rename_i a
    simp only[cM]at h;subst h
    left
    refine⟨?_,a⟩
    by_cases he:hd ts=lZ
    ·left;simp[he]
    ·right;simp[he]
   ·split at h
    ·rename_i a b
     simp only[cM]at h;subst h
     right
     refine⟨?_,b⟩
     by_cases h1:il=true
     ·left;simp[h1]
     ·by_cases h2:aH=jT
      ·right;right;simp[h1,h2]
      ·right;left;simp[h1,h2]
    ·cases h
  ·exact aas ts _ _ w h
theorem EN{s:ByteArray}{g:Gr}(h:parse s=.ok g)(w:Wd)(a:w∈iG g):((w.1=1\/w.1=2)/\isName w.2.1=true)\/((w.1=0\/w.1=3\/w.1=4)/\isToken w.2.1=true):=by
 rw[<-QM h]at a;exact aas _ _ _ w a
theorem Qy{t:ByteArray}(h1:isName t=true)(h2:isToken t=true):False:=by rw[zO h2]at h1;cases h1
def told(ws:List Wd):List Wd:=ws.filter fun w=>decide (w.1=0\/w.1=1)
def iI(b:ByteArray)(l:List ByteArray):Bool:=l.any fun x=>decide (x=b)
theorem Bq{b:ByteArray}{l:List ByteArray}:iI b l=true↔b∈l:=by
 unfold iI;rw[oj];constructor
 ·rintro⟨x,a,e⟩
  have:=js e;subst this;exact a
 ·intro h;exact⟨b,h,fh rfl⟩
def jb:List ByteArray->List Wd->Option Nat
 |_,[]=>none
 |seen,w::ws=>if iI w.2.1 seen=true then some w.2.2 else jb (w.2.1::seen) ws
def nI(g:Gr):List Wd:=g.levels.flatMap fun lv=>lv.tokens.map fun t=>(0,t.1,t.2)
def ER(g:Gr):List Wd:=g.rules.map fun r=>(1,r.name,r.place)
theorem Mf:∀(d:Nat)(l:List Alt)(w:Wd),w∈eY d l->w.1=2\/w.1=3\/w.1=4
 |0,_,_,h=>by cases h
 |d+1,l,w,h=>by
  rw[Iy]at h;obtain⟨a,_,h⟩:=gd.1 h;rcases cY.1 h with h|h
  ·obtain⟨x,_,h⟩:=gd.1 h
   rcases cY.1 h with h|h
   ·split at h
    ·simp only[cM]at h;subst h;exact .inl rfl
    ·split at h
     ·simp only[cM]at h;subst h;exact .inr (.inl rfl)
     ·cases h
   ·exact Mf d _ w h
  ·split at h
   ·cases h
   ·simp only[cM]at h;subst h;exact .inr (.inr rfl)
theorem agF(d:Nat)(l:List Alt):told (eY d l)=[]:=by
 unfold told;rw[tD];intro w a;have:=Mf d l w a;simp only[ii];omega
theorem afJ(g:Gr):told (nI g)=nI g:=by
 unfold told;rw[so];intro w a;unfold nI at a;obtain⟨b,_,a⟩:=gd.1 a;obtain⟨t,_,rfl⟩:=ej.1 a;rfl
theorem Mw(g:Gr):told (iG g)=nI g++ER g:=by
 unfold iG;have h1:told (nI g)=nI g:=afJ g;have h2:∀a:List Rl,told (a.flatMap fun r=>(1,r.name,r.place)::eY 9 r.alts)=a.map fun r=>(1,r.name,r.place):=by
  intro a
  induction a with
  |nil=>rfl
  |cons r a ih=>
   rw[du,jp,<-ih];have h3:=agF 9 r.alts;unfold told at h3|-;rw[jx,my,h3];rfl
 show told (nI g++_)=_;unfold told at h1 h2|-;rw[jx,h1,h2];rfl
def mh(names toks:List ByteArray):List Wd->Option Nat
 | []=>none
 |w::ws=>if (w.1=2/\iI w.2.1 names=false)\/(w.1=4/\iI w.2.1 toks=false) then some w.2.2 else mh names toks ws
theorem Qs(c d:List ByteArray)(a b:List Wd):mh c d (a++b)=(mh c d a).or (mh c d b):=by
 induction a with
 |nil=>simp[mh]
 |cons w a ih=>
  simp only[fX,mh]
  split
  ·rfl
  ·exact ih
def iter{σ:Type}(R:σ->σ):Nat->σ->σ
 |0,s=>s
 |k+1,s=>iter R k (R s)
theorem XV{σ:Type}{R:σ->σ}{Inv Closed:σ->Prop}{cnt:σ->Nat}{N:Nat}(c:∀s,Inv s->Inv (R s))(d:∀s,Inv s->cnt s<=N)(a:∀s,Inv s->¬Closed s->cnt s<cnt (R s))(b:∀s,Inv s->Closed s->R s=s):∀(k:Nat)(s:σ),Inv s->N+1<=k+cnt s->Closed (iter R k s)
 |0,s,hi,h=>by have:=d s hi;omega
 |k+1,s,hi,h=>by
  by_cases hc:Closed s
  ·have:∀k,iter R k s=s:=by
    intro k
    induction k with
    |zero=>rfl
    |succ k ih=>rw[iter,b s hi hc,ih]
   rw[this];exact hc
  ·have:=a s hi hc
   exact XV c d a b k (R s) (c s hi) (by omega)
def eZ(ws:List Wd):List ByteArray:=ws.map fun w=>w.2.1
theorem YE{b:ByteArray}{l:List ByteArray}:iI b l=false↔b∉l:=by
 rw[<-ol,Bq]
theorem Q9{b:ByteArray}{l m:List ByteArray}(h:b∈l↔b∈m):iI b l=iI b m:=by
 cases h1:iI b l
 ·cases h2:iI b m
  ·rfl
  ·exact absurd (h.2 (Bq.1 h2)) (YE.1 h1)
 ·exact(Bq.2 (h.1 (Bq.1 h1))).symm
theorem Xe:∀(ws:List Wd)(s t:List ByteArray),(∀w∈ws,w.2.1∈s↔w.2.1∈t)->jb s ws=jb t ws
 | [],_,_,_=>rfl
 |w::ws,s,t,h=>by
  simp only[jb];rw[Q9 (h w (by simp)),Xe ws (w.2.1::s) (w.2.1::t) fun u a=>by
   simp only[ee];rw[h u (by simp[a])]]
theorem Xv:∀(a b:List Wd)(s:List ByteArray),jb s (a++b)=(jb s a).or (jb ((eZ a).reverse++s) b)
 | [],b,s=>by simp[jb,eZ]
 |w::a,b,s=>by
  simp only[fX,jb]
  split
  ·rfl
  ·rw[Xv a b]
   simp[eZ]
theorem ahQ{s:ByteArray}{g:Gr}(h:parse s=.ok g):jb [] (told (iG g))=(jb [] (nI g)).or (jb [] (ER g)):=by
 rw[Mw,Xv];refine eS _ (Xe _ _ _ fun w f=>?_);have i:∀u∈nI g,isToken u.2.1=true:=fun u b=>by
  have a:u∈iG g:=rK _ b;rcases EN h u a with ⟨h1,_⟩|⟨_,h2⟩
  ·unfold nI at b
   obtain⟨j,_,b⟩:=gd.1 b;obtain⟨t,_,rfl⟩:=ej.1 b;simp at h1
  ·exact h2
 have d:isName w.2.1=true:=by
  have a:w∈told (iG g):=by rw[Mw];exact List.mem_append_right _ f
  have c:w∈iG g:=(ie.1 a).1;rcases EN h w c with ⟨_,h2⟩|⟨h1,_⟩
  ·exact h2
  ·unfold ER at f
   obtain⟨r,_,rfl⟩:=ej.1 f;simp at h1
 constructor
 ·intro a
  rw[eN,List.mem_reverse]at a;obtain⟨u,b,e⟩:=ej.1 a;exfalso;exact Qy d (by rw[<-e];exact i u b)
 ·intro a;cases a
def oD(all:List ByteArray):List Wd->Option Nat
 | []=>none
 |w::ws=>if (w.1=2\/w.1=4)/\iI w.2.1 all=false then some w.2.2 else oD all ws
def aZ(g:Gr):List ByteArray:=g.rules.map fun r=>r.name
def lV(g:Gr):List ByteArray:=eZ (nI g)
theorem Xw{a c:List ByteArray}(f:∀b∈a,isName b=true)(g:∀b∈c,isToken b=true):∀ws:List Wd,(∀w∈ws,((w.1=1\/w.1=2)/\isName w.2.1=true)\/((w.1=0\/w.1=3\/w.1=4)/\isToken w.2.1=true))->oD (c++a) ws=mh a c ws
 | [],_=>rfl
 |w::ws,h=>by
  have ih:=Xw f g ws (fun u i=>h u (by simp[i]));simp only[oD,mh];have j:=h w (by simp);have key:((w.1=2\/w.1=4)/\iI w.2.1 (c++a)=false)↔((w.1=2/\iI w.2.1 a=false)\/(w.1=4/\iI w.2.1 c=false)):=by
   rcases j with ⟨h1,h2⟩|⟨h1,h2⟩
   ·have e:iI w.2.1 (c++a)=iI w.2.1 a:=Q9 ⟨fun d=>(cY.1 d).elim (fun d=>(Qy h2 (g _ d)).elim) id,fun d=>List.mem_append_right _ d⟩
    rw[e];constructor
    ·rintro⟨h3,h4⟩;exact .inl ⟨by omega,h4⟩
    ·rintro(⟨h3,h4⟩ | ⟨h3,_⟩)
     ·exact⟨.inl h3,h4⟩
     ·omega
   ·have e:iI w.2.1 (c++a)=iI w.2.1 c:=Q9 ⟨fun d=>(cY.1 d).elim id (fun d=>(Qy (f _ d) h2).elim),fun d=>rK _ d⟩
    rw[e];constructor
    ·rintro⟨h3,h4⟩;exact .inr ⟨by omega,h4⟩
    ·rintro(⟨h3,_⟩ | ⟨h3,h4⟩)
     ·omega
     ·exact⟨.inr h3,h4⟩
  by_cases hc:(w.1=2\/w.1=4)/\iI w.2.1 (c++a)=false
  ·rw[de hc,de (key.1 hc)]
  ·rw[dk hc,dk (fun h=>hc (key.2 h)),ih]
theorem Xx(a b:List ByteArray):∀ws:List Wd,(∀w∈ws,w.1=0\/w.1=1)->mh a b ws=none
 | [],_=>rfl
 |w::ws,h=>by
  have:=h w (by simp);simp only[mh];rw[dk (by omega)];exact Xx a b ws (fun u c=>h u (by simp[c]))
def EL(names toks:List ByteArray):List Rl->Option Nat
 | []=>none
 |r::rs=>(mh names toks (eY 9 r.alts)).or (EL names toks rs)
theorem aeS(g:Gr)(a b:List ByteArray):mh a b (iG g)=EL a b g.rules:=by
 unfold iG;rw[Qs,Xx a b _ fun w c=>by
  obtain⟨d,_,c⟩:=gd.1 c;obtain⟨t,_,rfl⟩:=ej.1 c;exact .inl rfl,Option.none_or]
 induction g.rules with
 |nil=>rfl
 |cons r rs ih=>
  rw[du,Qs,ih,EL];have e:mh a b ((1,r.name,r.place)::eY 9 r.alts)=mh a b (eY 9 r.alts):=by
   simp only[mh];rw[dk (by simp)]
  rw[e]
def aJ(bs:List Bool)(i:Nat):Bool:=bs[i]?.getD false
def bP(a b:List Bool):Prop:=a.length=b.length/\∀i,aJ a i=true->aJ b i=true
theorem bP.refl(a:List Bool):bP a a:=⟨rfl,fun _ h=>h⟩
theorem bP.trans{a b c:List Bool}(h:bP a b)(k:bP b c):bP a c:=⟨h.1.trans k.1,fun i d=>k.2 i (h.2 i d)⟩
theorem at_set(bs:List Bool)(j i:Nat):aJ (bs.set j true) i=if j=i/\j<bs.length then true else aJ bs i:=by
 unfold aJ;rw[fk]
 by_cases h:j=i
 ·subst h
  by_cases hl:j<bs.length
  ·simp[hl]
  ·simp[hl]
 ·simp[h]
theorem bP.set(bs:List Bool)(j:Nat):bP bs (bs.set j true):=⟨by simp,fun i a=>by rw[at_set];split <;> simp_all⟩
theorem RG{bs:List Bool}{j:Nat}(h:j<bs.length->aJ bs j=true):bs.set j true=bs:=by
 apply pA;intro i;rw[fk]
 by_cases hj:j=i
 ·subst hj
  by_cases hl:j<bs.length
  ·have h1:=h hl
   unfold aJ at h1;rw[cF hl]at h1|-;simp only[pD]at h1;simp[h1];exact hl
  ·simp[hl]
 ·simp[hj]
def bq(bs:List Bool):Nat:=bs.countP id
theorem Bw(bs:List Bool):bq bs<=bs.length:=List.countP_le_length
theorem cnt_mono:∀{a b:List Bool},bP a b->bq a<=bq b
 | [],[],_=>zL0
 | [],_::_,h=>by have:=h.1;simp at this
 |_::_,[],h=>by have:=h.1;simp at this
 |x::a,y::b,h=>by
  have ih:=cnt_mono (a:=a) (b:=b) ⟨by have:=h.1;simpa using this,fun i c=>h.2 (i+1) c⟩;have d:x=true->y=true:=fun e=>by subst e;exact h.2 0 rfl
  unfold bq at *;rw[mj,mj];cases x <;> cases y <;> simp_all <;> omega
theorem cnt_lt:∀{a b:List Bool}(i:Nat),bP a b->aJ a i=false->aJ b i=true->bq a<bq b
 | [],[],i,_,_,hb=>by simp[aJ]at hb
 | [],_::_,_,h,_,_=>by have:=h.1;simp at this
 |_::_,[],_,h,_,_=>by have:=h.1;simp at this
 |x::a,y::b,0,h,ha,hb=>by
  have j:=cnt_mono (a:=a) (b:=b) ⟨by have:=h.1;simpa using this,fun i c=>h.2 (i+1) c⟩;have d:x=false:=ha;have f:y=true:=hb;subst d f;unfold bq at *;rw[mj,mj];simp only[id];simp;omega
 |x::a,y::b,i+1,h,ha,hb=>by
  have ih:=cnt_lt (a:=a) (b:=b) i ⟨by have:=h.1;simpa using this,fun i c=>h.2 (i+1) c⟩ ha hb;have g:x=true->y=true:=fun e=>by subst e;exact h.2 0 rfl
  unfold bq at *;rw[mj,mj];cases x <;> cases y <;> simp_all <;> omega
def rV(step:Nat->List Bool->List Bool):Nat->Nat->List Bool->List Bool
 |0,_,bs=>bs
 |k+1,i,bs=>rV step k (i+1) (step i bs)
structure StepB(step:Nat->List Bool->List Bool)(Cl:Nat->List Bool->Prop):Prop where
 le:∀i bs,bP bs (step i bs)
 idle:∀i bs,Cl i bs->step i bs=bs
 more:∀i a bs,bP a bs->¬Cl i a->(∃j,aJ a j=false/\aJ (step i bs) j=true)
theorem IL{step:Nat->List Bool->List Bool}{a:Nat->List Bool->Prop}(h:StepB step a):∀(k i:Nat)(bs:List Bool),bP bs (rV step k i bs)
 |0,_,bs=>bP.refl bs
 |k+1,i,bs=>(h.le i bs).trans (IL h k (i+1) (step i bs))
theorem YF{step:Nat->List Bool->List Bool}{a:Nat->List Bool->Prop}(h:StepB step a):∀(k i:Nat)(bs:List Bool),(∀j,i<=j->j<i+k->a j bs)->rV step k i bs=bs
 |0,_,_,_=>rfl
 |k+1,i,bs,hc=>by
  rw[rV,h.idle i bs (hc i (zL0) (by omega))];exact YF h k (i+1) bs fun j h1 h2=>hc j (by omega) (by omega)
theorem YG{step:Nat->List Bool->List Bool}{d:Nat->List Bool->Prop}(h:StepB step d)(a:List Bool):∀(k i:Nat)(bs:List Bool),bP a bs->(∃j,i<=j/\j<i+k/\¬d j a)->∃j,aJ a j=false/\aJ (rV step k i bs) j=true
 |0,i,_,_,⟨j,h1,h2,_⟩=>by omega
 |k+1,i,bs,hl,⟨j,h1,h2,h3⟩=>by
  by_cases hj:j=i
  ·subst hj
   obtain⟨m,b,c⟩:=h.more j a bs hl h3;exact⟨m,b,(IL h k (j+1) (step j bs)).2 m c⟩
  ·exact YG h a k (i+1) (step i bs) (hl.trans (h.le i bs)) ⟨j,by omega,by omega,h3⟩
theorem Xf{step:Nat->List Bool->List Bool}{a:Nat->List Bool->Prop}(h:StepB step a)(n k:Nat)(bs:List Bool)(f:bs.length=n)(g:n+1<=k):∀i,i<n->a i (iter (rV step n 0) k bs):=by
 have key:=XV (R:=rV step n 0) (Inv:=fun s=>s.length=n) (Closed:=fun s=>∀i,i<n->a i s) (cnt:=bq) (N:=n)
  (fun s b=>by rw[<-b];exact(IL h _ _ s).1.symm)
  (fun s b=>by rw[<-b];exact Bw s)
  (fun s b d=>by
   have c:∃j,0<=j/\j<0+n/\¬a j s:=by
    by_cases hh:∃j,0<=j/\j<0+n/\¬a j s
    ·exact hh
    ·exfalso;apply d
     intro i l
     by_cases hci:a i s
     ·exact hci
     ·exact absurd ⟨i,eR _,by omega,hci⟩ hh
   obtain⟨j,h1,h2⟩:=YG h s n 0 s (bP.refl s) c;exact cnt_lt j (IL h n 0 s) h1 h2)
  (fun s b d=>YF h n 0 s fun j _ h2=>d j (by omega))
 exact key k bs f (by omega)
theorem IE{step:Nat->List Bool->List Bool}{a:Nat->List Bool->Prop}(h:StepB step a)(n:Nat):∀(k:Nat)(bs:List Bool),bP bs (iter (rV step n 0) k bs)
 |0,bs=>bP.refl bs
 |k+1,bs=>(IL h n 0 bs).trans (IE h n k _)
theorem XW{step:Nat->List Bool->List Bool}{I:List Bool->Prop}(a:∀i bs,I bs->I (step i bs))(n:Nat):∀(k:Nat)(bs:List Bool),I bs->I (iter (rV step n 0) k bs):=by
 have b:∀(m i:Nat)(bs:List Bool),I bs->I (rV step m i bs):=by
  intro m
  induction m with
  |zero=>intro i bs h;exact h
  |succ m ih=>intro i bs h;exact ih _ _ (a i bs h)
 intro k
 induction k with
 |zero=>intro bs h;exact h
 |succ k ih=>intro bs h;exact ih _ (b n 0 bs h)
def nC(ns:List ByteArray)(b:ByteArray):Nat:=ns.findIdx fun x=>decide (x=b)
def oM(l:List Alt):List ByteArray:=eZ ((eY 9 l).filter fun w=>decide (w.1=2))
def lC(g:Gr)(i:Nat):List Alt:=(g.rules[i]?.map fun r=>r.alts).getD []
def yR(ns us:List ByteArray)(bs:List Bool):List Bool:=us.foldl (fun bs b=>bs.set (nC ns b) true) bs
theorem IY(a:List ByteArray):∀(us:List ByteArray)(bs:List Bool),bP bs (yR a us bs)
 | [],bs=>bP.refl bs
 |b::us,bs=>(bP.set bs (nC a b)).trans (IY a us _)
theorem Zx(a:List ByteArray):∀(us:List ByteArray)(bs:List Bool),(∀b∈us,nC a b<bs.length->aJ bs (nC a b)=true)->yR a us bs=bs
 | [],_,_=>rfl
 |b::us,bs,h=>by
  show yR a us (bs.set (nC a b) true)=bs;rw[RG (h b (by simp))];exact Zx a us bs fun c d=>h c (by simp[d])
theorem RH(a:List ByteArray):∀(us:List ByteArray)(bs:List Bool)(b:ByteArray),b∈us->nC a b<bs.length->aJ (yR a us bs) (nC a b)=true
 | [],_,_,h,_=>by cases h
 |c::us,bs,b,h,hl=>by
  show aJ (yR a us (bs.set (nC a c) true)) _=true;rcases ee.1 h with rfl|h
  ·refine(IY a us _).2 _ ?_
   rw[at_set,de ⟨rfl,hl⟩]
  ·exact RH a us _ b h (by simpa using hl)
theorem Zy(a:List ByteArray)(T:List Bool):∀(us:List ByteArray)(bs:List Bool),bs.length=T.length->(∀b∈us,nC a b<T.length->aJ T (nC a b)=true)->bP bs T->bP (yR a us bs) T
 | [],_,_,_,h=>h
 |b::us,bs,hl,hu,h=>by
  show bP (yR a us (bs.set (nC a b) true)) T;refine Zy a T us _ (by simpa using hl) (fun c d=>hu c (by simp[d])) ⟨by simpa using hl,fun i f=>?_⟩;rw[at_set]at f
  split at f
  ·rename_i d
   rw[<-d.1];exact hu b (by simp) (by rw[<-hl];exact d.2)
  ·exact h.2 i f
def yJ(g:Gr)(i:Nat)(bs:List Bool):List Bool:=if aJ bs i=true then yR (aZ g) (oM (lC g i)) bs else bs
def Cn(g:Gr)(i:Nat)(bs:List Bool):Prop:=aJ bs i=true->∀b∈oM (lC g i),nC (aZ g) b<bs.length->aJ bs (nC (aZ g) b)=true
theorem Ra(g:Gr):StepB (yJ g) (Cn g) where
 le i bs:=by
  unfold yJ
  split
  ·exact IY _ _ bs
  ·exact bP.refl bs
 idle i bs h:=by
  unfold yJ
  split
  ·rename_i k;exact Zx _ _ bs (h k)
  ·rfl
 more i a bs hl h:=by
  have k:aJ a i=true:=by
   cases hh:aJ a i
   ·exact absurd (fun l=>by rw[hh]at l;cases l) h
   ·rfl
  have d:∃b,b∈oM (lC g i)/\nC (aZ g) b<a.length/\aJ a (nC (aZ g) b)=false:=by
   by_cases hh:∃b,b∈oM (lC g i)/\nC (aZ g) b<a.length/\aJ a (nC (aZ g) b)=false
   ·exact hh
   ·exfalso
    apply h;intro _ b f c;cases j:aJ a (nC (aZ g) b)
    ·exact absurd ⟨b,f,c,j⟩ hh
    ·rfl
  obtain⟨b,f,c,j⟩:=d;refine⟨_,j,?_⟩;unfold yJ;rw[de (hl.2 i k)];exact RH _ _ bs b f (by rw[<-hl.1];exact c)
def oO(on:ByteArray->Bool):Nat->List Alt->Bool
 |0,_=>false
 |d+1,l=>l.any fun a=>a.1.all fun x=>decide (x.kind=1) || decide (x.mark=42) || decide (x.mark=63) || (decide (x.kind=0) && on x.name) || (decide (x.kind=2) && oO on d x.alts)
theorem Rb{on on':ByteArray->Bool}(h:∀b,on b=true->on' b=true):∀(d:Nat)(l:List Alt),oO on d l=true->oO on' d l=true
 |0,_,e=>by cases e
 |d+1,l,e=>by
  simp only[oO,oj,pM]at e|-;obtain⟨a,g,f⟩:=e;refine⟨a,g,fun x c=>?_⟩;have:=f x c;simp only[oE,j']at this|-;rcases this with ((((t|t)|t)|t)|t)
  ·exact .inl (.inl (.inl (.inl t)))
  ·exact .inl (.inl (.inl (.inr t)))
  ·exact .inl (.inl (.inr t))
  ·exact .inl (.inr ⟨t.1,h _ t.2⟩)
  ·exact .inr ⟨t.1,Rb h d _ t.2⟩
def vC(g:Gr)(bs:List Bool)(b:ByteArray):Bool:=aJ bs (nC (aZ g) b)
def sV(g:Gr)(i:Nat)(bs:List Bool):List Bool:=if oO (vC g bs) 9 (lC g i)=true then bs.set i true else bs
def qB(g:Gr)(i:Nat)(bs:List Bool):Prop:=oO (vC g bs) 9 (lC g i)=true->i<bs.length->aJ bs i=true
theorem MN(g:Gr):StepB (sV g) (qB g) where
 le i bs:=by
  unfold sV
  split
  ·exact bP.set bs i
  ·exact bP.refl bs
 idle i bs h:=by
  unfold sV
  split
  ·rename_i m;exact RG (h m)
  ·rfl
 more i a bs hl h:=by
  have j:oO (vC g a) 9 (lC g i)=true:=by
   cases hh:oO (vC g a) 9 (lC g i)
   ·exact absurd (fun c=>by rw[hh]at c;cases c) h
   ·rfl
  have d:i<a.length:=by
   rcases po i a.length with f|f
   ·exact f
   ·exact absurd (fun _ c=>by omega) h
  have l:aJ a i=false:=by
   cases hh:aJ a i
   ·rfl
   ·exact absurd (fun _ _=>hh) h
  refine⟨i,l,?_⟩;unfold sV;rw[de (Rb (on':=vC g bs) (fun b k=>hl.2 _ k) 9 _ j),at_set,de ⟨rfl,by rw[<-hl.1];exact d⟩]
structure wU(Cl:Nat->List Bool->Prop)(n:Nat)(s bs:List Bool):Prop where
 len:bs.length=n
 has:bP s bs
 closed:∀i,i<n->Cl i bs
 least:∀T,T.length=n->bP s T->(∀i,i<n->Cl i T)->bP bs T
theorem al0{a b:List Bool}(h:a.length=b.length)(c:∀i,aJ a i=aJ b i):a=b:=by
 apply mi h;intro i h1 h2;have:=c i;unfold aJ at this;rw[cF h1,cF h2]at this;simpa using this
theorem wU.unique{c:Nat->List Bool->Prop}{n:Nat}{s a b:List Bool}(h:wU c n s a)(k:wU c n s b):a=b:=by
 have h1:=h.least b k.len k.has k.closed;have h2:=k.least a h.len h.has h.closed;refine al0 h1.1 fun i=>?_
 cases ha:aJ a i
 ·cases hb:aJ b i
  ·rfl
  ·rw[h2.2 i hb]at ha;cases ha
 ·rw[h1.2 i ha]
theorem Zz(g:Gr)(T:List Bool)(j:∀i,i<T.length->Cn g i T)(i:Nat)(bs:List Bool)(h:bP bs T):bP (yJ g i bs) T:=by
 unfold yJ
 split
 ·rename_i k
  refine Zy _ T _ bs h.1 (fun b l f=>?_) h;have a:=h.2 i k;have c:i<T.length:=by
   rcases po i T.length with d|d
   ·exact d
   ·unfold aJ at a;rw[ld d]at a;cases a
  exact j i c a b l f
 ·exact h
theorem aat(g:Gr)(T:List Bool)(f:∀i,i<T.length->qB g i T)(i:Nat)(bs:List Bool)(h:bP bs T):bP (sV g i bs) T:=by
 unfold sV
 split
 ·rename_i k
  refine⟨by simpa using h.1,fun j c=>?_⟩;rw[at_set]at c
  split at c
  ·rename_i d
   rw[<-d.1];have a:i<T.length:=by rw[<-h.1];exact d.2
   exact f i a (Rb (on':=vC g T) (fun b l=>h.2 _ l) 9 _ k) a
  ·exact h.2 j c
 ·exact h
theorem agG(g:Gr)(n k:Nat)(s:List Bool)(b:s.length=n)(c:n+1<=k):wU (Cn g) n s (iter (rV (yJ g) n 0) k s) where
 len:=by rw[<-b];exact(IE (Ra g) _ k s).1.symm
 has:=IE (Ra g) n k s
 closed:=Xf (Ra g) n k s b c
 least T hT h1 h2:=XW (I:=fun a=>bP a T) (fun i a h=>Zz g T (fun i d=>h2 i (by omega)) i a h) n k s h1
theorem ahR(g:Gr)(n k:Nat)(s:List Bool)(b:s.length=n)(c:n+1<=k):wU (qB g) n s (iter (rV (sV g) n 0) k s) where
 len:=by rw[<-b];exact(IE (MN g) _ k s).1.symm
 has:=IE (MN g) n k s
 closed:=Xf (MN g) n k s b c
 least T hT h1 h2:=XW (I:=fun a=>bP a T) (fun i a h=>aat g T (fun i d=>h2 i (by omega)) i a h) n k s h1
def unk(g:Gr)(ws:List Wd):Option Nat:=mh (aZ g) (lV g) ws
theorem Sb(g:Gr)(a b:List Wd):unk g (a++b)=(unk g a).or (unk g b):=Qs _ _ a b
theorem abg{l:List ByteArray}{b:ByteArray}:bW l b<0↔iI b l=false:=by
 have h:=jH (l:=l) (b:=b);rw[YE];constructor
 ·intro h1 h2;have:=h.2 h2;omega
 ·intro h1;by_cases h2:bW l b<0
  ·exact h2
  ·exact absurd (h.1 (by omega)) h1
theorem aau(g:Gr)(b:ByteArray):lvls g b=iI b (lV g):=by
 have e:lvls g b=true↔iI b (lV g)=true:=by
  rw[Bq];unfold lvls lV eZ nI;rw[oj];constructor
  ·rintro⟨a,h1,h2⟩
   have h2:=jH.1 (js h2);obtain⟨t,c,rfl⟩:=ej.1 h2;exact ej.2 ⟨(0,t.1,t.2),gd.2 ⟨a,h1,ej.2 ⟨t,c,rfl⟩⟩,rfl⟩
  ·intro h
   obtain⟨wd,h1,rfl⟩:=ej.1 h;obtain⟨a,h2,h3⟩:=gd.1 h1;obtain⟨t,c,rfl⟩:=ej.1 h3;exact⟨a,h2,fh (jH.2 (ej.2 ⟨t,c,rfl⟩))⟩
 cases h1:lvls g b <;> cases h2:iI b (lV g) <;> simp_all
def Du(a:Alt):List Wd:=if a.2.1=aT then [] else [(4,a.2.1,a.2.2)]
theorem YH(d:Nat)(a:Alt):Dn d a=a.1.flatMap (mJ d)++Du a:=rfl
theorem afK{g:Gr}{d:Nat}{x:It}(a:x.kind=0)(h:bW (aZ g) x.name<0)(r:List Wd):unk g (mJ d x++r)=some x.place:=by
 unfold unk mJ;rw[de a];simp only[fX,go,mh];rw[de (.inl ⟨by simp,abg.1 h⟩)]
theorem afL{g:Gr}{d:Nat}{x:It}(h:¬(x.kind=0/\bW (aZ g) x.name<0))(r:List Wd):unk g (mJ d x++r)=(unk g (eY d x.alts)).or (unk g r):=by
 rw[show mJ d x=(if x.kind=0 then [(2,x.name,x.place)] else if x.kind=1 then [(3,x.name,x.place)] else [])++eY d x.alts from rfl,dq,Sb,Sb];have e:unk g (if x.kind=0 then [(2,x.name,x.place)] else if x.kind=1 then [(3,x.name,x.place)] else [])=none:=by
  unfold unk
  split
  ·rename_i a
   have:¬iI x.name (aZ g)=false:=fun e=>h ⟨a,abg.2 e⟩
   simp only[mh];rw[dk];rintro(⟨_,h2⟩ | ⟨h1,_⟩)
   ·exact this h2
   ·cases h1
  ·split
   ·simp[mh]
   ·rfl
 rw[e];rfl
theorem afM{g:Gr}{a:Alt}(h:a.2.1≠aT)(b:lvls g a.2.1=false)(r:List Wd):unk g (Du a++r)=some a.2.2:=by
 unfold unk Du;rw[dk h];simp only[fX,go,mh];rw[de (.inr ⟨by simp,by rw[<-aau];exact b⟩)]
def Dv(d:Nat)(l:List Alt):List ByteArray:=eZ ((eY d l).filter fun w=>decide (w.1=2))
def Js(d:Nat)(x:It):List ByteArray:=(if x.kind=0 then [x.name] else [])++Dv d x.alts
theorem EM(a b:List Wd):eZ (a++b)=eZ a++eZ b:=by unfold eZ;rw[ei]
theorem agH(d:Nat)(x:It):eZ ((mJ d x).filter fun w=>decide (w.1=2))=Js d x:=by
 unfold mJ Js Dv;rw[jx,EM];congr 1
 split
 ·simp[eZ]
 ·split
  ·simp[eZ]
  ·rfl
theorem YI(d:Nat):∀its:List It,eZ ((its.flatMap (mJ d)).filter fun w=>decide (w.1=2))=its.flatMap (Js d)
 | []=>rfl
 |x::its=>by rw[du,jx,EM,agH,YI d its,du]
theorem YJ(d:Nat):∀l:List Alt,Dv (d+1) l=l.flatMap fun a=>a.1.flatMap (Js d)
 | []=>rfl
 |a::l=>by
  have ih:=YJ d l;unfold Dv at ih|-;rw[Iy]at ih|-;rw[du,jx,EM,ih,YH,jx,EM,YI,du];have:eZ ((Du a).filter fun w=>decide (w.1=2))=[]:=by
   unfold Du;split
   ·rfl
   ·simp[eZ]
  rw[this,eN]
theorem afN{g:Gr}{d:Nat}{x:It}{r:List Wd}(h:unk g (mJ d x++r)=none):(x.kind=0->0<=bW (aZ g) x.name)/\unk g (eY d x.alts)=none/\unk g r=none:=by
 by_cases he:x.kind=0/\bW (aZ g) x.name<0
 ·rw[afK he.1 he.2]at h;cases h
 ·rw[afL he]at h
  refine⟨fun a=>?_,?_⟩
  ·have:=fun h=>he ⟨a,h⟩;omega
  ·cases h1:unk g (eY d x.alts) with
   |none=>rw[h1]at h;exact⟨rfl,h⟩
   |some p=>rw[h1]at h;cases h
theorem afO{g:Gr}{a:Alt}{r:List Wd}(h:unk g (Du a++r)=none):unk g r=none:=by
 rw[Sb]at h;cases h1:unk g (Du a) with
 |none=>rw[h1]at h;exact h
 |some p=>rw[h1]at h;cases h
end Lx
def bE(bs:List Bool):Array Value:=(bs.map Value.bool).toArray
theorem Di(bs:List Bool)(i:Nat)(b:Bool):(bE bs).setIfInBounds i (.bool b)=bE (bs.set i b):=by
 unfold bE;rw[iz,nt]
theorem qM(bs:List Bool){i:Nat}(h:i<bs.length):(bE bs)[i]?=some (.bool (aJ bs i)):=by
 unfold bE aJ;simp[h]
theorem Nf{l:List ByteArray}{b:ByteArray}(h:0<=bW l b):bW l b=(Lx.fix l b:Int)/\Lx.fix l b<l.length:=by
 unfold bW at h|-
 split
 ·rename_i h1;exact⟨rfl,h1⟩
 ·rename_i h1;rw[dk h1]at h;omega
namespace Lx
def uO(on:ByteArray->Bool)(d:Nat)(x:It):Bool:=decide (x.kind=1) || decide (x.mark=42) || decide (x.mark=63) || (decide (x.kind=0) && on x.name) || (decide (x.kind=2) && oO on d x.alts)
theorem agI(on:ByteArray->Bool)(d:Nat)(l:List Alt):oO on (d+1) l=l.any fun a=>a.1.all (uO on d):=rfl
end Lx
theorem Tryz.NK:(prog.info? 4).map (fun i=>(i.zero,i.size,i.bytes))=some (some (.bool false),1,1):=by kernel_rfl
theorem QN(n:Nat):madeCells #[.bool false] (n*1)=bE (List.replicate n false):=by
 unfold madeCells bE;apply pN
 ·simp
 ·intro i h1 h2
  simp[qt]
theorem YK{n:Nat}(g:n<=2001)(w:World):(Instr.makeSlice 142 (.int .i64 (n:Int)) (.int .i64 (n:Int))).run prog w=.ok (.slice (some ⟨w.heap.size,0,none⟩) n n) (w.alloc (.cells (bE (List.replicate n false)) 4)):=by
 obtain⟨d,f,a,b,c⟩:=fd Tryz.NK;have h:=pj (P:=prog) w 142 4 d _ (by kernel_rfl) f a .i64 .i64 (n:Int) (n:Int) (by omega) (nh _) (by rw[c];omega) (by omega);rw[h,gz,b];have e:Value.cells (.bool false)=#[.bool false]:=rfl;rw[e,QN]
namespace Lx
def qO:List Rl->List Bool->Option Nat
 |r::rs,b::bs=>if b=true then qO rs bs else some r.place
 |_,_=>none
def FN(g:Gr):List Bool:=iter (rV (yJ g) g.rules.length 0) (g.rules.length+1) ((List.replicate g.rules.length false).set 0 true)
def DK(g:Gr):List Bool:=iter (rV (sV g) g.rules.length 0) (g.rules.length+1) (List.replicate g.rules.length false)
def zX(g:Gr):Option Nat:=(jb [] (nI g)).or (jb [] (ER g))
def uS(g:Gr):Option Nat:=EL (aZ g) (lV g) g.rules
def qD(n:Nat)(o:Option Nat)(r:Nat×Nat):Nat×Nat :=
 match o with
 |some p=>(n,p)
 |none=>r
def jY(g:Gr):Nat×Nat:=qD 4 (zX g) (qD 5 (uS g) (qD 6 (qO g.rules (FN g)) (qD 7 (qO g.rules (DK g)) (0,0))))
theorem MO{g:Gr}:∀{rs:List Rl},EL (aZ g) (lV g) rs=none->∀r∈rs,unk g (eY 9 r.alts)=none
 | [],_,_,h=>by cases h
 |r::rs,h,x,a=>by
  rw[EL]at h;cases h1:mh (aZ g) (lV g) (eY 9 r.alts) with
  |some p=>rw[h1]at h;cases h
  |none=>
   rw[h1]at h;rcases ee.1 a with rfl|a
   ·exact h1
   ·exact MO h x a
theorem Rc{g:Gr}{i:Nat}(a:i<g.rules.length):lC g i=g.rules[i].alts:=by simp[lC,a]
def dh:Nat->List Alt->List It
 |0,_=>[]
 |d+1,l=>l.flatMap fun a=>a.1.flatMap fun x=>x::dh d x.alts
def iO:Nat->List Alt->Nat
 |0,_=>0
 |d+1,l=>(l.map fun a=>1+(a.1.map fun x=>1+iO d x.alts).sum).sum
def xg(d:Nat)(x:It):List It:=x::dh d x.alts
def Dw(d:Nat)(x:It):Nat:=1+iO d x.alts
def qV(d:Nat)(l:List It):List It:=l.flatMap (xg d)
def tq(d:Nat)(l:List It):Nat:=(l.map (Dw d)).sum
theorem wH(d:Nat)(l:List Alt):dh (d+1) l=l.flatMap fun a=>qV d a.1:=rfl
theorem Dg(d:Nat)(l:List Alt):iO (d+1) l=(l.map fun a=>1+tq d a.1).sum:=rfl
theorem MP:∀d,dh d []=[]
 |0=>rfl
 |_+1=>rfl
theorem ZA:∀d,iO d []=0
 |0=>rfl
 |_+1=>rfl
def bK(ts ts':List Tk)(l:List It)(n k:Nat):Prop:=∃pre,ts=pre++ts'/\(l.map It.place).Sublist (pre.map Prod.snd)/\n<=pre.length+k
theorem bK.refl(ts:List Tk):bK ts ts [] 0 0:=⟨[],rfl,List.Sublist.refl _,zL0⟩
theorem bK.trans{a b c:List Tk}{l m:List It}{n f k d:Nat}(h:bK a b l n k)(i:bK b c m f d):bK a c (l++m) (n+f) (k+d):=by
 obtain⟨p,rfl,h2,h3⟩:=h;obtain⟨q,rfl,g,j⟩:=i;refine⟨p++q,by simp,?_,by simp;omega⟩;rw[ei,ei];exact h2.append g
theorem bK.less{a b:List Tk}{l:List It}{n d k c:Nat}(h:bK a b l n k)(f:d+k<=n+c):bK a b l d c:=by
 obtain⟨p,e,h2,h3⟩:=h;exact⟨p,e,h2,by omega⟩
theorem Ng{ts:List Tk}(h:hd ts≠aT):ts=(hd ts,pl ts)::ts.tail:=by
 cases ts with
 |nil=>exact absurd rfl h
 |cons t ts=>rfl
theorem bK.pass{ts:List Tk}(h:hd ts≠aT):bK ts ts.tail [] 1 0:=⟨[(hd ts,pl ts)],Ng h,List.nil_sublist _,zL0⟩
theorem bK.item{ts:List Tk}(h:hd ts≠aT){x:It}(a:x.place=pl ts):bK ts ts.tail [x] 1 0:=⟨[(hd ts,pl ts)],Ng h,by rw[<-a];exact List.Sublist.refl _,zL0⟩
theorem Fv{b:ByteArray}(p:Int->Bool)(h:isWord p b=true):b≠aT:=by
 rintro rfl;simp[isWord,aT,ByteArray.size]at h
theorem QO(ts:List Tk):bK ts (dJ ts).2 [] 0 0:=by
 unfold dJ
 split
 ·rename_i h;exact(bK.pass (by rw[h];decide)).less (by omega)
 ·split
  ·rename_i h;exact(bK.pass (by rw[h];decide)).less (by omega)
  ·split
   ·rename_i h;exact(bK.pass (by rw[h];decide)).less (by omega)
   ·exact bK.refl _
def Fw(d:Nat)(aF:List Tk->aR (List Alt)):Prop:=∀ts l ts',aF ts=.ok (l,ts')->bK ts.tail ts' (dh d l) (iO d l) 0
theorem agJ{d:Nat}{aF:List Tk->aR (List Alt)}(g:Fw d aF){ts ts':List Tk}{x:It}(h:iB aF ts=.ok (x,ts')):bK ts ts' (xg d x) (Dw d x) 0:=by
 unfold iB at h
 split at h
 ·rename_i f
  split at h
  ·cases h
  ·rename_i alts b c
   cases h;have h1:=(bK.item (ts:=ts) (by rw[f];decide) (x:=⟨2,aT,(dJ b).1,alts,pl ts⟩) rfl).trans ((g _ _ _ c).trans (QO b));rw[eN]at h1;exact h1
 ·split at h
  ·rename_i a
   cases h;have h1:=(bK.item (ts:=ts) (Fv _ a) (x:=⟨0,hd ts,(dJ ts.tail).1,[],pl ts⟩) rfl).trans (QO ts.tail);rw[eN]at h1;simpa [xg,Dw,MP,ZA]using h1
  ·split at h
   ·rename_i a
    cases h;have h1:=(bK.item (ts:=ts) (Fv _ a) (x:=⟨1,hd ts,(dJ ts.tail).1,[],pl ts⟩) rfl).trans (QO ts.tail);rw[eN]at h1;simpa [xg,Dw,MP,ZA]using h1
   ·cases h
theorem XY{d:Nat}{aF:List Tk->aR (List Alt)}(b:Fw d aF):∀(f:Nat)(ts:List Tk)(a x:List It)(ts':List Tk),jr aF f ts a=.ok (x,ts')->∃y,x=a++y/\bK ts ts' (qV d y) (tq d y) 0
 |0,ts,a,x,ts',h=>by
  cases h;exact⟨[],by simp,bK.refl _⟩
 |f+1,ts,a,x,ts',h=>by
  unfold jr at h
  split at h
  ·split at h
   ·cases h
   ·rename_i z c g
    obtain⟨y,e,h2⟩:=XY b f c _ x ts' h;refine⟨z::y,by rw[e];simp,?_⟩;exact(agJ b g).trans h2
  ·cases h
   exact⟨[],by simp,bK.refl _⟩
theorem ZB{d:Nat}{aF:List Tk->aR (List Alt)}(j:Fw d aF){top:Bool}{ts ts':List Tk}{x:Alt}(h:iH aF top ts=.ok (x,ts')):bK ts ts' (qV d x.1) (1+tq d x.1) 1:=by
 unfold iH at h
 split at h
 ·cases h
 ·rename_i its c i
  obtain⟨y,e,h2⟩:=XY j _ _ _ _ _ i;rw[go]at e;subst e;unfold qz at h
  split at h
  ·rename_i g
   split at h
   ·cases h
   ·rename_i b k f
    cases h;obtain⟨rfl,rfl,a⟩:=oC f;have h3:=h2.trans ((bK.pass (ts:=c) (by rw[g.2];decide)).trans (bK.pass (Fv _ a)));simp only[eN]at h3;refine bK.less h3 ?_;show 1+tq d its+_<=_;omega
  ·cases h
   refine bK.less h2 ?_;show 1+tq d its+_<=_;omega
theorem YL{d:Nat}{aF:List Tk->aR (List Alt)}(b:Fw d aF){top:Bool}:∀(f:Nat)(ts:List Tk)(a x:List Alt)(ts':List Tk),lW aF top f ts a=.ok (x,ts')->∃y,x=a++y/\bK ts ts' (dh (d+1) y) (iO (d+1) y) 0
 |0,ts,a,x,ts',h=>by
  cases h;exact⟨[],by simp,bK.refl _⟩
 |f+1,ts,a,x,ts',h=>by
  unfold lW at h
  split at h
  ·rename_i g
   split at h
   ·cases h
   ·rename_i z c i
    obtain⟨y,e,h2⟩:=YL b f c _ x ts' h;refine⟨z::y,by rw[e];simp,?_⟩;have h3:=(bK.pass (ts:=ts) (by rw[g];decide)).trans ((ZB b i).trans h2);rw[go]at h3;rw[wH,Dg,du,jp,mC,<-wH,<-Dg];exact h3.less (by omega)
  ·cases h
   exact⟨[],by simp,bK.refl _⟩
theorem Xy{d:Nat}{aF:List Tk->aR (List Alt)}(a:Fw d aF){top:Bool}{ts ts':List Tk}{x:List Alt}(h:qo aF top ts=.ok (x,ts')):bK ts ts' (dh (d+1) x) (iO (d+1) x) 1:=by
 unfold qo at h
 split at h
 ·cases h
 ·rename_i z c b
  obtain⟨y,e,h2⟩:=YL a _ _ _ _ _ h;subst e;have h3:=(ZB a b).trans h2;rw[fX,go,wH,Dg,du,jp,mC,<-wH,<-Dg];exact h3.less (by omega)
theorem afP{d:Nat}{r:List Tk->aR (List Alt)}(c:∀ts l ts',r ts=.ok (l,ts')->bK ts ts' (dh d l) (iO d l) 1):Fw d (qw r):=by
 intro ts l ts' h;unfold qw at h
 split at h
 ·cases h
 ·rename_i g a h1
  split at h
  ·cases h
  ·rename_i u f h2
   cases h;obtain⟨rfl,b⟩:=yH h2;have h3:=(c _ _ _ h1).trans (bK.pass (ts:=a) (by rw[b];decide));rw[eN]at h3;exact h3.less (by omega)
theorem YM:∀(d:Nat)(ts:List Tk)(l:List Alt)(ts':List Tk),nu d ts=.ok (l,ts')->bK ts ts' (dh (d+1) l) (iO (d+1) l) 1
 |0,ts,l,ts',h=>Xy (d:=0) (fun _ _ _ h=>by cases h) h
 |d+1,ts,l,ts',h=>Xy (afP (YM d)) h
theorem YN{ts ts':List Tk}{x:Rl}(h:iC ts=.ok (x,ts')):bK ts ts' (dh 9 x.alts) (1+iO 9 x.alts) 0:=by
 unfold iC at h
 split at h
 ·cases h
 ·rename_i n i h1
  obtain⟨rfl,rfl,c⟩:=oC h1
  split at h
  ·cases h
  ·rename_i u j h2
   obtain⟨rfl,d⟩:=yH h2
   split at h
   ·cases h
   ·rename_i l f h3
    split at h
    ·cases h
    ·rename_i g k h4
     obtain⟨rfl,b⟩:=yH h4;cases h;have a:=(bK.pass (ts:=ts) (Fv _ c)).trans ((bK.pass (ts:=ts.tail) (by rw[d];decide)).trans ((YM 8 _ _ _ h3).trans (bK.pass (ts:=f) (by rw[b];decide))));rw[eN,go,go]at a;refine bK.less a ?_;show 1+iO 9 l+_<=1+(1+(iO 9 l+1))+_;omega
def JG(rs:List Rl):List It:=rs.flatMap fun r=>dh 9 r.alts
def wV(rs:List Rl):Nat:=(rs.map fun r=>1+iO 9 r.alts).sum
theorem QB:∀(f:Nat)(ts:List Tk)(a x:List Rl)(ts':List Tk),jv f ts a=.ok (x,ts')->∃y,x=a++y/\bK ts ts' (JG y) (wV y) 0
 |0,ts,a,x,ts',h=>by
  cases h;exact⟨[],by simp,bK.refl _⟩
 |f+1,ts,a,x,ts',h=>by
  unfold jv at h
  split at h
  ·cases h
   exact⟨[],by simp,bK.refl _⟩
  ·split at h
   ·cases h
   ·rename_i z b c
    obtain⟨y,e,h2⟩:=QB f b _ x ts' h;exact⟨z::y,by rw[e];simp,(YN c).trans h2⟩
theorem Xz:∀(f:Nat)(ts a x:List Tk)(ts':List Tk),jF f ts a=.ok (x,ts')->∃pre,ts=pre++ts'/\x.length<=a.length+pre.length
 |0,ts,a,x,ts',h=>by cases h;exact⟨[],rfl,zL0⟩
 |f+1,ts,a,x,ts',h=>by
  unfold jF at h
  split at h
  ·rename_i d
   cases h;exact⟨[(hd ts,pl ts)],Ng (by rw[d];decide),by simp⟩
  ·split at h
   ·cases h
   ·rename_i b g h1
    obtain⟨rfl,rfl,c⟩:=oC h1;obtain⟨pre,e,h2⟩:=Xz f _ _ _ _ h;refine⟨(hd ts,pl ts)::pre,?_,by simp at h2|-;omega⟩;rw[fX,<-e];exact Ng (Fv _ c)
def BJ(ls:List Lv):Nat:=(ls.map fun l=>1+l.tokens.length).sum
theorem Qx{b:ByteArray}(h:0<=ja b):b≠aT:=by
 rintro rfl;exact absurd h (by decide)
theorem XB:∀(f:Nat)(ts:List Tk)(a x:List Lv)(ts':List Tk),kZ f ts a=.ok (x,ts')->∃y,x=a++y/\bK ts ts' [] (BJ y) 0
 |0,ts,a,x,ts',h=>by
  cases h;exact⟨[],by simp,bK.refl _⟩
 |f+1,ts,a,x,ts',h=>by
  unfold kZ at h
  split at h
  ·rename_i n
   split at h
   ·cases h
   ·rename_i z g c
    obtain⟨y,e,h2⟩:=XB f g _ x ts' h;refine⟨z::y,by rw[e];simp,?_⟩;unfold lu at c
    split at c
    ·cases c
    ·rename_i b p i
     obtain⟨rfl,rfl,k⟩:=oC i
     split at c
     ·cases c
     ·rename_i l q h3
      cases c;obtain⟨d,o,h4⟩:=Xz _ _ _ _ _ h3;have m:bK ts.tail.tail g [] d.length 0:=⟨d,o,List.nil_sublist _,zL0⟩;have j:=(bK.pass (ts:=ts) (Qx n)).trans ((bK.pass (ts:=ts.tail) (Fv _ k)).trans (m.trans h2));refine bK.less j ?_;simp only[BJ,jp,mC,el,iu]at h4|-;omega
  ·cases h
   exact⟨[],by simp,bK.refl _⟩
theorem aeT{ts ts':List Tk}{g:Gr}(h:jq ts=.ok (g,ts')):bK ts ts' (JG g.rules) (BJ g.levels+wV g.rules) 0:=by
 unfold jq at h
 split at h
 ·cases h
 ·rename_i f d h1
  split at h
  ·cases h
  ·rename_i x i h2
   split at h
   ·cases h
   ·rename_i l j h3
    cases h;obtain⟨y,e,c⟩:=XB _ _ _ _ _ h1;obtain⟨z,b,a⟩:=QB _ _ _ _ _ h3;rw[go]at e;subst e b;exact c.trans ((YN h2).trans a)
theorem YO(s:ByteArray):∀(f i:Nat),i<=s.size->(∀t∈mE s f i,i<=t.2)/\(mE s f i).Pairwise fun a b=>a.2<b.2
 |0,i,hi=>by
  unfold mE;exact⟨fun t c=>by simp at c;subst c;exact zL0,mw _ _⟩
 |f+1,i,hi=>by
  unfold mE
  split
  ·rename_i d
   have g:=Mq d;obtain⟨h1,h2⟩:=YO s f (sW s i) g.2;refine⟨fun t c=>?_,me.2 ⟨fun t c=>?_,h2⟩⟩
   ·rcases ee.1 c with rfl | c
    ·exact zL0
    ·have:=h1 t c;omega
   ·have:=h1 t c
    show i<t.2;omega
  ·exact⟨fun t c=>by simp at c;subst c;exact zL0,mw _ _⟩
theorem ajk(s:ByteArray):(lex s).Pairwise fun a b=>a.2<b.2:=(YO s _ _ (Ml false (eR _)).2).2
theorem QS{s:ByteArray}{g:Gr}(h:parse s=.ok g):BJ g.levels+wV g.rules<=2001/\((JG g.rules).map It.place).Pairwise (·< ·):=by
 unfold parse at h
 split at h
 ·cases h
 ·rename_i k
  split at h
  ·cases h
  ·rename_i j b f
   cases h;obtain⟨a,e,h1,h2⟩:=aeT f;have i:=Mr s (iT s 0 false);have c:=ajk s;have d:yQ s (iT s 0 false)=a++b:=e;rw[d,cH]at i;rw[e]at c;refine⟨by omega,?_⟩;have h3:(a.map Prod.snd).Pairwise (·< ·):=rd.2 (oS.1 c).1;exact h3.sublist h1
def hlp(x:It):Bool:=decide (x.kind=2) || decide (x.mark≠0)
def bB(d:Nat)(l:List Alt):List It:=(dh d l).filter hlp
theorem Ir{α β:Type}(p:β->Bool)(f:α->List β):∀l:List α,(l.flatMap f).filter p=l.flatMap fun a=>(f a).filter p
 | []=>rfl
 |a::l=>by rw[du,jx,Ir p f l,du]
theorem RJ:∀(d:Nat)(l:List Alt),(dh d l).length<=iO d l
 |0,_=>zL0
 |d+1,l=>by
  rw[wH,Dg,pT];have h1:∀its:List It,(qV d its).length<=tq d its:=by
   intro its;unfold qV tq;rw[pT]
   induction its with
   |nil=>exact zL0
   |cons x its ih=>
    rw[jp,jp,mC,mC];have:=RJ d x.alts;simp only[xg,Dw,el]at *;omega
  induction l with
  |nil=>exact zL0
  |cons a l ih=>
   rw[jp,jp,mC,mC];have:=h1 a.1;omega
theorem aav(d:Nat)(l:List Alt):(bB d l).length<=iO d l:=dg (rx _ _) (RJ d l)
def uP(d:Nat)(l:List Alt):List ByteArray:=((dh d l).filter fun x=>decide (x.kind=1)).map It.name
def Tn(d:Nat)(x:It):List ByteArray:=(if x.kind=1 then [x.name] else [])++uP d x.alts
theorem agK(d:Nat)(l:List Alt):uP (d+1) l=l.flatMap fun a=>a.1.flatMap (Tn d):=by
 unfold uP;rw[wH,Ir,th];congr 1;funext a;unfold qV;rw[Ir,th];congr 1;funext x;unfold xg Tn uP;rw[my]
 by_cases h:x.kind=1
 ·simp[h]
 ·simp[h]
theorem ahS(d:Nat)(l:List Alt):(uP d l).length<=iO d l:=by
 unfold uP;rw[dt];exact dg (rx _ _) (RJ d l)
def lq:ByteArray:=⟨#[36]⟩
def NA:ByteArray:=⟨#[36,115,116,97,114,116]⟩
def acY:ByteArray:=⟨#[39]⟩
def jR(l:List ByteArray)(b:ByteArray):List ByteArray:=if 0<=bW l b then l else l++[b]
theorem agL(l:List ByteArray)(b:ByteArray):(jR l b).length<=l.length+1:=by
 unfold jR;split
 ·omega
 ·simp
def gH(l bs:List ByteArray):List ByteArray:=bs.foldl jR l
theorem XZ:∀(bs l:List ByteArray),(gH l bs).length<=l.length+bs.length
 | [],l=>zL0
 |b::bs,l=>by
  have h1:=XZ bs (jR l b);have h2:=agL l b;rw[el];have:gH l (b::bs)=gH (jR l b) bs:=rfl;rw[this];omega
theorem X0(l a b:List ByteArray):gH l (a++b)=gH (gH l a) b:=py
def FY(n:Nat):ByteArray:=⟨(Lib.decDigits n).toArray⟩
def hName(b:ByteArray)(k:Nat):ByteArray:=b++acY++FY k
def jS(r:Rl):List ByteArray:=r.name::(List.range (bB 9 r.alts).length).map fun k=>hName r.name (k+1)
def aD(g:Gr):List ByteArray:=gH [lq] (lV g++g.rules.flatMap fun r=>uP 9 r.alts)
def bI(g:Gr):List ByteArray:=NA::g.rules.flatMap jS
structure Pd where
 left:Nat
 right:List Nat
 prec:Int
def oJ(n:Nat)(r:List Nat):Int:=r.foldl (fun p s=>if s<n then (s:Int) else p) (-1)
def bM(n s:Nat)(r:List Nat):Pd:=⟨s,r,oJ n r⟩
def xq(T N:List ByteArray)(x:It):Nat:=if x.kind=1 then fix T x.name else T.length+fix N x.name
def zY(H:List It)(p:Nat):Nat:=H.findIdx fun x=>decide (x.place=p)
def yS(T N:List ByteArray)(b:Nat)(H:List It)(x:It):Nat:=if hlp x=true then b+1+zY H x.place else xq T N x
def ng(T N:List ByteArray)(b:Nat)(H:List It)(its:List It):List Nat:=its.map (yS T N b H)
def rY(T N:List ByteArray)(b:Nat)(H:List It)(a:Alt):Pd:=⟨b,ng T N b H a.1,if a.2.1=aT then oJ T.length (ng T N b H a.1) else (fix T a.2.1:Int)⟩
def partsOf(T N:List ByteArray)(b:Nat)(H:List It)(x:It):List (List Nat):=if x.kind=2 then x.alts.map fun a=>ng T N b H a.1 else [[xq T N x]]
def nL(n s m:Nat)(ps:List (List Nat)):List Pd:=(if m=42\/m=63 then [bM n s []] else [])++((if m=42 then [] else ps.map (bM n s))++(if m=42\/m=43 then ps.map fun r=>bM n s (s::r) else []))
def oH(T N:List ByteArray)(b:Nat)(H:List It):Nat->List It->List Pd
 |_,[]=>[]
 |k,x::l=>nL T.length (b+1+k) x.mark (partsOf T N b H x)++oH T N b H (k+1) l
def sZ(T N:List ByteArray)(b:Nat)(r:Rl):List Pd:=r.alts.map (rY T N b (bB 9 r.alts))++oH T N b (bB 9 r.alts) 0 (bB 9 r.alts)
def jN(T N:List ByteArray):Nat->List Rl->List Pd
 |_,[]=>[]
 |b,r::rs=>sZ T N b r++jN T N (b+1+(bB 9 r.alts).length) rs
def bJ(g:Gr):List Pd:=⟨(aD g).length,[(aD g).length+1],-1⟩::jN (aD g) (bI g) ((aD g).length+1) g.rules
def bk(t:ByteArray):Nat->List Lv->Nat×Nat->Nat×Nat
 |_,[],r=>r
 |i,l::ls,r=>bk t (i+1) ls (if 0<=bW (l.tokens.map Prod.fst) t then (i+1,l.kind) else r)
def rZ(g:Gr)(t:ByteArray):Nat×Nat:=bk t 0 g.levels (0,0)
end Lx
structure uT(P:Program)(kt:TypeId){κ:Type}(K:κ->Value)(G:World->κ->Prop):Prop where
 inj:∀a b,K a=K b->a=b
 check:∀em w a,(Instr.checkKey em 10000 kt (K a)).run P w=.ok () w
 find:∀w a l,G w a->(∀x∈l,∃c,x.key=K c/\G w c)->((Instr.findKey kt (K a) l).run P w=.ok none w/\∀(x:MapEntry),x∈l->x.key≠K a)\/∃(j:Nat)(e:MapEntry),(Instr.findKey kt (K a) l).run P w=.ok (some (j,e.val)) w/\l[j]?=some e/\e.key=K a
 stays:∀w a,(Instr.keyThatStays (K a) (K a)).run P w=.ok (K a) w
def dm{κ:Type}(K:κ->Value)(G:κ->Prop)(w:World)(B:Nat)(f:κ->Int):Prop :=
 ∃es clock,w.heap[B]?=some (.map es clock)/\(∀(i:Nat)(e:MapEntry),es[i]?=some e->∃a,e.key=K a/\G a/\e.val=.int .i64 (f a))/\(∀(i j:Nat)(e e':MapEntry),es[i]?=some e->es[j]?=some e'->e.key=e'.key->i=j)/\(∀a,f a≠0->∃(i:Nat)(e:MapEntry),es[i]?=some e/\e.key=K a)
section
variable {P:Program} {kt:TypeId} {κ:Type} {K:κ -> Value} {Gw:World -> κ -> Prop} {w:World} {B:Nat} {f:κ -> Int}
theorem dm.lt{G:κ->Prop}(h:dm K G w B f):B<w.heap.size:=by
 obtain⟨b,a,h1,-⟩:=h;exact(dv.1 h1).1
theorem dm.move{G:κ->Prop}{w':World}(h:dm K G w B f)(c:w'.heap[B]?=w.heap[B]?):dm K G w' B f:=by
 obtain⟨b,a,h1,h2⟩:=h;exact⟨b,a,c.trans h1,h2⟩
theorem dm.made(G:κ->Prop)(w:World):dm K G (w.alloc (.map #[] 0)) w.heap.size (fun _=>0) :=
 ⟨#[],0,n7 w _,fun i e h=>by simp at h,fun i j e b h=>by simp at h,fun a h=>absurd rfl h⟩
theorem dm.look(b:uT P kt K Gw){T E:TypeId}(r:P.underlying T=some (.map kt E))(C:∀w,(zeroValue E).run P w=.ok (.int .i64 0) w){G:κ->Prop}(p:∀a,G a->Gw w a)(h:dm K G w B f){a:κ}(v:G a):(Instr.lookup T (.map (some B)) (K a) false).run P w=.ok (.int .i64 (f a)) w:=by
 obtain⟨q,n,h1,h2,h3,h4⟩:=h;have D:∀x∈q.toList,∃c,x.key=K c/\Gw w c:=by
  intro x u;obtain⟨i,k⟩:=eQ.1 u;obtain⟨c,l,y,-⟩:=h2 i x (by rw[<-fW];exact k);exact⟨c,l,p _ y⟩
 rcases b.find w a q.toList (p a v) D with ⟨d,t⟩|⟨j,e,d,s,z⟩
 ·have o:f a=0:=by
   apply jz;intro m;obtain⟨i,e,k,A⟩:=h4 a m;exact t e (eQ.2 ⟨i,by rw[fW];exact k⟩) A
  rw[o];simp[Instr.lookup,fy r,kj h1,b.check,d,C,Result.andThen]
 ·obtain⟨c,l,-,F⟩:=h2 j e (by rw[<-fW];exact s)
  have g:c=a:=b.inj _ _ (l.symm.trans z);subst g;rw[F]at d;simp[Instr.lookup,fy r,kj h1,b.check,d,Result.andThen]
theorem dm.put[DecidableEq κ](hK:uT P kt K Gw){T E:TypeId}(hT:P.underlying T=some (.map kt E)){G:κ->Prop}(hG:∀a,G a->Gw w a)(h:dm K G w B f){a:κ}(ha:G a)(v:Int):∃w',(Instr.mapUpdate T (.map (some B)) (K a) (.int .i64 v)).run P w=.ok () w'/\dm K G w' B (fun c=>if c=a then v else f c)/\w.grownBy w' (some B)/\w'.heap.size=w.heap.size:=by
 obtain⟨p,d,h1,h2,h3,h4⟩:=h;have O:∀x∈p.toList,∃c,x.key=K c/\Gw w c:=by
  intro x R;obtain⟨i,b⟩:=eQ.1 R;obtain⟨c,n,A,-⟩:=h2 i x (by rw[<-fW];exact b);exact⟨c,n,hG _ A⟩
 have r:∀o:Obj,w.grownBy { w with heap:=w.heap.setIfInBounds B o } (some B):=fun o=>⟨rfl,rfl,rfl,by simp,fun k _ z=>(pn h1).2 k (fun e=>z (by rw[e]))⟩
 rcases hK.find w a p.toList (hG a ha) O with ⟨H,D⟩|⟨j,e,H,L,z⟩
 ·refine⟨{ w with heap:=w.heap.setIfInBounds B (.map (p.push { key:=K a,val:=.int .i64 v,born:=d }) (d+1)) },?_,⟨p.push { key:=K a,val:=.int .i64 v,born:=d },d+1,(pn h1).1,?_,?_,?_⟩,r _,by simp⟩
  ·simp[Instr.mapUpdate,fy hT,kj h1,hK.check,H,rt _ h1,Result.andThen]
  ·intro i e b
   rw[pg]at b
   split at b
   ·cases b;exact⟨a,rfl,ha,by simp⟩
   ·obtain⟨c,n,A,J⟩:=h2 i e b
    have u:c≠a:=fun t=>D e (eQ.2 ⟨i,by rw[fW];exact b⟩) (by rw[n,t])
    exact⟨c,n,A,by simp only[dk u];exact J⟩
  ·intro i C e t b g q
   rw[pg]at b g
   split at b <;> split at g
   ·omega
   ·cases b
    exact absurd q.symm (D t (eQ.2 ⟨C,by rw[fW];exact g⟩))
   ·cases g
    exact absurd q (D e (eQ.2 ⟨i,by rw[fW];exact b⟩))
   ·exact h3 i C e t b g q
  ·intro c n
   by_cases hca:c=a
   ·subst hca
    exact⟨p.size,_,by rw[pg,de rfl],rfl⟩
   ·simp only[dk hca]at n
    obtain⟨i,e,b,q⟩:=h4 c n;refine⟨i,e,?_,q⟩;have Q:=(dv.1 b).1;rw[pg,dk (by omega)];exact b
 ·have l:p[j]?=some e:=by rw[<-fW];exact L
  refine⟨{ w with heap:=w.heap.setIfInBounds B (.map (p.modify j fun e=>{ e with key:=K a,val:=.int .i64 v }) d) },?_,⟨p.modify j fun e=>{ e with key:=K a,val:=.int .i64 v },d,(pn h1).1,?_,?_,?_⟩,r _,by simp⟩
  ·simp[Instr.mapUpdate,fy hT,kj h1,hK.check,H,l,z,hK.stays,rt _ h1,Result.andThen]
  ·intro i x b
   rw[nj]at b
   split at b
   ·rename_i m
    subst m;rw[l]at b;cases b;exact⟨a,rfl,ha,by simp⟩
   ·rename_i m
    obtain⟨c,n,A,J⟩:=h2 i x b;have u:c≠a:=fun t=>m (h3 j i e x l b (by rw[z,n,t]))
    exact⟨c,n,A,by simp only[dk u];exact J⟩
  ·intro i C x S b g q
   have s:∀(i:Nat)(x:MapEntry),(p.modify j fun e=>{ e with key:=K a,val:=.int .i64 v })[i]?=some x->∃y,p[i]?=some y/\y.key=x.key:=by
    intro i x b;rw[nj]at b
    split at b
    ·rename_i m
     subst m;rw[l]at b;cases b;exact⟨e,l,z⟩
    ·exact⟨x,b,rfl⟩
   obtain⟨y,U,M⟩:=s i x b;obtain⟨N,I,F⟩:=s C S g;exact h3 i C y N U I (by rw[M,F,q])
  ·intro c n
   by_cases hca:c=a
   ·subst hca
    exact⟨j,_,by rw[nj,de rfl,l];rfl,rfl⟩
   ·simp only[dk hca]at n
    obtain⟨i,x,b,q⟩:=h4 c n;refine⟨i,x,?_,q⟩;have m:j≠i:=fun t=>hca (hK.inj _ _ (by rw[<-q,<-z];subst t;rw[l]at b;cases b;rfl))
    rw[nj,dk m];exact b
end
theorem akO{P:Program}{i:TypeId}(g:P.underlying i=some .string):uT P i Value.string (fun _ _=>True) where
 inj a b h:=by cases h;rfl
 check em w a:=MapKept.run_checkKey (d:=.string) (k:=.string a) g trivial em 9999
 find w a l _ hl:=by
  have f:∀x∈l,MapKept.IsKey .string x.key:=fun x m=>by obtain⟨c,n,-⟩:=hl x m;rw[n];trivial
  rcases MapKept.findNow_spec (d:=.string) (k:=.string a) trivial l 0 f with ⟨h1,h2⟩|⟨j,e,h1,h2,h3⟩
  ·exact .inl ⟨MapKept.run_findKey g h1,h2⟩
  ·rw[fi]at h1
   exact .inr ⟨j,e,MapKept.run_findKey g h1,h2,h3⟩
 stays w a:=MapKept.run_keyThatStays (d:=.string) (k:=.string a) trivial
def SMap(w:World)(B:Nat)(f:ByteArray->Int):Prop:=dm Value.string (fun _=>True) w B f
theorem Tryz.BV:uT prog 9 Value.string (fun _ _=>True):=akO (by kernel_rfl)
theorem Tryz.Ji:prog.underlying 155=some (.map 9 3):=by kernel_rfl
theorem Tryz.FP(w:World):(zeroValue 3).run prog w=.ok (.int .i64 0) w:=by kernel_rfl
theorem SMap.look{w:World}{B:Nat}{f:ByteArray->Int}(h:SMap w B f)(b:ByteArray):(Instr.lookup 155 (.map (some B)) (.string b) false).run prog w=.ok (.int .i64 (f b)) w:=dm.look Tryz.BV Tryz.Ji Tryz.FP (fun _ _=>trivial) h trivial
theorem SMap.put{w:World}{B:Nat}{f:ByteArray->Int}(h:SMap w B f)(b:ByteArray)(v:Int):∃w',(Instr.mapUpdate 155 (.map (some B)) (.string b) (.int .i64 v)).run prog w=.ok () w'/\SMap w' B (fun c=>if c=b then v else f c)/\w.grownBy w' (some B)/\w'.heap.size=w.heap.size:=dm.put Tryz.BV Tryz.Ji (fun _ _=>trivial) h trivial v
def tV(x:Lx.Wd):List Value:=[.int .i64 (x.1:Int),.string x.2.1,.int .i64 (x.2.2:Int)]
def WR(w:World)(v:Value)(ws:List Lx.Wd):Prop:=w.ownsRow 0 190 3 v ws.length (ws.flatMap tV)
theorem WR.len{w:World}{v:Value}{ws:List Lx.Wd}(h:WR w v ws):∃a c,v=.slice a ws.length c/\ws.length<=maxLen:=aB h
theorem ab9:∀(ws:List Lx.Wd)(j i:Nat)(x:Lx.Wd),ws[j]?=some x->i<3->(ws.flatMap tV)[j*3+i]?=(tV x)[i]?
 | [],_,_,_,h,_=>by simp at h
 |p::ps,0,i,x,h,hi=>by
  simp at h;subst h;rw[du,sq,fi,eC (by simp[tV];exact hi)]
 |p::ps,j+1,i,x,h,hi=>by
  have a:ps[j]?=some x:=by simpa using h
  rw[du,eJ (by simp[tV,mN];omega),show (tV p).length=3 from rfl,show (j+1)*3+i-3=j*3+i by omega];exact ab9 ps j i x a hi
theorem WR.at{w:World}{v:Value}{ws:List Lx.Wd}(h:WR w v ws){j:Nat}(d:j<ws.length):∃g cap,v=.slice (some ⟨g,0,none⟩) ws.length cap/\g<w.heap.size/\w.cell? ⟨g,j*3,none⟩=some (.int .i64 (ws[j].1:Int))/\w.cell? ⟨g,j*3+1,none⟩=some (.string ws[j].2.1)/\w.cell? ⟨g,j*3+2,none⟩=some (.int .i64 (ws[j].2.2:Int)):=by
 unfold WR at h;obtain⟨g,cap,rfl,-,-⟩:=h.form (by omega);have b:ws[j]?=some ws[j]:=cF d;have a:∀i,i<3->w.cell? ⟨g,j*3+i,none⟩=(tV ws[j])[i]?:=fun i c=>by
  rw[h.cellAt (j*3+i) (by omega),ab9 ws j i _ b c]
 exact⟨g,cap,rfl,(h.lt g rfl).2,a 0 (by decide),a 1 (by decide),a 2 (by decide)⟩
theorem WR.move{w w':World}{v:Value}{ws:List Lx.Wd}(h:WR w v ws)(a:∀g,v.ownBlock=some g->w'.heap[g]?=w.heap[g]?):WR w' v ws:=aC h a
theorem WR.below{w w':World}{v:Value}{ws:List Lx.Wd}(h:WR w v ws)(b:Below w.heap.size w w'):WR w' v ws:=aC h fun g a=>b.block g (h.lt g a).2
def xM:Option Nat->Int
 |none=>-1
 |some p=>p
namespace Lx
def BK(s:List ByteArray)(b:ByteArray):Int:=if iI b s=true then 1 else 0
theorem XC{x:Wd}{ws:List Wd}(h:¬(x.1=0\/x.1=1)):told (x::ws)=told ws:=by unfold told;rw[my,dk (by simpa using h)]
theorem ZC{x:Wd}{ws:List Wd}(h:x.1=0\/x.1=1):told (x::ws)=x::told ws:=by unfold told;rw[my,de (by simpa using h)]
theorem ahT(s:List ByteArray)(b:ByteArray):(fun c=>if c=b then (1:Int) else BK s c)=BK (b::s):=by
 funext c;unfold BK iI
 by_cases h:c=b
 ·subst h;simp
 ·rw[dk h]
  have:decide (b=c)=false:=by simpa using fun e=>h e.symm
  rw[List.any_cons,this,Bool.false_or]
end Lx
theorem agM{w:World}{v:Value}{ws:List Lx.Wd}(h:WR w v ws):
  Calls prog 76 #[v] w fun e w'=>e=.returned (.int .i64 (xM (jb [] (Lx.told ws))))/\Below w.heap.size w w':=by
 obtain⟨a,c,rfl,hm⟩:=h.len;unfold maxLen at hm;have P:=@r7 prog;go_enter func76,ntmps76;go_wp2_with fail;clear P;obtain⟨W,G⟩:∃W,W=w.alloc (.map #[] 0):=⟨_,rfl⟩;rw[<-G];have V:W.heap.size=w.heap.size+1:=by rw[G];simp
 have T:Below w.heap.size w W:=by rw[G];exact(cV _ _).alloc (zL0) _
 have C:SMap W w.heap.size (BK []):=by rw[G];exact dm.made _ w
 clear G;have R:Hid (jb [] (Lx.told ws)=jb [] (Lx.told (ws.drop 0))):=rfl
 go_loopg [9] ws.length (fun k i wr=>∃(j:Nat)(s:List ByteArray),j+k=ws.length/\i=.int .i64 j/\Below w.heap.size w wr/\SMap wr w.heap.size (BK s)/\Hid (jb [] (Lx.told ws)=jb s (Lx.told (ws.drop j))))
 case atStart=>exact⟨0,[],by omega,rfl,T,C,R⟩
 case round=>
  clear R C;obtain⟨j,s,J,rfl,A,C,E⟩:=hrel;have L:=C.lt
  by_cases hlt:j<ws.length
  ·have M:WR wr _ ws:=h.below A
   obtain⟨g,X,hv,lg,S,c1,Z⟩:=M.at hlt;cases hv;have hd:=E.out;rw[eL hlt]at hd;have Y:g<w.heap.size:=(h.lt g rfl).2;generalize ws[j]=x at S c1 Z hd;obtain⟨l,n,q⟩:=x;obtain⟨z,d⟩:∃z,z=wr.alloc (.cells #[.int .i64 (l:Int),.string n,.int .i64 (q:Int)] 190):=⟨_,rfl⟩;have y:Below wr.heap.size wr z:=by rw[d];exact(cV _ _).alloc (zL0) _
   have F:z.heap.size=wr.heap.size+1:=by rw[d];simp
   have Q:aj z wr.heap.size #[.int .i64 (l:Int),.string n,.int .i64 (q:Int)] 190:=by rw[d];exact aj.new wr _ 190
   have p:SMap z w.heap.size (BK s):=C.move (y.block _ L);have O:Below w.heap.size w z:=A.trans (y.mono (by omega))
   by_cases b:l=0\/l=1
   ·rw[ZC b,jb]at hd
    have t:=p.look n;have u:∀{w2:World},z.grownBy w2 (some w.heap.size)->aj w2 wr.heap.size #[.int .i64 (l:Int),.string n,.int .i64 (q:Int)] 190:=fun U=>Q.grown U (fun e=>by have:=gh e;omega)
    cases hmb:iI n s with
    |true=>
     rw[de hmb]at hd;have m:Hid (jb [] (Lx.told ws)=some q):=hd;rw[show BK s n=1 from de hmb]at t;obtain⟨w2,K,o,f,N⟩:=p.put n 2;have B:=o.look n;rw[de rfl]at B;have I:=u f;have x1:w2.cell? ⟨wr.heap.size,1,none⟩=some (.string n):=I.cell 1;have x2:w2.cell? ⟨wr.heap.size,2,none⟩=some (.int .i64 (q:Int)):=I.cell 2;have D:Below w.heap.size w w2:=O.grown f (by omega) (fun k J=>by cases J;exact zL0);rw[d]at t K;clear hd E hmb p o C u Q y F d f;rcases b with b|b
     have r:((l:Int) != 0)=false:=by simp[b]
     clear b
     rotate_left
     have r:((l:Int) != 0)=true:=j8.2 (by omega);have H:((l:Int) != 1)=false:=by simp[b]
     clear b
     all_goals
      go_wp2_with fail;go_ret;exact⟨by rw[m.out];rfl,D⟩
    |false=>
     rw[dk (by rw[hmb];decide)]at hd;have m:Hid (jb [] (Lx.told ws)=jb (n::s) (Lx.told (ws.drop (j+1)))):=hd;rw[show BK s n=0 from dk (by rw[hmb];decide)]at t;obtain⟨w2,K,o,f,N⟩:=p.put n 1;have B:=o.look n;rw[de rfl]at B;rw[ahT]at o;have I:=u f;have x1:w2.cell? ⟨wr.heap.size,1,none⟩=some (.string n):=I.cell 1;have D:Below w.heap.size w w2:=O.grown f (by omega) (fun k J=>by cases J;exact zL0);rw[d]at t K;clear hd E hmb p C u Q y F d f;rcases b with b|b
     have r:((l:Int) != 0)=false:=by simp[b]
     clear b
     rotate_left
     have r:((l:Int) != 0)=true:=j8.2 (by omega);have H:((l:Int) != 1)=false:=by simp[b]
     clear b
     all_goals
      go_wp2_with fail;go_roundg (ws.length - (j+1))
      case measure=>omega
      case rel=>exact⟨j+1,n::s,by omega,by go_num,D,o,m⟩
   ·rw[XC b]at hd
    have m:Hid _:=hd;have r:((l:Int) != 0)=true:=j8.2 (by omega);have H:((l:Int) != 1)=true:=j8.2 (by omega);have aa:¬(l:Int)=0:=by omega
    have ab:¬(l:Int)=1:=by omega
    clear hd E b;go_wp2_with fail;rw[<-d];go_roundg (ws.length - (j+1))
    case measure=>omega
    case rel=>exact⟨j+1,s,by omega,by go_num,O,p,m⟩
  ·have:j=ws.length:=by omega
   subst this;have hd:=E.out;rw[g8]at hd;have m:Hid (jb [] (Lx.told ws)=none):=hd;clear hd E;go_wp2_with fail;go_ret;exact⟨by rw[m.out];rfl,A⟩
end Go.Proofs.YtagkodkijkpemaaGreatDoor
