import Derived.Test.YtlcppnabbicmoaaGreatDoorME27
set_option maxHeartbeats 8000000
set_option maxRecDepth 1000000
namespace Go.Proofs.YtlcppnabbicmoaaGreatDoor
open Go.RowKit
open Lx (Tk)
open Tr
theorem Tryz.info137:(Tryz.prog.info? 137).map (fun i=>(i.zero,i.size,i.bytes))=some (some (.agg #[.int .i64 0,.slice none 0 0,.slice none 0 0]),3,56):=by kernel_rfl
theorem Tryz.info99:(Tryz.prog.info? 99).map (fun i=>(i.zero,i.size,i.bytes))=some (some (.agg #[.string ⟨#[]⟩,.slice none 0 0,.int .i64 0]),3,48):=by kernel_rfl
theorem LRows.klv {lo:Nat}{w:World}{sgx vT vA:Value}{lv:Lx.Lv}(h:LRows lo w sgx vT vA lv.tokens):KLv (Fp lo sgx w) w (.agg #[vT,vA]) lv :=
 ⟨vT,vA,rfl,own_le h.1 (Nat.zero_le _),own_le h.2.1 (Nat.zero_le _),fun g hg=>⟨(h.1.lt g hg).1,(h.1.lt g hg).2,h.2.2.2.1 g hg⟩,fun g hg=>⟨(h.2.1.lt g hg).1,(h.2.1.lt g hg).2,h.2.2.2.2 g hg⟩⟩
def RGramIn (lo:Nat)(sgx:Value)(w:World)(vL vR:Value)(g:Lx.Gr):Prop :=
 Tr.Seq (Fp lo sgx w) w 137 3 cLv (KLv (Fp lo sgx w) w) vL g.levels/\Tr.Seq (Fp lo sgx w) w 99 3 cRl (KRl (Fp lo sgx w) w) vR g.rules
theorem RGrowBy.apart {α:Type}{B:Nat}{sgx:Value}{w w':World}{e s:Nat}{c:Value × α->List Value}{K:(Nat->Prop)->World->Value->α->Prop}{v:Value}{l:List α}{ps:List (Value × α)}{F:Nat->Prop}(hm:Movable K)(h:RGrowBy B sgx w e s c K v l ps F){r:Option Nat}(hg:w.grownBy w' r)(hr:∀ k,r=some k->¬ F k/\v.ownBlock≠some k):RGrowBy B sgx w' e s c K v l ps F:=by
 obtain⟨⟨h1,h2,h3,h4,h5⟩,h6⟩:=h;have e1:∀ b,F b->w'.heap[b]?=w.heap[b]?:=fun b hb=>hg.block b (h4 b hb).2 (fun e=>(hr b e.symm).1 hb)
 exact⟨⟨h1,own_move h2 fun g hv=>hg.block g (h2.lt g hv).2 (fun e=>(hr g e.symm).2 hv),fun q hq=>hm F F w w' _ _ e1 (fun _ h=>h) (h3 q hq),fun b hb=>⟨(h4 b hb).1,Nat.lt_of_lt_of_le (h4 b hb).2 hg.size⟩,h5⟩,h6⟩
theorem fail_blk {s:ByteArray} {q:Nat} {w:World} {nest:Int} {sgv:Value} {sg:List ByteArray} {i:Nat} {W:ByteArray} (kq:Blk w q (rblk s i W nest 0 0 sgv) 89) (ho:w.ownsRow 0 9 1 sgv sg.length (sg.map Value.string)) (hne:sgv.ownBlock≠some q) (n a:Nat) (hn:0<n) :
  Calls Tryz.prog 75 #[.pointer (some ⟨q,0,none⟩),.int .i64 (n:Int),.int .i64 (a:Int)] w fun e w'=>e=.returned (.tuple #[])/\Mv q sgv w w'/\RX s q w' nest n a sgv sg:=by
 have c4:w.cell? ⟨q,4,none⟩=some (.int .i64 0):=kq.cell 4;have c5:w.cell? ⟨q,5,none⟩=some (.int .i64 0):=kq.cell 5;have fq:∀ j,w.frozen? ⟨q,j,none⟩=false:=kq.frozen;go_enter Tryz.func75,Tryz.ntmps75
 go_wp2
 go_end0
 refine⟨rfl,((Mv.refl _ _ _).set 4 _).set 5 _,⟨⟨_,_,(kq.set 4 _).set 5 _⟩,?_,hne,hn⟩⟩;refine own_move ho fun g hg=>?_
 have hgq:g≠q:=fun e=>hne (by rw[hg,e])
 rw[Below.heap_setCell _ _ _ _ hgq,Below.heap_setCell _ _ _ _ hgq]
def rread (s:ByteArray):Lx.Res Lx.Gr:=if 2000<s.size then .error (1,0) else Lx.pGrammar (Lx.lex s)
def RVGram (lo q:Nat)(sgx:Value)(w':World)(v:Value)(g:Lx.Gr):Prop:=∃ vL vR,v=.tuple #[.agg #[vL,vR],.pointer (some ⟨q,0,none⟩)]/\RGramIn lo sgx w' vL vR g
def XGram (q:Nat)(v:Value):Prop:=∃ a k c a' k' c',v=.tuple #[.agg #[.slice a k c,.slice a' k' c'],.pointer (some ⟨q,0,none⟩)]
def RC (ts:List Tk)(lv:List Lx.Lv)(ts1 tsr:List Tk)(acc:List Lx.Rl):Prop:=(acc=[]/\tsr=ts1/\Lx.pGrammar ts=Lx.afterLv lv ts1)∨(acc≠[]/\∃ f,tsr.length<=f/\Lx.pGrammar ts=Lx.rulesOf lv (Lx.pRules f tsr acc))
theorem RC.err {ts ts1 tsr:List Tk}{lv:List Lx.Lv}{acc:List Lx.Rl}{e:Nat × Nat}(h:RC ts lv ts1 tsr acc)(hne:0<tsr.length)(hs:acc=[]∨¬ Lx.hd tsr=Lx.noText)(he:Lx.pRule tsr=.error e):Lx.pGrammar ts=.error e:=by
 rcases h with ⟨rfl,rfl,h⟩ | ⟨h0,f,hf,h⟩
 ·rw[h];unfold Lx.afterLv;rw[he]
 ·obtain⟨f',rfl⟩:∃ f',f=f'+1:=⟨f-1,by omega⟩
  rw[h,Lx.pRules,if_neg (hs.resolve_left h0),he];rfl
theorem RC.ok {ts ts1 tsr ts2:List Tk}{lv:List Lx.Lv}{acc:List Lx.Rl}{x:Lx.Rl}(h:RC ts lv ts1 tsr acc)(hl:ts2.length+1<=tsr.length)(hs:acc=[]∨¬ Lx.hd tsr=Lx.noText)(he:Lx.pRule tsr=.ok (x,ts2)):RC ts lv ts1 ts2 (acc++[x]):=by
 refine .inr ⟨by simp,?_⟩;rcases h with ⟨rfl,rfl,h⟩ | ⟨h0,f,hf,h⟩
 ·exact⟨ts2.length,Nat.le_refl _,by rw[h];unfold Lx.afterLv;rw[he];rfl⟩
 ·obtain⟨f',rfl⟩:∃ f',f=f'+1:=⟨f-1,by omega⟩
  exact⟨f',by omega,by rw[h,Lx.pRules,if_neg (hs.resolve_left h0),he]⟩
theorem RC.done {ts ts1 tsr:List Tk}{lv:List Lx.Lv}{acc:List Lx.Rl}(h:RC ts lv ts1 tsr acc)(hne:0<tsr.length)(h0:acc≠[])(hs:Lx.hd tsr=Lx.noText):Lx.pGrammar ts=.ok (⟨lv,acc⟩,tsr):=by
 rcases h with ⟨h1,_⟩ | ⟨_,f,hf,h⟩
 ·exact absurd h1 h0
 ·obtain⟨f',rfl⟩:∃ f',f=f'+1:=⟨f-1,by omega⟩
  rw[h,Lx.pRules,if_pos hs];rfl
theorem first_rr {s:ByteArray} {q:Nat} {w:World} (hs:s.size<=2000) (kq:Blk w q (rblk s 0 ⟨#[]⟩ 0 0 0 (.slice none 0 0)) 89) :
  Calls Tryz.prog 76 #[.pointer (some ⟨q,0,none⟩)] w fun e w'=>e=.returned (.tuple #[])/\∃ sgx,Mv q (.slice none 0 0) w w'/\Nx (.slice none 0 0) w sgx/\RR s q w' (Lx.lex s) 0 sgx []:=by
 refine (next_all s q 0 (Lx.gapEnd s 0 false) 0 0 0 (.slice none 0 0) 0 [] w hs (Nat.zero_le _) kq (World.ownsRow_nil _ _ _ _) (by simp[Value.ownBlock]) rfl).mono ?_;rintro e w' ⟨rfl,sgx,st,kq'⟩;have hb:=Lx.gapEnd_bd (s:=s) (i:=0) false (Nat.zero_le _);have hpl:Lx.pl (Lx.lex s)=Lx.gapEnd s 0 false:=Lx.pl_lexAt hb.2;refine⟨rfl,sgx,st.mv,st.nx,⟨?_,?_,st.ne,?_,by rw[hpl];exact hb.2,hs,by simp⟩⟩
 ·rw[hpl,show Lx.refW (Lx.hd (Lx.lex s))=Lx.refSign s (Lx.gapEnd s 0 false) from (Lx.refSign_eq hb.2).symm];exact kq'
 ·exact st.own
 ·rw[hpl];rfl
theorem rread_long (s:ByteArray) (w:World) (h:2000<s.size) :
  Calls Tryz.prog 36 #[.string s] w (REnds s (w.heap.size+1) 0 (RVGram w.heap.size (w.heap.size+1)) (XGram (w.heap.size+1)) w (.slice none 0 0) (rread s)):=by
 have HE:Hid (rread s=.error (1,0)):=if_pos h;have hl:decide ((2000:Int)<(s.size:Int))=true:=decide_eq_true (by omega);have kB:=((Blk.new w #[.slice none 0 0,.slice none 0 0] 49).alloc (.cells #[.string s,.int .i64 0,.string ⟨#[]⟩,.int .i64 0,.int .i64 0,.int .i64 0,.slice none 0 0] 89)).alloc (.cells #[.slice none 0 0,.slice none 0 0] 49);have kq:=(Blk.new (w.alloc (.cells #[.slice none 0 0,.slice none 0 0] 49)) #[.string s,.int .i64 0,.string ⟨#[]⟩,.int .i64 0,.int .i64 0,.int .i64 0,.slice none 0 0] 89).alloc (.cells #[.slice none 0 0,.slice none 0 0] 49);have kG:=Blk.new ((w.alloc (.cells #[.slice none 0 0,.slice none 0 0] 49)).alloc (.cells #[.string s,.int .i64 0,.string ⟨#[]⟩,.int .i64 0,.int .i64 0,.int .i64 0,.slice none 0 0] 89)) #[.slice none 0 0,.slice none 0 0] 49;rw[show (w.alloc (.cells #[.slice none 0 0,.slice none 0 0] 49)).heap.size=w.heap.size+1 by simp]at kq;rw[show ((w.alloc (.cells #[.slice none 0 0,.slice none 0 0] 49)).alloc (.cells #[.string s,.int .i64 0,.string ⟨#[]⟩,.int .i64 0,.int .i64 0,.int .i64 0,.slice none 0 0] 89)).heap.size=w.heap.size+2 by simp]at kG;have M0:=(((Mv.refl (w.heap.size+1) (.slice none 0 0) w).alloc (.cells #[.slice none 0 0,.slice none 0 0] 49)).alloc (.cells #[.string s,.int .i64 0,.string ⟨#[]⟩,.int .i64 0,.int .i64 0,.int .i64 0,.slice none 0 0] 89)).alloc (.cells #[.slice none 0 0,.slice none 0 0] 49);clear h;go_enter Tryz.func36,Tryz.ntmps36;go_wp2_with fail;refine (fail_blk (sg:=[]) (W:=⟨#[]⟩) (i:=0) kq (World.ownsRow_nil _ _ _ _) (by simp[Value.ownBlock]) 1 0 (by decide)).mono ?_
 rintro e w1 ⟨rfl,m1,hx1⟩;have kB1:=kB.mv m1 (by omega) (by simp[Value.ownBlock]);have kG1:=kG.mv m1 (by omega) (by simp[Value.ownBlock]);have e0:w1.cell? ⟨w.heap.size,0,none⟩=some (.slice none 0 0):=kB1.cell 0;have e1:w1.cell? ⟨w.heap.size,1,none⟩=some (.slice none 0 0):=kB1.cell 1;have d0:w1.cell? ⟨w.heap.size+1+1,0,none⟩=some (.slice none 0 0):=kG1.cell 0;have d1:w1.cell? ⟨w.heap.size+1+1,1,none⟩=some (.slice none 0 0):=kG1.cell 1;have ff:∀ i,w1.frozen? ⟨w.heap.size,i,none⟩=false:=kB1.frozen;have M1:=M0.trans (Nx.refl _ _) m1;go_wp2_with fail;refine bodyPost_ret (v:=.tuple #[.agg #[.slice none 0 0,.slice none 0 0],.pointer (some ⟨w.heap.size+1,0,none⟩)]) (by simp[results,Tryz.results36,go_sem,e0,e1]) rfl ?_;exact REnds.no HE.out ((M1.new (Nat.le_refl _) _ _).new (Nat.le_refl _) _ _) (Nx.refl _ _) ((hx1.other _ _ (by omega) (by simp[Value.ownBlock])).other _ _ (by omega) (by simp[Value.ownBlock])) ⟨_,_,_,_,_,_,rfl⟩
end Go.Proofs.YtlcppnabbicmoaaGreatDoor
