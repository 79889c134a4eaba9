import Derived.Test.YtlcppnabbicmoaaGreatDoorME42
import Derived.Deep.RegionWith
import Derived.Deep.CutRange
set_option maxHeartbeats 8000000
set_option maxRecDepth 1000000
namespace Go.Proofs.YtlcppnabbicmoaaGreatDoor
open Go.RowKit
open Tr
theorem Lx.lvToks_flat (g:Lx.Gr):Lx.levelToks g=g.levels.flatMap fun lv=>lv.tokens.map Prod.fst:=by
 unfold Lx.levelToks Lx.textsOf Lx.levelWords;rw[List.map_flatMap];congr 1;funext lv;rw[List.map_map];rfl
theorem Ph1.pushN {X:Nat->Prop} {mb:Nat} {w w1 w3:World} {T N:List ByteArray} {vT vN:Value} {b:ByteArray} {g2 cap2:Nat} (h0:∀ g,X g->g<w.heap.size) (h1:Blk w mb #[vT,vN,.slice none 0 0,.slice none 0 0,.slice none 0 0,.slice none 0 0,.slice none 0 0] 135) (h2:w.ownsRow 0 9 1 vT T.length (T.map Value.string)) (_h3:w.ownsRow 0 9 1 vN N.length (N.map Value.string)) (h4:X mb) (h5:∀ g,vT.ownBlock=some g->X g) (h6:∀ g,vN.ownBlock=some g->X g) (h7:vT.ownBlock≠some mb) (h8:vN.ownBlock≠some mb) (h9:vT.ownBlock=none∨vT.ownBlock≠vN.ownBlock)
  (hb:Below w.heap.size w w1) (ho:w3.ownsRow 0 9 1 (.slice (some ⟨g2,0,none⟩) (N.length+1) cap2) (N.length+1) (N.map Value.string++[.string b])) (hg:w1.grownBy w3 vN.ownBlock) (hat:vN.ownBlock=some g2∨w.heap.size<=g2) (hlt:g2<w3.heap.size) :
  Ph1 (fun g=>X g∨(w.heap.size<=g/\g<w3.heap.size)) (w3.setCell ⟨mb,1,none⟩ (.slice (some ⟨g2,0,none⟩) (N.length+1) cap2)) mb T (N++[b])/\Fr X w (fun g=>X g∨(w.heap.size<=g/\g<w3.heap.size)) (w3.setCell ⟨mb,1,none⟩ (.slice (some ⟨g2,0,none⟩) (N.length+1) cap2)):=by
 have lmb:=h1.lt;have hs1:=hb.size;have hs3:=hg.size;have hse:(w3.setCell ⟨mb,1,none⟩ (.slice (some ⟨g2,0,none⟩) (N.length+1) cap2)).heap.size=w3.heap.size:=by simp[World.setCell]
 have hgm:g2≠mb:=by
  rcases hat with h | h
  ·exact fun e=>h8 (e ▸ h)
  ·omega
 have bk:∀ g,g<w.heap.size->g≠mb->vN.ownBlock≠some g->(w3.setCell ⟨mb,1,none⟩ (.slice (some ⟨g2,0,none⟩) (N.length+1) cap2)).heap[g]?=w.heap[g]?:=by
  intro g hg1 hm hn;rw[Below.heap_setCell _ _ _ _ hm,hg.block g (by omega) (fun e=>hn e.symm),hb.block g hg1]
 have k3:Blk w3 mb #[vT,vN,.slice none 0 0,.slice none 0 0,.slice none 0 0,.slice none 0 0,.slice none 0 0] 135:=by
  unfold Blk at h1 ⊢;rw[hg.block mb (by omega) (fun e=>h8 e.symm),hb.block mb lmb];exact h1
 refine⟨⟨fun g hx=>?_,vT,_,k3.set 1 _,own_move h2 fun g hx=>?_,?_,.inl h4,fun g hx=>.inl (h5 g hx),fun g hx=>?_,h7,?_,?_⟩,?_⟩
 ·rw[hse]
  rcases hx with h | h
  ·have:=h0 g h;omega
  ·exact h.2
 ·refine bk g (h2.lt g hx).2 (fun e=>h7 (e ▸ hx)) fun e=>?_
  rcases h9 with h | h
  ·rw[h]at hx;cases hx
  ·exact h (hx.trans e.symm)
 ·have:=own_move (w':=w3.setCell ⟨mb,1,none⟩ (.slice (some ⟨g2,0,none⟩) (N.length+1) cap2)) ho (fun g hx=>Below.heap_setCell _ _ _ _ (fun e=>hgm (by have e':g=mb:=e;have e'':g2=g:=(by simpa [Value.ownBlock]using hx);omega)))
  rw[List.length_append,List.map_append];exact this
 ·have e'':g2=g:=by simpa [Value.ownBlock]using hx
  subst e'';rcases hat with h | h
  ·exact .inl (h6 _ h)
  ·exact .inr ⟨h,hlt⟩
 ·intro e
  have:g2=mb:=by simpa [Value.ownBlock]using e
  exact hgm this
 ·right
  intro e;have e2:vT.ownBlock=some g2:=e;rcases hat with h | h
  ·rcases h9 with h' | h'
   ·rw[h']at e2;cases e2
   ·exact h' (e2.trans h.symm)
  ·have:=(h2.lt g2 e2).2;omega
 ·refine⟨hg.os.trans hb.os,hg.tape.trans hb.tape,hg.output.trans hb.output,by rw[hse];omega,fun g hg1 hx=>bk g hg1 (fun e=>hx (e ▸ h4)) (fun e=>hx (h6 g e)),fun g hx=>hx.imp_right And.left⟩
theorem docOf_any {F:Nat->Prop} {w:World} {vL vR:Value} {g:Lx.Gr} (h:DG F w vL vR g) (hf:Lx.Fit g) :
  Calls Tryz.prog 29 #[.agg #[vL,vR]] w fun e w'=>∃ v,e=.returned v/\PlInB w.heap.size w' v (Lx.tokG g) (Lx.namG g) (Lx.prodG g) ((Lx.tokG g).map fun t=>(Lx.bkOf g t).1) ((Lx.tokG g).map fun t=>(Lx.bkOf g t).2)/\Below w.heap.size w w':=by
 obtain⟨a,c,rfl,hmr⟩:=h.lenR;obtain⟨a',c',rfl,hml⟩:=h.lenL;unfold maxLen at hmr hml;obtain⟨i9,hi9,hz90,hz91,hz92⟩:=info_parts Tryz.info9;go_enter Tryz.func29,Tryz.ntmps29;go_wp2_with fail;obtain⟨mb,hmb⟩:∃ mb,w.heap.size+1+1=mb:=⟨_,rfl⟩;obtain⟨W,hW⟩:∃ W,W=((((w.alloc (.cells #[.slice a' g.levels.length c',.slice a g.rules.length c] 49)).alloc (.cells #[.slice none 0 0,.slice none 0 0,.slice none 0 0,.slice none 0 0,.slice none 0 0] 32)).alloc (.cells #[.slice (some ⟨w.heap.size+1+1+1,0,none⟩) 1 1,.slice (some ⟨w.heap.size+1+1+1+1,0,none⟩) 1 1,.slice none 0 0,.slice none 0 0,.slice none 0 0,.slice none 0 0,.slice none 0 0] 135)).alloc (.cells #[.string ⟨#[36]⟩] 9)).alloc (.cells #[.string ⟨#[36,115,116,97,114,116]⟩] 9):=⟨_,rfl⟩;rw[<-hW,hmb];have hWs:W.heap.size=w.heap.size+5:=by rw[hW];simp
 have hB:Below w.heap.size w W:=by rw[hW];exact (((((Below.refl _ _).alloc (Nat.le_refl _) _).alloc (by simp) _).alloc (by simp;omega) _).alloc (by simp;omega) _).alloc (by simp;omega) _
 have kG:Blk W w.heap.size #[.slice a' g.levels.length c',.slice a g.rules.length c] 49:=by rw[hW];exact (((((Blk.new w _ 49).alloc _).alloc _).alloc _).alloc _)
 have kR:Blk W (w.heap.size+1) #[.slice none 0 0,.slice none 0 0,.slice none 0 0,.slice none 0 0,.slice none 0 0] 32:=by rw[hW];simpa using (((Blk.new (w.alloc (.cells #[.slice a' g.levels.length c',.slice a g.rules.length c] 49)) #[.slice none 0 0,.slice none 0 0,.slice none 0 0,.slice none 0 0,.slice none 0 0] 32).alloc _).alloc _).alloc _
 have kM:Blk W mb #[.slice (some ⟨w.heap.size+1+1+1,0,none⟩) 1 1,.slice (some ⟨w.heap.size+1+1+1+1,0,none⟩) 1 1,.slice none 0 0,.slice none 0 0,.slice none 0 0,.slice none 0 0,.slice none 0 0] 135:=by
  rw[hW,<-hmb];have:=((Blk.new ((w.alloc (.cells #[.slice a' g.levels.length c',.slice a g.rules.length c] 49)).alloc (.cells #[.slice none 0 0,.slice none 0 0,.slice none 0 0,.slice none 0 0,.slice none 0 0] 32)) #[.slice (some ⟨w.heap.size+1+1+1,0,none⟩) 1 1,.slice (some ⟨w.heap.size+1+1+1+1,0,none⟩) 1 1,.slice none 0 0,.slice none 0 0,.slice none 0 0,.slice none 0 0,.slice none 0 0] 135).alloc (.cells #[.string ⟨#[36]⟩] 9)).alloc (.cells #[.string ⟨#[36,115,116,97,114,116]⟩] 9);simpa using this
 have kT:Blk W (w.heap.size+1+1+1) #[.string ⟨#[36]⟩] 9:=by
  rw[hW];have:=(Blk.new (((w.alloc (.cells #[.slice a' g.levels.length c',.slice a g.rules.length c] 49)).alloc (.cells #[.slice none 0 0,.slice none 0 0,.slice none 0 0,.slice none 0 0,.slice none 0 0] 32)).alloc (.cells #[.slice (some ⟨w.heap.size+1+1+1,0,none⟩) 1 1,.slice (some ⟨w.heap.size+1+1+1+1,0,none⟩) 1 1,.slice none 0 0,.slice none 0 0,.slice none 0 0,.slice none 0 0,.slice none 0 0] 135)) #[.string ⟨#[36]⟩] 9).alloc (.cells #[.string ⟨#[36,115,116,97,114,116]⟩] 9);simpa using this
 have kN:Blk W (w.heap.size+1+1+1+1) #[.string ⟨#[36,115,116,97,114,116]⟩] 9:=by
  rw[hW];have:=Blk.new ((((w.alloc (.cells #[.slice a' g.levels.length c',.slice a g.rules.length c] 49)).alloc (.cells #[.slice none 0 0,.slice none 0 0,.slice none 0 0,.slice none 0 0,.slice none 0 0] 32)).alloc (.cells #[.slice (some ⟨w.heap.size+1+1+1,0,none⟩) 1 1,.slice (some ⟨w.heap.size+1+1+1+1,0,none⟩) 1 1,.slice none 0 0,.slice none 0 0,.slice none 0 0,.slice none 0 0,.slice none 0 0] 135)).alloc (.cells #[.string ⟨#[36]⟩] 9)) #[.string ⟨#[36,115,116,97,114,116]⟩] 9;simpa using this
 have hP0:Ph1 (fun g=>mb<=g/\g<W.heap.size) W mb [Lx.tDollar] [Lx.tStart] :=
  ⟨fun g hg=>hg.2,_,_,kM,⟨rfl,.inr ⟨_,1,_,rfl,Nat.zero_le _,kT,Nat.le_refl _,by decide,rfl,rfl⟩⟩,⟨rfl,.inr ⟨_,1,_,rfl,Nat.zero_le _,kN,Nat.le_refl _,by decide,rfl,rfl⟩⟩,⟨Nat.le_refl _,by omega⟩,fun g hg=>by have:w.heap.size+1+1+1=g:=(Option.some.inj hg);omega,fun g hg=>by have:w.heap.size+1+1+1+1=g:=(Option.some.inj hg);omega,fun e=>by have:w.heap.size+1+1+1=mb:=(Option.some.inj e);omega,fun e=>by have:w.heap.size+1+1+1+1=mb:=(Option.some.inj e);omega,.inr (fun e=>by have:w.heap.size+1+1+1=w.heap.size+1+1+1+1:=(Option.some.inj e);omega)⟩
 clear hW kM kT kN;have hFX:∀ b,F b->¬ (mb<=b/\b<W.heap.size):=fun b hb=>by have:=h.lt b hb;omega
 generalize hX:(fun g=>mb<=g/\g<W.heap.size)=X at hP0;have hXg:∀ b,¬ mb<=b->¬ X b:=fun b hb=>by rw[<-hX];exact fun h=>hb h.1
 have hgl:g.levels.length<=2001:=by
  have h1:g.levels.length<=Lx.sizeV g.levels:=Lx.len_sum (fun l:Lx.Lv=>1+l.tokens.length) fun _ _=>by omega
  have:=hf.sz;omega
 have hlt0:(Lx.levelToks g).length<=2001:=by have:=Lx.lvToks_len g;have:=hf.sz;omega
 rw[Lx.lvToks_flat]at hlt0;have H0:Hid (Lx.addToks [Lx.tDollar] (Lx.levelToks g)=Lx.addToks [Lx.tDollar] ((g.levels.drop 0).flatMap fun lv=>lv.tokens.map Prod.fst)):=by rw[Lx.lvToks_flat];rfl
 clear hX hFX
 go_loopg [4] g.levels.length (fun k i wr=>∃ (j:Nat) (U:List ByteArray) (Z:Nat->Prop),j+k=g.levels.length/\i=.int .i64 j/\Ph1 Z wr mb U [Lx.tStart]/\Fr X W Z wr/\U.length+((g.levels.drop j).flatMap fun lv=>lv.tokens.map Prod.fst).length<=2002/\Hid (Lx.addToks [Lx.tDollar] (Lx.levelToks g)=Lx.addToks U ((g.levels.drop j).flatMap fun lv=>lv.tokens.map Prod.fst)))
 case atStart=>exact⟨0,[Lx.tDollar],X,by omega,rfl,hP0,Fr.refl _ _,by rw[List.drop_zero,List.length_singleton];omega,H0⟩
 case round =>
  clear H0 hP0 hlt0;revert wr;intro wz hrel;obtain⟨j,U,Z,hk,rfl,hz,hbz,hnz,HZ⟩:=hrel;have hsz:=hbz.size;have bz:∀ b,¬ mb<=b->wz.heap[b]?=W.heap[b]?:=fun b hb=>hbz.block b (by omega) (hXg b hb)
  have hZg:∀ b,¬ mb<=b->¬ Z b:=fun b hb hz=>(hbz.own b hz).elim (hXg b hb) (fun h=>by omega)
  have kGz:Blk wz w.heap.size _ 49:=(bz _ (by omega)).trans kG;have g0:wz.cell? ⟨w.heap.size,0,none⟩=some (.slice a' g.levels.length c'):=kGz.cell 0
  by_cases hlt:j<g.levels.length
  ·obtain⟨gb,cap,vT,vA,hv,hF,hT,hA,hFT,hFA,d0,d1,d2⟩:=((h.below hB).move (w':=wz) (fun b hb=>bz b (by have:=h.lt b hb;omega)) hsz).level hlt
   cases hv;have hz2:=HZ.out;rw[List.drop_eq_getElem_cons hlt,List.flatMap_cons]at hz2 hnz;generalize g.levels[j]=x at d0 d1 d2 hT hA hz2 hnz;obtain⟨ta,tc,hvT,hmT⟩:=own_len hT;subst hvT;unfold maxLen at hmT;have lgb:gb<mb:=by have:=h.lt gb hF;omega
   have HZ2:Hid (_=Lx.addToks U ((x.tokens.drop 0).map Prod.fst++(g.levels.drop (j+1)).flatMap fun lv=>lv.tokens.map Prod.fst)):=hz2;clear hz2 HZ hA d0 d2;go_wp2_with fail
   go_loopg [5] x.tokens.length (fun k i wr=>∃ (m:Nat) (U:List ByteArray) (Y:Nat->Prop),m+k=x.tokens.length/\i=.int .i64 m/\Ph1 Y wr mb U [Lx.tStart]/\Fr Z wz Y wr/\U.length+((x.tokens.drop m).map Prod.fst++(g.levels.drop (j+1)).flatMap fun lv=>lv.tokens.map Prod.fst).length<=2002/\Hid (Lx.addToks [Lx.tDollar] (Lx.levelToks g)=Lx.addToks U ((x.tokens.drop m).map Prod.fst++(g.levels.drop (j+1)).flatMap fun lv=>lv.tokens.map Prod.fst)))
   case atStart=>exact⟨0,U,Z,by omega,rfl,hz,Fr.refl _ _,hnz,HZ2⟩
   case round =>
    clear HZ2;obtain⟨m,U2,Y,hkm,rfl,hr,hbr,hnr,HR⟩:=hrel;have hszr:=hbr.size;have br:∀ b,¬ mb<=b->wr.heap[b]?=wz.heap[b]?:=fun b hb=>hbr.block b (by omega) (hZg b hb)
    have kGr:Blk wr w.heap.size _ 49:=(br _ (by omega)).trans kGz;have gr0:wr.cell? ⟨w.heap.size,0,none⟩=some (.slice (some ⟨gb,0,none⟩) g.levels.length c'):=kGr.cell 0;have dr1:wr.cell? ⟨gb,j*3+1,none⟩=some (.slice ta x.tokens.length tc):=(World.cell?_of_block (w:=wz) (br gb (by omega))).trans d1
    by_cases hltm:m<x.tokens.length
    ·have hTr:wr.ownsRow 0 9 1 (.slice ta x.tokens.length tc) x.tokens.length (x.tokens.map fun t=>.string t.1):=own_move hT fun g hg=>br g (by have:=h.lt g (hFT g hg);omega)
     obtain⟨tg,tcap,hvt,-,-⟩:=hTr.form (by omega);cases hvt;have t1:=hTr.cellAt m (by omega);rw[List.getElem?_map,List.getElem?_eq_getElem hltm]at t1;simp only[Option.map_some]at t1;have hr2:=HR.out;rw[List.drop_eq_getElem_cons hltm,List.map_cons,List.cons_append]at hr2 hnr;rw[List.length_cons]at hnr;generalize x.tokens[m]=tk at t1 hr2 hnr;have ltg:tg<wr.heap.size:=(hTr.lt tg rfl).2;have lgr:gb<wr.heap.size:=by omega
     have HR2:Hid (_=Lx.addToks (Lx.addTok U2 tk.1) ((x.tokens.drop (m+1)).map Prod.fst++(g.levels.drop (j+1)).flatMap fun lv=>lv.tokens.map Prod.fst)):=hr2;have hal:=Lx.addTok_len U2 tk.1;clear hr2 HR hTr;go_wp2_with fail;refine (token_any hr (by omega) tk.1).mono ?_;rintro e w2 ⟨⟨vq,rfl⟩,Y2,hY2,hf2⟩;have hf3:=hbr.trans hf2;go_wp2_with fail;go_roundg (x.tokens.length - (m+1))
     case measure=>omega
     case rel=>exact⟨m+1,_,Y2,by omega,by go_num,hY2,hf3,by omega,HR2⟩
    ·have:m=x.tokens.length:=by omega
     subst this;have hr2:=HR.out;rw[List.drop_length,List.map_nil,List.nil_append]at hr2 hnr;have HR2:Hid _:=hr2;clear hr2 HR;go_wp2_with fail;go_roundg (g.levels.length - (j+1))
     case measure=>omega
     case rel=>exact⟨j+1,U2,Y,by omega,by go_num,hr,hbz.trans hbr,hnr,HR2⟩
  ·have:j=g.levels.length:=by omega
   subst this;have hz2:=HZ.out;rw[List.drop_length,List.flatMap_nil]at hz2 hnz;have HTL:Hid (Lx.addToks [Lx.tDollar] (Lx.levelToks g)=U):=hz2;clear hz2 HZ hk;go_wp2_with fail;have hnb:U.length+((g.rules.drop 0).flatMap fun r=>Lx.toksA 9 r.alts).length<=5000:=by have:=Lx.toks_len g.rules;have:=hf.sz;rw[List.drop_zero];simp only[List.length_nil]at hnz;omega
   have hvb:[Lx.tStart].length+((g.rules.drop 0).flatMap Lx.namesR).length<=5000:=by have:=Lx.names_len g.rules;have:=hf.sz;rw[List.drop_zero,List.length_singleton];omega
   have T0:Hid (Lx.tokG g=Lx.addToks U ((g.rules.drop 0).flatMap fun r=>Lx.toksA 9 r.alts)):=by show _=_;unfold Lx.tokG;rw[Lx.addToks_app,HTL.out];rfl
   have N0:Hid (Lx.namG g=[Lx.tStart]++(g.rules.drop 0).flatMap Lx.namesR):=rfl;clear hnz HTL;generalize [Lx.tStart]=V at hz hvb N0
   go_loopg [6] g.rules.length (fun k i wr=>∃ (j:Nat) (U V:List ByteArray) (Z:Nat->Prop),j+k=g.rules.length/\i=.int .i64 j/\Ph1 Z wr mb U V/\Fr X W Z wr/\U.length+((g.rules.drop j).flatMap fun r=>Lx.toksA 9 r.alts).length<=5000/\V.length+((g.rules.drop j).flatMap Lx.namesR).length<=5000/\Hid (Lx.tokG g=Lx.addToks U ((g.rules.drop j).flatMap fun r=>Lx.toksA 9 r.alts))/\Hid (Lx.namG g=V++(g.rules.drop j).flatMap Lx.namesR))
   case atStart=>exact⟨0,U,V,Z,by omega,rfl,hz,hbz,hnb,hvb,T0,N0⟩
   case round =>
    clear T0 N0 hnb hvb hz g0 kGz hZg bz hbz hsz Z U V;revert wr;intro wz hrel;obtain⟨j,U,V,Z,hk,rfl,hz,hbz,hnb,hvb,T0,N0⟩:=hrel;have hsz:=hbz.size;have bz:∀ b,¬ mb<=b->wz.heap[b]?=W.heap[b]?:=fun b hb=>hbz.block b (by omega) (hXg b hb)
    have hZg:∀ b,¬ mb<=b->¬ Z b:=fun b hb hz=>(hbz.own b hz).elim (hXg b hb) (fun h=>by omega)
    have kGz:Blk wz w.heap.size _ 49:=(bz _ (by omega)).trans kG;have g1:wz.cell? ⟨w.heap.size,1,none⟩=some (.slice a g.rules.length c):=kGz.cell 1
    by_cases hlt:j<g.rules.length
    ·have hdz:DG F wz _ _ g:=(h.below hB).move (w':=wz) (fun b hb=>bz b (by have:=h.lt b hb;omega)) hsz
     obtain⟨gb,cap,va,hv,hF,hA,d0,d1,d2⟩:=hdz.rule hlt;cases hv;obtain⟨sa,sc,hva,-⟩:=AltsIn.len hA;subst hva;have hrm:g.rules[j]∈g.rules:=List.getElem_mem hlt;have hrl:=(hf.rl _ hrm).1;have hhl:=hf.hlpL hrm;have ht2:=T0.out;have hn2:=N0.out;rw[List.drop_eq_getElem_cons hlt,List.flatMap_cons]at ht2 hn2 hnb hvb;rw[List.length_append]at hnb hvb;have hnl:=Lx.namesR_len g.rules[j];have hns:Lx.namesR g.rules[j]=g.rules[j].name::(List.range (Lx.hlpA 9 g.rules[j].alts).length).map fun k=>Lx.hName g.rules[j].name (k+1):=rfl
     rw[hns]at hn2;rw[hnl]at hvb;rw[Lx.addToks_app U]at ht2;have HT2:Hid _:=ht2;have HN2:Hid _:=hn2;clear ht2 hn2 T0 N0 hns hnl hrm d2;generalize g.rules[j]=x at hA d0 d1 HT2 HN2 hnb hvb hrl hhl;have hxs:x.name.size<=12:=by simp only[Lx.isName,Lx.isWord,Bool.and_eq_true,decide_eq_true_eq]at hrl;omega
     have lgb:gb<mb:=by have:=h.lt gb hF;omega
     clear hrl;go_wp2_with fail;refine (tokens_at 9 F wz _ _ hA (fun b hb=>hdz.lt b hb) Z mb U V (fun b hb=>hZg b (by have:=h.lt b hb;omega)) hz (by omega)).mono ?_;rintro e w2 ⟨rfl,Z2,hP2,hf2⟩;have hal:=Lx.addToks_len (Lx.toksA 9 x.alts) U;generalize Lx.addToks U (Lx.toksA 9 x.alts)=U2 at hP2 HT2 hal;have hf02:=hbz.trans hf2;have hs2:=hf02.size;have b2:∀ b,¬ mb<=b->w2.heap[b]?=wz.heap[b]?:=fun b hb=>hf2.block b (by omega) (hZg b hb)
     have kG2:Blk w2 w.heap.size _ 49:=(b2 _ (by omega)).trans kGz;have g21:w2.cell? ⟨w.heap.size,1,none⟩=some (.slice (some ⟨gb,0,none⟩) g.rules.length c):=kG2.cell 1;have d20:w2.cell? ⟨gb,j*3,none⟩=some (.string x.name):=(World.cell?_of_block (w:=wz) (b2 gb (by omega))).trans d0;obtain⟨q0,vT,vN,q1,q2,q3,q4,q5,q6,q7,q8,q9⟩:=hP2;obtain⟨na,nc,hvN,hNm⟩:=own_len q3;subst hvN;unfold maxLen at hNm;have lm2:=q1.lt;have m21:w2.cell? ⟨mb,1,none⟩=some (.slice na V.length nc):=q1.cell 1;have lG2:w.heap.size<w2.heap.size:=by omega
     have lgb2:gb<w2.heap.size:=by omega
     have oND:=own_move (w':=(w2.alloc (.cells #[.string x.name] 9)).drew) (q3.alloc (.cells #[.string x.name] 9)) fun _ _=>rfl
     have km2:Blk (w2.alloc (.cells #[.string x.name] 9)).drew mb _ 135:=(q1.alloc _).drew;have hb12:Below w2.heap.size w2 (w2.alloc (.cells #[.string x.name] 9)).drew:=((Below.refl _ w2).alloc (Nat.le_refl _) _).drew;clear g1 hdz;go_upto_region 15 with fail
     go_cut [] from 62 to 129 (fun wx=>∃ Z4,Ph1 Z4 wx mb U2 (V++[x.name])/\Fr X W Z4 wx)
     case first =>
      go_region_law (refine step_append_lies _ rfl (.tmp 82) (.tmp 89) 22 rfl 0 9 i9 _ 1 16 Tryz.underlying22 hi9 hz90 hz91 hz92 rfl (by decide) (.slice na V.length nc) V.length (V.map Value.string) (by simp[Act.eval]) oND ⟨w2.heap.size,0,none⟩ 1 1 [.string x.name] (by simp[Act.eval]) rfl (news_of (Blk.new w2 _ 9).drew) (by simp[Value.oneCell']) (by decide) (by unfold maxLen;omega) (by omega) (by simp) _ rfl ?_;intro g2 cap2 w3 hown3 hgrow3 hat3 hlt3;have km3:=km2.grown hgrow3 (fun e=>q8 e.symm);have c31:w3.cell? ⟨mb,1,none⟩=some (.slice na V.length nc):=km3.cell 1;have f31:∀ i,w3.frozen? ⟨mb,i,none⟩=false:=km3.frozen)
      all_goals
       have hat4:(Value.slice na V.length nc).ownBlock=some g2∨w2.heap.size<=g2:=by
        rcases hat3 with h' | h'
        ·exact .inl h'
        ·have:g2=w2.heap.size+1:=by simpa using h'
         exact .inr (by omega)
       obtain⟨hP4,hf4⟩:=Ph1.pushN q0 q1 q2 q3 q4 q5 q6 q7 q8 q9 hb12 hown3 hgrow3 hat4 hlt3;have hf04:=hf02.trans hf4;go_wp2_with fail
       go_meet
       case rel=>exact⟨_,hP4,hf04⟩
     case rest =>
      obtain⟨Z4,hP4,hf04⟩:=hcut;obtain⟨w4,hw4⟩:∃ w4,w4=wc:=⟨_,rfl⟩;rw[<-hw4]at hP4 hf04;rw[<-hw4];clear hw4 km2 oND hb12 m21 q0 q1 q2 q3 q4 q5 q6 q7 q8 q9;have hs4:=hf04.size;have b4:∀ b,¬ mb<=b->w4.heap[b]?=W.heap[b]?:=fun b hb=>hf04.block b (by omega) (hXg b hb)
      have kG4:Blk w4 w.heap.size _ 49:=(b4 _ (by omega)).trans kG;have g41:w4.cell? ⟨w.heap.size,1,none⟩=some (.slice (some ⟨gb,0,none⟩) g.rules.length c):=kG4.cell 1;have b4z:∀ b,¬ mb<=b->w4.heap[b]?=wz.heap[b]?:=fun b hb=>(b4 b hb).trans (bz b hb).symm
      have d41:w4.cell? ⟨gb,j*3+1,none⟩=some (.slice sa x.alts.length sc):=(World.cell?_of_block (w:=wz) (b4z gb (by omega))).trans d1;have hA4:AltsIn YR 9 F w4 (.slice sa x.alts.length sc) x.alts:=AltsIn.move (fun b hb=>b4z b (by have:=h.lt b hb;omega)) (fun _ h=>h) hA;have lG4:w.heap.size<w4.heap.size:=by omega
      have lgb4:gb<w4.heap.size:=by omega
      clear g21 d20 kG2;go_wp2_with fail;refine (helped_at 9 F w4 _ _ hA4 (by omega) (fun b hb=>by have:=h.lt b hb;omega) (by omega)).mono ?_;rintro e w5 ⟨u,rfl,hHR,hb5⟩;obtain⟨ha,hc,hvH,-⟩:=hHR.len;subst hvH;have hP5:=hP4.below hb5;have hf05:=hf04.trans (Fr.same (X:=Z4) hb5);clear hHR hP4 hf04;have HV:Hid (V++[x.name]=V++[x.name]++(List.range 0).map fun k=>Lx.hName x.name (k+1)):=by simp[Hid]
      have hvb2:(V++[x.name]).length+(Lx.hlpA 9 x.alts).length<=5000:=by rw[List.length_append,List.length_singleton];omega
      have HN3:Hid (Lx.namG g=V++[x.name]++(((List.range (Lx.hlpA 9 x.alts).length).map fun k=>Lx.hName x.name (k+1))++(g.rules.drop (j+1)).flatMap Lx.namesR)):=by
       show _=_;rw[HN2.out];simp[List.append_assoc]
      have hvl:V.length+1+(Lx.hlpA 9 x.alts).length+((g.rules.drop (j+1)).flatMap Lx.namesR).length<=5000:=by omega
      clear HN2 hvb;have hvl0:(V++[x.name]).length=V.length+1:=by simp
      generalize V++[x.name]=V0 at hP5 HV hvb2 HN3 hvl0;rw[<-hvl0]at hvl;clear hvl0;generalize Lx.hlpA 9 x.alts=hl at *;go_wp2_with fail
      go_loopg [8] hl.length (fun k i wr=>∃ (m:Nat) (V1:List ByteArray) (Y:Nat->Prop),m+k=hl.length/\i=.int .i64 m/\Ph1 Y wr mb U2 V1/\Fr X W Y wr/\Hid (V1=V0++(List.range m).map fun k=>Lx.hName x.name (k+1)))
      case atStart=>exact⟨0,V0,Z4,by omega,rfl,hP5,hf05,HV⟩
      case round =>
       clear HV hP5 hf05 g41 d41 kG4 b4 hA4 b4z;obtain⟨m,V1,Y,hkm,rfl,hr,hbr,HV⟩:=hrel;have hszr:=hbr.size;have br:∀ b,¬ mb<=b->wr.heap[b]?=W.heap[b]?:=fun b hb=>hbr.block b (by omega) (hXg b hb)
       have brz:∀ b,¬ mb<=b->wr.heap[b]?=wz.heap[b]?:=fun b hb=>(br b hb).trans (bz b hb).symm
       by_cases hltm:m<hl.length
       ·have hv1:V1.length<=5000:=by rw[HV.out,List.length_append,List.length_map,List.length_range];omega
        have HV2:Hid (V1++[Lx.hName x.name (m+1)]=V0++(List.range (m+1)).map fun k=>Lx.hName x.name (k+1)):=by
         show _=_;rw[HV.out,List.range_succ,List.map_append,List.append_assoc];rfl
        clear HV;go_wp2_with fail;rw[show ((m:Int)+1)=((m+1:Nat):Int) from by omega];refine (decimal_any (m+1) wr (by omega)).mono ?_;rintro e w6 ⟨rfl,hb6⟩;have hds:=decB_size (m+1);have hds2:(Lx.decB (m+1)).size<=3000:=by omega
        clear hds;have HHN:Hid (Lx.hName x.name (m+1)=x.name++⟨#[39]⟩++Lx.decB (m+1)):=rfl;generalize Lx.decB (m+1)=db at HHN hds2;have hs6:=hb6.size;have b6:∀ b,¬ mb<=b->w6.heap[b]?=wz.heap[b]?:=fun b hb=>(hb6.block b (by omega)).trans (brz b hb)
        have kG6:Blk w6 w.heap.size _ 49:=(b6 _ (by omega)).trans kGz;have g61:w6.cell? ⟨w.heap.size,1,none⟩=some (.slice (some ⟨gb,0,none⟩) g.rules.length c):=kG6.cell 1;have d60:w6.cell? ⟨gb,j*3,none⟩=some (.string x.name):=(World.cell?_of_block (w:=wz) (b6 gb (by omega))).trans d0;obtain⟨q0,vT,vN,q1,q2,q3,q4,q5,q6,q7,q8,q9⟩:=hr.below hb6;obtain⟨na6,nc6,hvN,hNm6⟩:=own_len q3;subst hvN;unfold maxLen at hNm6;have lm6:=q1.lt;have m61:w6.cell? ⟨mb,1,none⟩=some (.slice na6 V1.length nc6):=q1.cell 1;have lG6:w.heap.size<w6.heap.size:=by omega
        have lgb6:gb<w6.heap.size:=by omega
        have hsum:(x.name++(⟨#[39]⟩:ByteArray)).size=x.name.size+1:=by rw[ByteArray.size_append];rfl
        have hq1:¬ 9223372036854775807<x.name.size+1:=by omega
        have hq2:¬ 9223372036854775807<x.name.size+1+db.size:=by omega
        have oND:=own_move (w':=(w6.alloc (.cells #[.string (x.name++⟨#[39]⟩++db)] 9)).drew) (q3.alloc (.cells #[.string (x.name++⟨#[39]⟩++db)] 9)) fun _ _=>rfl
        have km6:Blk (w6.alloc (.cells #[.string (x.name++⟨#[39]⟩++db)] 9)).drew mb _ 135:=(q1.alloc _).drew;have hb16:Below w6.heap.size w6 (w6.alloc (.cells #[.string (x.name++⟨#[39]⟩++db)] 9)).drew:=((Below.refl _ w6).alloc (Nat.le_refl _) _).drew;go_wp2_with fail
        go_region_law (go_loud (refine step_append_lies _ rfl (.tmp 115) (.tmp 125) 22 rfl 0 9 i9 _ 1 16 Tryz.underlying22 hi9 hz90 hz91 hz92 rfl (by decide) (.slice na6 V1.length nc6) V1.length (V1.map Value.string) (by simp[Act.eval]) oND ⟨w6.heap.size,0,none⟩ 1 1 [.string (x.name++⟨#[39]⟩++db)] (by simp[Act.eval]) rfl (news_of (Blk.new w6 _ 9).drew) (by simp[Value.oneCell']) (by decide) (by unfold maxLen;omega) (by omega) (by simp) _ rfl ?_;intro g2 cap2 w7 hown3 hgrow3 hat3 hlt3;have km3:=km6.grown hgrow3 (fun e=>q8 e.symm);have c31:w7.cell? ⟨mb,1,none⟩=some (.slice na6 V1.length nc6):=km3.cell 1;have f31:∀ i,w7.frozen? ⟨mb,i,none⟩=false:=km3.frozen))
        all_goals
         have hat4:(Value.slice na6 V1.length nc6).ownBlock=some g2∨w6.heap.size<=g2:=by
          rcases hat3 with h' | h'
          ·exact .inl h'
          ·have:g2=w6.heap.size+1:=by simpa using h'
           exact .inr (by omega)
         obtain⟨hP8,hf8⟩:=Ph1.pushN q0 q1 q2 q3 q4 q5 q6 q7 q8 q9 hb16 hown3 hgrow3 hat4 hlt3;rw[<-HHN.out]at hP8;have hf08:=(hbr.trans (Fr.same hb6)).trans hf8;go_wp2_with fail;go_roundg (hl.length - (m+1))
         case measure=>omega
         case rel=>exact⟨m+1,_,_,by omega,by go_num,hP8,hf08,HV2⟩
       ·have:m=hl.length:=by omega
        subst this;have hv1:V1.length=V0.length+hl.length:=by rw[HV.out,List.length_append,List.length_map,List.length_range]
        have HN4:Hid (Lx.namG g=V1++(g.rules.drop (j+1)).flatMap Lx.namesR):=by
         show _=_;rw[HN3.out,HV.out];simp[List.append_assoc]
        have hv2:V1.length+((g.rules.drop (j+1)).flatMap Lx.namesR).length<=5000:=by omega
        clear HN3 HV hv1;go_wp2_with fail;go_roundg (g.rules.length - (j+1))
        case measure=>omega
        case rel=>exact⟨j+1,U2,V1,Y,by omega,by go_num,hr,hbr,by omega,hv2,HT2,HN4⟩
    ·have:j=g.rules.length:=by omega
     subst this;have ht2:=T0.out;have hn2:=N0.out;rw[List.drop_length,List.flatMap_nil]at ht2 hn2;rw[List.append_nil]at hn2;have HT:Hid (Lx.tokG g=U):=ht2;have HN:Hid (Lx.namG g=V):=hn2;clear ht2 hn2 T0 N0 hnb hvb hk;have htl:U.length<=2002:=by rw[<-HT.out];exact hf.tokL
     have hnl:V.length<=2002:=by rw[<-HN.out];exact hf.namL
     have hM0:Mk2 (fun g=>g<wz.heap.size/\g≠mb) F wz mb U V (U.length+1) [] []:=hz.toMk2 (fun g hg=>by have:=h.lt g hg;omega) (by omega) (by omega);obtain⟨-,vT,vN,q1,q2,-⟩:=hz;obtain⟨ta,tc,hvT,-⟩:=own_len q2;subst hvT;have m0:wz.cell? ⟨mb,0,none⟩=some (.slice ta U.length tc):=q1.cell 0;have lmz:=q1.lt;have hb1:Below wz.heap.size wz (wz.alloc (.cells #[.int .i64 ((U.length:Int)+1)] 3)):=(Below.refl _ _).alloc (Nat.le_refl _) _;have kr1:Blk (wz.alloc (.cells #[.int .i64 ((U.length:Int)+1)] 3)) wz.heap.size #[.int .i64 ((U.length:Int)+1)] 3:=Blk.new wz _ 3;have hr1:IR 0 (wz.alloc (.cells #[.int .i64 ((U.length:Int)+1)] 3)) (.slice (some ⟨wz.heap.size,0,none⟩) 1 1) [U.length+1]:=⟨rfl,.inr ⟨wz.heap.size,1,_,rfl,Nat.zero_le _,kr1,Nat.le_refl _,by decide,rfl,rfl⟩⟩;clear q1 q2 kr1;go_wp2_with fail;refine (put_no (hM0.more hb1) U.length _ [U.length+1] hr1 (fun g hg=>by have e9:wz.heap.size=g:=Option.some.inj hg;exact⟨.inr (by simp;omega),by omega⟩) (by simp)).mono ?_;rintro e w2 ⟨rfl,hM2,hK2⟩;obtain⟨D0,hD0⟩:∃ D0:Nat->Prop,D0=fun g=>g<wz.heap.size/\g≠mb:=⟨_,rfl⟩
     have hD0g:∀ g,¬ mb<=g->D0 g:=fun g hg=>by rw[hD0];exact⟨by omega,by omega⟩
     have hK02:Kp D0 wz w2:=(Kp.below hb1 (fun g hg=>by rw[hD0]at hg;exact hg.1)).trans hK2 (fun g hg=>.inl (by rw[hD0]at hg;exact hg));have hD2:∀ g,D0 g->More (fun g=>g<wz.heap.size/\g≠mb) wz (wz.alloc (.cells #[.int .i64 ((U.length:Int)+1)] 3)) g:=fun g hg=>.inl (by rw[hD0]at hg;exact hg)
     generalize More (fun g=>g<wz.heap.size/\g≠mb) wz (wz.alloc (.cells #[.int .i64 ((U.length:Int)+1)] 3))=D2 at hM2 hD2 hK2;have HP2:Hid (Lx.prodG g=[Lx.pdOf U.length U.length [U.length+1]]++Lx.rulesPd U V (U.length+1) (g.rules.drop 0)):=by
      show _=_;unfold Lx.prodG;rw[HT.out,HN.out];simp[Lx.pdOf,Lx.precOf];intro hh;omega
     have hbn:U.length+1+((g.rules.drop 0).flatMap Lx.namesR).length<=5000:=by have:=Lx.names_len g.rules;have:=hf.sz;rw[List.drop_zero];omega
     have b2:∀ b,¬ mb<=b->w2.heap[b]?=W.heap[b]?:=fun b hb=>(hK02.block b (hD0g b hb)).trans (bz b hb)
     have hs2:wz.heap.size<=w2.heap.size:=hK02.size;have hos:w2.os=w.os:=hK02.os.trans (hbz.os.trans hB.os);have hta:w2.tape=w.tape:=hK02.tape.trans (hbz.tape.trans hB.tape);have hou:w2.output=w.output:=hK02.output.trans (hbz.output.trans hB.output);simp only[List.nil_append]at hM2;have hP2l:[Lx.pdOf U.length U.length [U.length+1]].length<=1+0*10000000:=by simp
     generalize [Lx.pdOf U.length U.length [U.length+1]]=P2 at hM2 HP2 hP2l;clear hM0 hr1 hb1 hD0 m0 g1 kGz hK2 hK02;go_wp2_with fail;rw[show ((U.length:Int)+1)=((U.length+1:Nat):Int) from by omega];have HLU:Hid (U.length+1<=2003):=(by omega:U.length+1<=2003);generalize U.length+1=b0 at *;refine docOf_C h hf hmb hWs hB kG hD0g hD2 b2 (by omega) hP2l hbn hM2 HP2 HLU HT HN htl hnl ?_;clear hP2l hbn hM2 HP2;intro v13 v14 v15 v16 v144 v145 v146 v147 v148 v149 v150 v151 v152 v153 v154 v155 v156 v157 v158 v159 v160 v161 v162 v163 v164 v165 v166 v167 v168 v169 v170 v171 v172 v173 v174 v175 v176 v177 v178 v179 v180 v181 v182 v183 v184 v185 v186 v187 v188 v189 v190 v191 v192 v193 v194 v195 v196 v197 v198 v199 v200 v201 v202 v203 v204 v205 v206 v207 v208 v209 v210 v211 v212 v213 v214 v215 v216 v217 v218 v219 v220 v221 v222 v223 v224 v225 v226 v227 v228 v229 v230 v231 v232 v233 v234 v235 v236 v237 v238 v239 v240 v241 v242 v243 v244 v245 v246 v247 v248 v249 v250 v251 v252 v253 v254 b bq Hq D P wy hMy hDy hKy HPX;have by_:∀ b,¬ mb<=b->wy.heap[b]?=W.heap[b]?:=fun b hb=>(hKy.block b (hD0g b hb)).trans (b2 b hb)
     have hsy:=hKy.size;have kGy:Blk wy w.heap.size _ 49:=(by_ _ (by omega)).trans kG;have g1:wy.cell? ⟨w.heap.size,1,none⟩=some (.slice a g.rules.length c):=kGy.cell 1;clear g1 kGy;obtain⟨D7,hM7,hD7⟩:=hMy.toMk4;have hD07:∀ g,D0 g->D7 g:=fun g hg=>hD7 g (hDy g hg)
     clear hMy hDy hD7;go_wp2_with fail;have HBK:Hid ([]=((U.take 0).map fun t=>(Lx.bkOf g t).1)/\[]=((U.take 0).map fun t=>(Lx.bkOf g t).2)):=⟨rfl,rfl⟩;obtain⟨i3,hi3,hz30,hz31,hz32⟩:=info_parts Tryz.info3
     go_loopg [17] U.length (fun k i wr=>∃ (t:Nat) (Bs Ks:List Nat),t+k=U.length/\i=.int .i64 t/\Mk4 D7 wr mb U V P Bs Ks/\Kp D7 wy wr/\Hid (Bs=((U.take t).map fun t=>(Lx.bkOf g t).1)/\Ks=((U.take t).map fun t=>(Lx.bkOf g t).2)))
     case atStart=>exact⟨0,[],[],by omega,rfl,hM7,Kp.refl _ _,HBK⟩
     case round =>
      clear HBK hM7;revert wr;intro wx hrel;obtain⟨t,Bs,Ks,hkt,rfl,hMx,hKx,HBK⟩:=hrel;have hsx:=hKx.size;have bx:∀ b,¬ mb<=b->wx.heap[b]?=W.heap[b]?:=fun b hb=>(hKx.block b (hD07 b (hD0g b hb))).trans (by_ b hb)
      have kGx:Blk wx w.heap.size _ 49:=(bx _ (by omega)).trans kG;have kRx:Blk wx (w.heap.size+1) _ 32:=(bx _ (by omega)).trans kR;obtain⟨⟨vTx,vNx,vPx,vBx,vKx,vHx,vLx,z1,z2,z3,z4,z5,z6,y1,y2,y3,y4,y5⟩,znm,zlt⟩:=id hMx;have lmx:=z1.lt
      by_cases hlt:t<U.length
      ·obtain⟨tg,tcap,hvt,-,-⟩:=z2.form (by omega)
       rw[hvt]at z1;have ltg:tg<wx.heap.size:=(z2.lt tg (by rw[hvt];rfl)).2;have t2:wx.cell? ⟨tg,t,none⟩=some (.string U[t]):=by
        rw[hvt]at z2;have h9:t<U.length*1:=by omega
        have:=z2.cellAt t h9;rw[List.getElem?_map,List.getElem?_eq_getElem hlt]at this;exact this
       have hB2:Hid ((U.take (t+1)).map (fun t=>(Lx.bkOf g t).1)=Bs++[(Lx.bkOf g U[t]).1]):=by show _=_;rw[HBK.out.1,List.take_succ_eq_append_getElem hlt,List.map_append];rfl
       have hK2':Hid ((U.take (t+1)).map (fun t=>(Lx.bkOf g t).2)=Ks++[(Lx.bkOf g U[t]).2]):=by show _=_;rw[HBK.out.2,List.take_succ_eq_append_getElem hlt,List.map_append];rfl
       have hBl:Bs.length<=2002:=by rw[HBK.out.1,List.length_map,List.length_take];omega
       have hKl:Ks.length<=2002:=by rw[HBK.out.2,List.length_map,List.length_take];omega
       clear HBK;have HBR:Hid (Lx.bkOf g U[t]=Lx.bk U[t] 0 (g.levels.drop 0) (0,0)):=rfl;generalize U[t]=tk at t2 hB2 hK2' HBR;go_wp2_with fail
       go_loopg [18,19,20] g.levels.length (fun k bv kv i wr=>∃ (m:Nat) (r:Nat × Nat),m+k=g.levels.length/\bv=.int .i64 (r.1:Int)/\kv=.int .i64 (r.2:Int)/\i=.int .i64 m/\Below wx.heap.size wx wr/\Hid (Lx.bkOf g tk=Lx.bk tk m (g.levels.drop m) r))
       case atStart=>exact⟨0,(0,0),by omega,rfl,rfl,rfl,Below.refl _ _,HBR⟩
       case round =>
        clear HBR;obtain⟨m,r,hkm,rfl,rfl,rfl,hbr,HBR⟩:=hrel;have hsr:=hbr.size;have br:∀ b,¬ mb<=b->wr.heap[b]?=W.heap[b]?:=fun b hb=>(hbr.block b (by omega)).trans (bx b hb)
        have kGr:Blk wr w.heap.size _ 49:=(br _ (by omega)).trans kG;have gr0:wr.cell? ⟨w.heap.size,0,none⟩=some (.slice a' g.levels.length c'):=kGr.cell 0;have kMr:Blk wr mb _ 135:=(hbr.block _ lmx).trans z1
        by_cases hltm:m<g.levels.length
        ·have hdr:DG F wr _ _ g:=(h.below hB).move (w':=wr) (fun b hb=>br b (by have:=h.lt b hb;omega)) (by omega)
         obtain⟨lb,lcap,vT,vA,hv,hFl,hT,-,hFT,-,d0,d1,d2⟩:=hdr.level hltm;cases hv;obtain⟨la,lc,hvl,-⟩:=own_len hT;subst hvl;have mr0:wr.cell? ⟨mb,0,none⟩=some (.slice (some ⟨tg,0,none⟩) U.length tcap):=kMr.cell 0;have tr:wr.cell? ⟨tg,t,none⟩=some (.string tk):=(World.cell?_of_block (w:=wx) (hbr.block tg ltg)).trans t2;have hbr2:=HBR.out;rw[List.drop_eq_getElem_cons hltm,Lx.bk]at hbr2;generalize g.levels[m]=x at d0 d1 d2 hT hbr2;have q0:=find_any (x.tokens.map Prod.fst) tk _ wr.drew (toks_own (own_move (w':=wr.drew) hT fun _ _=>rfl));have hrg:=Lx.fnd_range (x.tokens.map Prod.fst) tk;have hml2:(x.tokens.map Prod.fst).length<=maxLen:=(own_len (toks_own hT)).elim fun _ h=>h.elim fun _ h=>h.2
         unfold maxLen at hml2;have llb:lb<mb:=by have:=h.lt lb hFl;omega
         have llr:lb<wr.heap.size:=by omega
         have lmr:mb<wr.heap.size:=by omega
         have lGr:w.heap.size<wr.heap.size:=by omega
         have ltr:tg<wr.heap.size:=by omega
         clear d2 hdr HBR;have hdec:Hid (∀ q:Int,q=Lx.fnd (x.tokens.map Prod.fst) tk->decide (0<=q)=decide (0<=Lx.fnd (x.tokens.map Prod.fst) tk)):=fun q hq=>by rw[hq]
         generalize hfq:Lx.fnd (x.tokens.map Prod.fst) tk=fq at q0 hrg hbr2 hdec;clear hfq hdec;go_upto_region 52 with fail
         go_cut [282] from 260 to 290 (fun bq wx=>bq=.bool (decide (0<=fq))/\Below wr.heap.size wr wx)
         case first =>
          go_region_law (refine step_call rfl 70 #[.slice la x.tokens.length lc,.string tk] (by go_simp) q0 ?_;rintro e w3 ⟨rfl,hb3⟩;refine⟨_,rfl,?_⟩)
          all_goals
           have hb4:Below wr.heap.size wr w3:=(Below.refl _ wr).drew.trans hb3;go_wp2_with fail
           go_meet
           case rel=>exact⟨by simp,hb4⟩
         case rest =>
          obtain⟨rfl,hb4⟩:=hcut
          by_cases hin:0<=fq
          ·have HB3:Hid (Lx.bkOf g tk=Lx.bk tk (m+1) (g.levels.drop (m+1)) (m+1,x.kind)):=by rw[if_pos hin]at hbr2;exact hbr2
           clear hbr2;have g30:wc.cell? ⟨w.heap.size,0,none⟩=some (.slice (some ⟨lb,0,none⟩) g.levels.length c'):=(World.cell?_of_block (w:=wr) (hb4.block _ lGr)).trans gr0;have d30:wc.cell? ⟨lb,m*3,none⟩=some (.int .i64 (x.kind:Int)):=(World.cell?_of_block (w:=wr) (hb4.block _ llr)).trans d0;go_wp2_with fail;rw[show ((m:Int)+1)=((m+1:Nat):Int) from by omega];go_roundg (g.levels.length - (m+1))
           case measure=>omega
           case rel=>exact⟨m+1,(m+1,x.kind),by omega,rfl,rfl,rfl,hbr.trans (hb4.mono hsr),HB3⟩
          ·have HB3:Hid (Lx.bkOf g tk=Lx.bk tk (m+1) (g.levels.drop (m+1)) r):=by rw[if_neg hin]at hbr2;exact hbr2
           clear hbr2;go_wp2_with fail;go_roundg (g.levels.length - (m+1))
           case measure=>omega
           case rel=>exact⟨m+1,r,by omega,rfl,rfl,by go_num,hbr.trans (hb4.mono hsr),HB3⟩
        ·have:m=g.levels.length:=by omega
         subst this;have hbr2:=HBR.out;rw[List.drop_length,Lx.bk]at hbr2;rw[hbr2]at hB2 hK2';clear hbr2 HBR;have hMr:Mk4 D7 wr mb U V P Bs Ks:=by
          refine⟨⟨_,vNx,vPx,vBx,vKx,vHx,vLx,kMr,?_,own_move z3 fun g hg=>hbr.block g (z3.lt g hg).2,z4.move (fun _ h=>h) (fun g hg=>hbr.block g (zlt g hg.1)) (fun g hg=>hbr.block g (z4.blk g hg)),own_move z5 fun g hg=>hbr.block g (z5.lt g hg).2,own_move z6 fun g hg=>hbr.block g (z6.lt g hg).2,by rw[<-hvt];exact y1,y2,y3,y4,y5⟩,znm,fun g hg=>Nat.lt_of_lt_of_le (zlt g hg) hsr⟩;rw[<-hvt];exact own_move z2 fun g hg=>hbr.block g (z2.lt g hg).2
         have hKr:Kp D7 wx wr:=Kp.below hbr zlt;have z5r:IR 0 wr vBx Bs:=own_move z5 fun g hg=>hbr.block g (z5.lt g hg).2
         have hvm:vBx.ownBlock≠some mb:=fun e=>Nat.lt_irrefl _ (y4 mb e).2.1
         obtain⟨ba,bc,hvB,-⟩:=own_len z5r;subst hvB;have lmr:mb<wr.heap.size:=by omega
         have m3:wr.cell? ⟨mb,3,none⟩=some (.slice ba Bs.length bc):=kMr.cell 3;have hb1:Below wr.heap.size wr (wr.alloc (.cells #[.int .i64 (r.1:Int)] 3)):=(Below.refl _ _).alloc (Nat.le_refl _) _;have z6r0:IR 0 wr vKx Ks:=own_move z6 fun g hg=>hbr.block g (z6.lt g hg).2
         have hvmK:vKx.ownBlock≠some mb:=fun e=>Nat.lt_irrefl _ (y5 mb e).2
         have hBK:∀ g,vKx.ownBlock=some g->(Value.slice ba Bs.length bc).ownBlock≠some g:=fun g hg e=>(y4 g e).2.2 hg
         obtain⟨ka,kc,hvK,-⟩:=own_len z6r0;subst hvK;have m4:wr.cell? ⟨mb,4,none⟩=some (.slice ka Ks.length kc):=kMr.cell 4
         go_wp2_with (first
          | (at_builtin;refine wpList_append_own_at _ rfl _ _ 24 rfl 0 3 i3 _ 1 8 Tryz.underlying24 hi3 hz30 hz31 hz32 rfl (by decide) (.slice ba Bs.length bc) _ _ rfl (World.ownsRow.alloc z5r _) ⟨_,0,none⟩ 1 1 [.int .i64 (r.1:Int)] rfl rfl (news_of (Blk.new _ _ 3)) (by simp[Value.oneCell']) (by unfold maxLen;omega) (by omega) (by simp) ?_;intro v5 w5 hown5 hgrow5 _ hat5;obtain⟨oa5,oc5,hv5,-⟩:=own_len hown5;subst hv5;have km5:=(kMr.alloc (.cells #[.int .i64 (r.1:Int)] 3)).grown hgrow5 (fun e=>hvm e.symm);have c53:w5.cell? ⟨mb,3,none⟩=some (.slice ba Bs.length bc):=km5.cell 3;have f53:∀ i,w5.frozen? ⟨mb,i,none⟩=false:=km5.frozen;have c54:w5.cell? ⟨mb,4,none⟩=some (.slice ka Ks.length kc):=km5.cell 4;have lm5:=km5.lt;have hat6:(Value.slice oa5 (Bs.length+1) oc5).ownBlock=(Value.slice ba Bs.length bc).ownBlock∨∃ g,(Value.slice oa5 (Bs.length+1) oc5).ownBlock=some g/\wr.heap.size<=g:=hat5.imp_right (fun h'=>⟨_,h',by simp⟩);have hpu:=pushed (i:=3) (s:=r.1) kMr hvm hb1 hown5 hgrow5 hat6;obtain⟨hM6,hK6⟩:=hMr.pushB kMr hpu;have k6:Blk (w5.setCell ⟨mb,3,none⟩ (.slice oa5 (Bs.length+1) oc5)) mb #[.slice (some ⟨tg,0,none⟩) U.length tcap,vNx,vPx,.slice oa5 (Bs.length+1) oc5,.slice ka Ks.length kc,vHx,vLx] 135:=hpu.blk;have z6r:IR 0 (w5.setCell ⟨mb,3,none⟩ (.slice oa5 (Bs.length+1) oc5)) (.slice ka Ks.length kc) Ks:=own_move z6r0 (fun g hg=>hpu.keep g (z6r0.lt g hg).2 (fun e=>hvmK (e ▸ hg)) (hBK g hg)))
          | (at_builtin;go_loud (refine wpList_append_own_at _ rfl _ _ 24 rfl 0 3 i3 _ 1 8 Tryz.underlying24 hi3 hz30 hz31 hz32 rfl (by decide) (.slice ka Ks.length kc) _ _ rfl (World.ownsRow.alloc z6r _) ⟨_,0,none⟩ 1 1 [.int .i64 (r.2:Int)] rfl rfl (by have:=news_of (Blk.new (w5.setCell ⟨mb,3,none⟩ (.slice oa5 (Bs.length+1) oc5)) #[.int .i64 (r.2:Int)] 3);simpa [World.setCell]using this) (by simp[Value.oneCell']) (by unfold maxLen;omega) (by omega) (by simp) ?_;intro v7 w7 hown7 hgrow7 _ hat7;obtain⟨oa7,oc7,hv7,-⟩:=own_len hown7;subst hv7;have km7:=(k6.alloc (.cells #[.int .i64 (r.2:Int)] 3)).grown hgrow7 (fun e=>hvmK e.symm);have c74:w7.cell? ⟨mb,4,none⟩=some (.slice ka Ks.length kc):=km7.cell 4;have f74:∀ i,w7.frozen? ⟨mb,i,none⟩=false:=km7.frozen;have lm7:=km7.lt)))
         have hb7:Below (w5.setCell ⟨mb,3,none⟩ (.slice oa5 (Bs.length+1) oc5)).heap.size (w5.setCell ⟨mb,3,none⟩ (.slice oa5 (Bs.length+1) oc5)) ((w5.setCell ⟨mb,3,none⟩ (.slice oa5 (Bs.length+1) oc5)).alloc (.cells #[.int .i64 (r.2:Int)] 3)):=(Below.refl _ _).alloc (Nat.le_refl _) _;have hat8:(Value.slice oa7 (Ks.length+1) oc7).ownBlock=(Value.slice ka Ks.length kc).ownBlock∨∃ g,(Value.slice oa7 (Ks.length+1) oc7).ownBlock=some g/\(w5.setCell ⟨mb,3,none⟩ (.slice oa5 (Bs.length+1) oc5)).heap.size<=g:=hat7.imp_right (fun h'=>⟨_,h',by simp⟩);have hpu7:=pushed (i:=4) (s:=r.2) k6 hvmK hb7 hown7 hgrow7 hat8;obtain⟨hM8,hK8⟩:=hM6.pushK k6 hpu7;have hK9:Kp D7 wy _:=((hKx.trans hKr (fun _ h=>h)).trans hK6 (fun _ h=>h)).trans hK8 (fun _ h=>h);have HBK9:Hid (Bs++[r.1]=((U.take (t+1)).map fun t=>(Lx.bkOf g t).1)/\Ks++[r.2]=((U.take (t+1)).map fun t=>(Lx.bkOf g t).2)):=⟨hB2.out.symm,hK2'.out.symm⟩;go_roundg (U.length - (t+1))
         case measure=>omega
         case rel=>exact⟨t+1,Bs++[r.1],Ks++[r.2],by omega,by go_num,hM8,hK9,HBK9⟩
      ·have:t=U.length:=by omega
       subst this;have nR:∀ {e s:Nat} {v:Value} {n:Nat} {xs:List Value},wx.ownsRow 0 e s v n xs->e≠32->∀ g,v.ownBlock=some g->g≠w.heap.size+1:=by
        intro e s v n xs ho he g hg eg;rcases ho.2 with ⟨rfl,-⟩ | ⟨g',cap,cur,rfl,-,hh,-⟩
        ·cases hg
        ·have e1:g'=g:=Option.some.inj hg
         have hh2:wx.heap[w.heap.size+1]?=some (.cells cur e (0,0)):=by rw[<-eg,<-e1];exact hh
         unfold Blk at kRx;rw[hh2]at kRx;have e2:=Option.some.inj kRx;injection e2 with _ e3
         exact he e3
       obtain⟨ps4,p41,p42,p43⟩:=z4;obtain⟨xa0,xc0,hx0,-⟩:=own_len z2;obtain⟨xa1,xc1,hx1,-⟩:=own_len z3;obtain⟨xa2,xc2,hx2,-⟩:=own_len p42;obtain⟨xa3,xc3,hx3,-⟩:=own_len z5;obtain⟨xa4,xc4,hx4,-⟩:=own_len z6;have n0:=nR z2 (by decide);have n1:=nR z3 (by decide);have n2:=nR p42 (by decide);have n3:=nR z5 (by decide);have n4:=nR z6 (by decide);have hbwx:Below w.heap.size w wx:=⟨hKx.os.trans (hKy.os.trans hos),hKx.tape.trans (hKy.tape.trans hta),hKx.output.trans (hKy.output.trans hou),by omega,fun b hb=>(bx b (by omega)).trans (hB.block b hb)⟩;have HB1:Hid (Bs=(Lx.tokG g).map fun t=>(Lx.bkOf g t).1):=by have:=HBK.out.1;rw[List.take_length]at this;rw[HT.out];exact this
       have HB2:Hid (Ks=(Lx.tokG g).map fun t=>(Lx.bkOf g t).2):=by have:=HBK.out.2;rw[List.take_length]at this;rw[HT.out];exact this
       subst hx0 hx1 hx2 hx3 hx4;have m0:wx.cell? ⟨mb,0,none⟩=some (.slice xa0 U.length xc0):=z1.cell 0;have m1:wx.cell? ⟨mb,1,none⟩=some (.slice xa1 V.length xc1):=z1.cell 1;have m2:wx.cell? ⟨mb,2,none⟩=some (.slice xa2 P.length xc2):=z1.cell 2;have m3:wx.cell? ⟨mb,3,none⟩=some (.slice xa3 Bs.length xc3):=z1.cell 3;have m4:wx.cell? ⟨mb,4,none⟩=some (.slice xa4 Ks.length xc4):=z1.cell 4;have r0:wx.cell? ⟨w.heap.size+1,0,none⟩=some (.slice none 0 0):=kRx.cell 0;have r1:wx.cell? ⟨w.heap.size+1,1,none⟩=some (.slice none 0 0):=kRx.cell 1;have r2:wx.cell? ⟨w.heap.size+1,2,none⟩=some (.slice none 0 0):=kRx.cell 2;have r3:wx.cell? ⟨w.heap.size+1,3,none⟩=some (.slice none 0 0):=kRx.cell 3;have r4:wx.cell? ⟨w.heap.size+1,4,none⟩=some (.slice none 0 0):=kRx.cell 4;have rf:∀ i,wx.frozen? ⟨w.heap.size+1,i,none⟩=false:=kRx.frozen;have kR5:=((((kRx.set 0 (.slice xa0 U.length xc0)).set 1 (.slice xa1 V.length xc1)).set 2 (.slice xa2 P.length xc2)).set 3 (.slice xa3 Bs.length xc3)).set 4 (.slice xa4 Ks.length xc4);have s0:=kR5.cell 0;have s1:=kR5.cell 1;have s2:=kR5.cell 2;have s3:=kR5.cell 3;have s4:=kR5.cell 4;have bk:∀ g,g≠w.heap.size+1->(((((wx.setCell ⟨w.heap.size+1,0,none⟩ (.slice xa0 U.length xc0)).setCell ⟨w.heap.size+1,1,none⟩ (.slice xa1 V.length xc1)).setCell ⟨w.heap.size+1,2,none⟩ (.slice xa2 P.length xc2)).setCell ⟨w.heap.size+1,3,none⟩ (.slice xa3 Bs.length xc3)).setCell ⟨w.heap.size+1,4,none⟩ (.slice xa4 Ks.length xc4)).heap[g]?=wx.heap[g]?:=fun g hg=>by
        rw[Below.heap_setCell _ _ _ _ hg,Below.heap_setCell _ _ _ _ hg,Below.heap_setCell _ _ _ _ hg,Below.heap_setCell _ _ _ _ hg,Below.heap_setCell _ _ _ _ hg]
       have hbf:=((((hbwx.setCell (p:=⟨w.heap.size+1,0,none⟩) (Nat.le_succ _) (.slice xa0 U.length xc0)).setCell (p:=⟨w.heap.size+1,1,none⟩) (Nat.le_succ _) (.slice xa1 V.length xc1)).setCell (p:=⟨w.heap.size+1,2,none⟩) (Nat.le_succ _) (.slice xa2 P.length xc2)).setCell (p:=⟨w.heap.size+1,3,none⟩) (Nat.le_succ _) (.slice xa3 Bs.length xc3)).setCell (p:=⟨w.heap.size+1,4,none⟩) (Nat.le_succ _) (.slice xa4 Ks.length xc4);simp only[Array.setIfInBounds]at s0 s1 s2 s3 s4;go_wp2_with fail;refine bodyPost_ret (v:=.agg #[.slice xa0 U.length xc0,.slice xa1 V.length xc1,.slice xa2 P.length xc2,.slice xa3 Bs.length xc3,.slice xa4 Ks.length xc4]) (by simp[results,Tryz.results29,go_sem,r0,r1,r2,r3,r4]) rfl ⟨_,rfl,?_,hbf⟩;rw[HT.out,HN.out,HPX.out,<-HT.out,<-HB1.out,<-HB2.out,HT.out];refine⟨_,_,_,_,_,rfl,own_move z2 fun g hg=>bk g (n0 g hg),own_move z3 fun g hg=>bk g (n1 g hg),⟨ps4,p41,own_move p42 fun g hg=>bk g (n2 g hg),fun q hq=>⟨own_move (p43 q hq).1 fun g hg=>bk g (nR (p43 q hq).1 (by decide) g hg),fun g hg=>by have:=((p43 q hq).2 g hg).2;omega⟩⟩,own_move z5 fun g hg=>bk g (n3 g hg),own_move z6 fun g hg=>bk g (n4 g hg),fun g hg=>by have:=(y4 g hg).2.1;omega,fun g hg=>by have:=(y5 g hg).2;omega⟩
end Go.Proofs.YtlcppnabbicmoaaGreatDoor
