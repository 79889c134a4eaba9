import Derived.Test.YtjaalkocdbkdeaaGreatDoorSA34
set_option maxHeartbeats 8000000
set_option maxRecDepth 1000000
namespace Go.Proofs.YtjaalkocdbkdeaaGreatDoor
open Lx Go.Proofs.Tryz
open Go.RowKit
open Tr
theorem Lx.UU(g:Lx.Gr):gZ g=g.levels.flatMap fun lv=>lv.tokens.map Prod.fst:=by
 unfold gZ eP gY;rw[List.map_flatMap];congr 1;funext lv;rw[List.map_map];rfl
theorem jm.Zu {X:Nat->Prop} {mb:Nat} {w w1 w3:World} {T N:List ByteArray} {vT vN:Value} {b:ByteArray} {g2 cap2:Nat} (h0:∀g,X g->g<w.heap.size) (h1:aj w mb #[vT,vN,.slice none 0 0,.slice none 0 0,.slice none 0 0,.slice none 0 0,.slice none 0 0] 145) (h2:w.ownsRow 0 9 1 vT T.length (T.map Value.string)) (_h3:w.ownsRow 0 9 1 vN N.length (N.map Value.string)) (h4:X mb) (h5:∀g,vT.ownBlock=some g->X g) (h6:∀g,vN.ownBlock=some g->X g) (h7:vT.ownBlock≠some mb) (h8:vN.ownBlock≠some mb) (h9:vT.ownBlock=none\/vT.ownBlock≠vN.ownBlock)
  (hb:Below w.heap.size w w1) (ho:w3.ownsRow 0 9 1 (.slice (some ⟨g2,0,none⟩) (N.length+1) cap2) (N.length+1) (N.map Value.string++[.string b])) (hg:w1.grownBy w3 vN.ownBlock) (hat:vN.ownBlock=some g2\/w.heap.size<=g2) (hlt:g2<w3.heap.size) :
  jm (fun g=>X g\/(w.heap.size<=g/\g<w3.heap.size)) (w3.setCell ⟨mb,1,none⟩ (.slice (some ⟨g2,0,none⟩) (N.length+1) cap2)) mb T (N++[b])/\Fr X w (fun g=>X g\/(w.heap.size<=g/\g<w3.heap.size)) (w3.setCell ⟨mb,1,none⟩ (.slice (some ⟨g2,0,none⟩) (N.length+1) cap2)):=by
 have jQ:=h1.lt;have hs1:=hb.size;have hs3:=hg.size;have hse:(w3.setCell ⟨mb,1,none⟩ (.slice (some ⟨g2,0,none⟩) (N.length+1) cap2)).heap.size=w3.heap.size:=by simp[World.setCell]
 have hgm:g2≠mb:=by
  rcases hat with h|h
  ·exact fun e=>h8 (e▸h)
  ·omega
 have bk:∀g,g<w.heap.size->g≠mb->vN.ownBlock≠some g->(w3.setCell ⟨mb,1,none⟩ (.slice (some ⟨g2,0,none⟩) (N.length+1) cap2)).heap[g]?=w.heap[g]?:=by
  intro g hg1 hm hn;rw[zS0 hm,hg.block g (by omega) (fun e=>hn e.symm),hb.block g hg1]
 have k3:aj w3 mb #[vT,vN,.slice none 0 0,.slice none 0 0,.slice none 0 0,.slice none 0 0,.slice none 0 0] 145:=by
  unfold aj at h1|-;rw[hg.block mb (by omega) (fun e=>h8 e.symm),hb.block mb jQ];exact h1
 refine⟨⟨fun g hx=>?_,vT,_,k3.set 1 _,aC h2 fun g hx=>?_,?_,.inl h4,fun g hx=>.inl (h5 g hx),fun g hx=>?_,h7,?_,?_⟩,?_⟩
 ·rw[hse]
  rcases hx with h|h
  ·have:=h0 g h;omega
  ·exact h.2
 ·refine bk g (h2.lt g hx).2 (fun e=>h7 (e▸hx)) fun e=>?_
  rcases h9 with h|h
  ·rw[h]at hx;cases hx
  ·exact h (hx.trans e.symm)
 ·have:=aC (w':=w3.setCell ⟨mb,1,none⟩ (.slice (some ⟨g2,0,none⟩) (N.length+1) cap2)) ho (fun g hx=>zS0 (fun e=>hgm (by have e':g=mb:=e;have e'':g2=g:=(by simpa [Value.ownBlock]using hx);omega)))
  rw[List.length_append,List.map_append];exact this
 ·have e'':g2=g:=by simpa [Value.ownBlock]using hx
  subst e'';rcases hat with h|h
  ·exact .inl (h6 _ h)
  ·exact .inr ⟨h,hlt⟩
 ·intro e
  have:g2=mb:=by simpa [Value.ownBlock]using e
  exact hgm this
 ·right
  intro e;have e2:vT.ownBlock=some g2:=e;rcases hat with h|h
  ·rcases h9 with h' | h'
   ·rw[h']at e2;cases e2
   ·exact h' (e2.trans h.symm)
  ·have:=(h2.lt g2 e2).2;omega
 ·refine⟨hg.os.trans hb.os,hg.tape.trans hb.tape,hg.output.trans hb.output,by rw[hse];omega,fun g hg1 hx=>bk g hg1 (fun e=>hx (e▸h4)) (fun e=>hx (h6 g e)),fun g hx=>hx.imp_right And.left⟩
theorem agR{F:Nat->Prop}{w:World}{vL vR:Value}{g:Lx.Gr}(h:DG F w vL vR g)(hf:Lx.Fit g):
  Calls prog 26 #[.agg #[vL,vR]] w fun e w'=>∃v,e=.returned v/\K6 w.heap.size w' v (aD g) (bg g) (bI g) ((aD g).map fun t=>(eT g t).1) ((aD g).map fun t=>(eT g t).2)/\Below w.heap.size w w':=by
 obtain⟨a,c,rfl,hmr⟩:=h.sF;obtain⟨a',c',rfl,hml⟩:=h.uh;unfold maxLen at hmr hml;obtain⟨i9,hi9,hz90,hz91,hz92⟩:=info_parts Tryz.BU;go_enter func26,ntmps26;go_wp2_with fail;obtain⟨mb,hmb⟩:∃mb,w.heap.size+1+1=mb:=⟨_,rfl⟩;obtain⟨W,hW⟩:∃W,W=((((w.alloc (.cells #[.slice a' g.levels.length c',.slice a g.rules.length c] 86)).alloc (.cells #[.slice none 0 0,.slice none 0 0,.slice none 0 0,.slice none 0 0,.slice none 0 0] 54)).alloc (.cells #[.slice (some ⟨w.heap.size+1+1+1,0,none⟩) 1 1,.slice (some ⟨w.heap.size+1+1+1+1,0,none⟩) 1 1,.slice none 0 0,.slice none 0 0,.slice none 0 0,.slice none 0 0,.slice none 0 0] 145)).alloc (.cells #[.string ⟨#[36]⟩] 9)).alloc (.cells #[.string ⟨#[36,115,116,97,114,116]⟩] 9):=⟨_,rfl⟩;rw[<-hW,hmb];have hWs:W.heap.size=w.heap.size+5:=by rw[hW];simp
 have hB:Below w.heap.size w W:=by rw[hW];exact(((((Below.refl _ _).alloc (zL0) _).alloc (by simp) _).alloc (by simp;omega) _).alloc (by simp;omega) _).alloc (by simp;omega) _
 have kG:aj W w.heap.size #[.slice a' g.levels.length c',.slice a g.rules.length c] 86:=by rw[hW];exact(((((aj.new w _ 86).alloc _).alloc _).alloc _).alloc _)
 have kR:aj W (w.heap.size+1) #[.slice none 0 0,.slice none 0 0,.slice none 0 0,.slice none 0 0,.slice none 0 0] 54:=by rw[hW];simpa using (((aj.new (w.alloc (.cells #[.slice a' g.levels.length c',.slice a g.rules.length c] 86)) #[.slice none 0 0,.slice none 0 0,.slice none 0 0,.slice none 0 0,.slice none 0 0] 54).alloc _).alloc _).alloc _
 have kM:aj W mb #[.slice (some ⟨w.heap.size+1+1+1,0,none⟩) 1 1,.slice (some ⟨w.heap.size+1+1+1+1,0,none⟩) 1 1,.slice none 0 0,.slice none 0 0,.slice none 0 0,.slice none 0 0,.slice none 0 0] 145:=by
  rw[hW,<-hmb];have:=((aj.new ((w.alloc (.cells #[.slice a' g.levels.length c',.slice a g.rules.length c] 86)).alloc (.cells #[.slice none 0 0,.slice none 0 0,.slice none 0 0,.slice none 0 0,.slice none 0 0] 54)) #[.slice (some ⟨w.heap.size+1+1+1,0,none⟩) 1 1,.slice (some ⟨w.heap.size+1+1+1+1,0,none⟩) 1 1,.slice none 0 0,.slice none 0 0,.slice none 0 0,.slice none 0 0,.slice none 0 0] 145).alloc (.cells #[.string ⟨#[36]⟩] 9)).alloc (.cells #[.string ⟨#[36,115,116,97,114,116]⟩] 9);simpa using this
 have kT:aj W (w.heap.size+1+1+1) #[.string ⟨#[36]⟩] 9:=by
  rw[hW];have:=(aj.new (((w.alloc (.cells #[.slice a' g.levels.length c',.slice a g.rules.length c] 86)).alloc (.cells #[.slice none 0 0,.slice none 0 0,.slice none 0 0,.slice none 0 0,.slice none 0 0] 54)).alloc (.cells #[.slice (some ⟨w.heap.size+1+1+1,0,none⟩) 1 1,.slice (some ⟨w.heap.size+1+1+1+1,0,none⟩) 1 1,.slice none 0 0,.slice none 0 0,.slice none 0 0,.slice none 0 0,.slice none 0 0] 145)) #[.string ⟨#[36]⟩] 9).alloc (.cells #[.string ⟨#[36,115,116,97,114,116]⟩] 9);simpa using this
 have kN:aj W (w.heap.size+1+1+1+1) #[.string ⟨#[36,115,116,97,114,116]⟩] 9:=by
  rw[hW];have:=aj.new ((((w.alloc (.cells #[.slice a' g.levels.length c',.slice a g.rules.length c] 86)).alloc (.cells #[.slice none 0 0,.slice none 0 0,.slice none 0 0,.slice none 0 0,.slice none 0 0] 54)).alloc (.cells #[.slice (some ⟨w.heap.size+1+1+1,0,none⟩) 1 1,.slice (some ⟨w.heap.size+1+1+1+1,0,none⟩) 1 1,.slice none 0 0,.slice none 0 0,.slice none 0 0,.slice none 0 0,.slice none 0 0] 145)).alloc (.cells #[.string ⟨#[36]⟩] 9)) #[.string ⟨#[36,115,116,97,114,116]⟩] 9;simpa using this
 have SK:jm (fun g=>mb<=g/\g<W.heap.size) W mb [iN] [wW] :=
  ⟨fun g hg=>hg.2,_,_,kM,⟨rfl,.inr ⟨_,1,_,rfl,Nat.zero_le _,kT,zL0,by decide,rfl,rfl⟩⟩,⟨rfl,.inr ⟨_,1,_,rfl,Nat.zero_le _,kN,zL0,by decide,rfl,rfl⟩⟩,⟨zL0,by omega⟩,fun g hg=>by have:w.heap.size+1+1+1=g:=(Option.some.inj hg);omega,fun g hg=>by have:w.heap.size+1+1+1+1=g:=(Option.some.inj hg);omega,fun e=>by have:w.heap.size+1+1+1=mb:=(Option.some.inj e);omega,fun e=>by have:w.heap.size+1+1+1+1=mb:=(Option.some.inj e);omega,.inr (fun e=>by have:w.heap.size+1+1+1=w.heap.size+1+1+1+1:=(Option.some.inj e);omega)⟩
 clear hW kM kT kN;have hFX:∀b,F b->¬(mb<=b/\b<W.heap.size):=fun b hb=>by have:=h.lt b hb;omega
 generalize hX:(fun g=>mb<=g/\g<W.heap.size)=X at SK;have Fz:∀b,¬mb<=b->¬X b:=fun b hb=>by rw[<-hX];exact fun h=>hb h.1
 have hgl:g.levels.length<=2001:=by
  have h1:g.levels.length<=wY g.levels:=zU (fun l:Lx.Lv=>1+l.tokens.length) fun _ _=>by omega
  have:=hf.sz;omega
 have qb:(gZ g).length<=2001:=by have:=Od g;have:=hf.sz;omega
 rw[UU]at qb;have H0:Hid (bP [iN] (gZ g)=bP [iN] ((g.levels.drop 0).flatMap fun lv=>lv.tokens.map Prod.fst)):=by rw[UU];rfl
 clear hX hFX
 go_loopg [4] g.levels.length (fun k i wr=>∃(j:Nat)(U:List ByteArray)(Z:Nat->Prop),j+k=g.levels.length/\i=.int .i64 j/\jm Z wr mb U [wW]/\Fr X W Z wr/\U.length+((g.levels.drop j).flatMap fun lv=>lv.tokens.map Prod.fst).length<=2002/\Hid (bP [iN] (gZ g)=bP U ((g.levels.drop j).flatMap fun lv=>lv.tokens.map Prod.fst)))
 case atStart=>exact⟨0,[iN],X,by omega,rfl,SK,Fr.refl _ _,by rw[List.drop_zero,List.length_singleton];omega,H0⟩
 case round=>
  clear H0 SK qb;revert wr;intro wz hrel;obtain⟨j,U,Z,hk,rfl,hz,hbz,hnz,HZ⟩:=hrel;have hsz:=hbz.size;have bz:∀b,¬mb<=b->wz.heap[b]?=W.heap[b]?:=fun b hb=>hbz.block b (by omega) (Fz b hb)
  have Jr:∀b,¬mb<=b->¬Z b:=fun b hb hz=>(hbz.own b hz).elim (Fz b hb) (fun h=>by omega)
  have jP:aj wz w.heap.size _ 86:=(bz _ (by omega)).trans kG;have g0:wz.cell? ⟨w.heap.size,0,none⟩=some (.slice a' g.levels.length c'):=jP.cell 0
  by_cases hlt:j<g.levels.length
  ·obtain⟨gb,cap,vT,vA,hv,hF,hT,hA,Ra,CQ,d0,d1,d2⟩:=((h.below hB).move (w':=wz) (fun b hb=>bz b (by have:=h.lt b hb;omega)) hsz).level hlt
   cases hv;have hz2:=HZ.out;rw[List.drop_eq_getElem_cons hlt,List.flatMap_cons]at hz2 hnz;generalize g.levels[j]=x at d0 d1 d2 hT hA hz2 hnz;obtain⟨ta,tc,yV,Rb⟩:=aF hT;subst yV;unfold maxLen at Rb;have ny:gb<mb:=by have:=h.lt gb hF;omega
   have HZ2:Hid (_=bP U ((x.tokens.drop 0).map Prod.fst++(g.levels.drop (j+1)).flatMap fun lv=>lv.tokens.map Prod.fst)):=hz2;clear hz2 HZ hA d0 d2;go_wp2_with fail
   go_loopg [5] x.tokens.length (fun k i wr=>∃(m:Nat)(U:List ByteArray)(Y:Nat->Prop),m+k=x.tokens.length/\i=.int .i64 m/\jm Y wr mb U [wW]/\Fr Z wz Y wr/\U.length+((x.tokens.drop m).map Prod.fst++(g.levels.drop (j+1)).flatMap fun lv=>lv.tokens.map Prod.fst).length<=2002/\Hid (bP [iN] (gZ g)=bP U ((x.tokens.drop m).map Prod.fst++(g.levels.drop (j+1)).flatMap fun lv=>lv.tokens.map Prod.fst)))
   case atStart=>exact⟨0,U,Z,by omega,rfl,hz,Fr.refl _ _,hnz,HZ2⟩
   case round=>
    clear HZ2;obtain⟨m,U2,Y,hkm,rfl,hr,hbr,hnr,HR⟩:=hrel;have pV:=hbr.size;have br:∀b,¬mb<=b->wr.heap[b]?=wz.heap[b]?:=fun b hb=>hbr.block b (by omega) (Jr b hb)
    have jb:aj wr w.heap.size _ 86:=(br _ (by omega)).trans jP;have Nk:wr.cell? ⟨w.heap.size,0,none⟩=some (.slice (some ⟨gb,0,none⟩) g.levels.length c'):=jb.cell 0;have Fg:wr.cell? ⟨gb,j*3+1,none⟩=some (.slice ta x.tokens.length tc):=(World.cell?_of_block (w:=wz) (br gb (by omega))).trans d1
    by_cases bJ:m<x.tokens.length
    ·have hTr:wr.ownsRow 0 9 1 (.slice ta x.tokens.length tc) x.tokens.length (x.tokens.map fun t=>.string t.1):=aC hT fun g hg=>br g (by have:=h.lt g (Ra g hg);omega)
     obtain⟨tg,Lf,yX,-,-⟩:=hTr.form (by omega);cases yX;have t1:=hTr.cellAt m (by omega);rw[List.getElem?_map,List.getElem?_eq_getElem bJ]at t1;simp only[Option.map_some]at t1;have hr2:=HR.out;rw[List.drop_eq_getElem_cons bJ,List.map_cons,List.cons_append]at hr2 hnr;rw[List.length_cons]at hnr;generalize x.tokens[m]=tk at t1 hr2 hnr;have ltg:tg<wr.heap.size:=(hTr.lt tg rfl).2;have lgr:gb<wr.heap.size:=by omega
     have HR2:Hid (_=bP (iD U2 tk.1) ((x.tokens.drop (m+1)).map Prod.fst++(g.levels.drop (j+1)).flatMap fun lv=>lv.tokens.map Prod.fst)):=hr2;have hal:=N7 U2 tk.1;clear hr2 HR hTr;go_wp2_with fail;refine(Wm hr (by omega) tk.1).mono ?_;rintro e w2⟨⟨vq,rfl⟩,Y2,hY2,hf2⟩;have hf3:=hbr.trans hf2;go_wp2_with fail;go_roundg (x.tokens.length - (m+1))
     case measure=>omega
     case rel=>exact⟨m+1,_,Y2,by omega,by go_num,hY2,hf3,by omega,HR2⟩
    ·have:m=x.tokens.length:=by omega
     subst this;have hr2:=HR.out;rw[List.drop_length,List.map_nil,List.nil_append]at hr2 hnr;have HR2:Hid _:=hr2;clear hr2 HR;go_wp2_with fail;go_roundg (g.levels.length - (j+1))
     case measure=>omega
     case rel=>exact⟨j+1,U2,Y,by omega,by go_num,hr,hbz.trans hbr,hnr,HR2⟩
  ·have:j=g.levels.length:=by omega
   subst this;have hz2:=HZ.out;rw[List.drop_length,List.flatMap_nil]at hz2 hnz;have HTL:Hid (bP [iN] (gZ g)=U):=hz2;clear hz2 HZ hk;go_wp2_with fail;have hnb:U.length+((g.rules.drop 0).flatMap fun r=>iR 9 r.alts).length<=5000:=by have:=Xw g.rules;have:=hf.sz;rw[List.drop_zero];simp only[List.length_nil]at hnz;omega
   have hvb:[wW].length+((g.rules.drop 0).flatMap gD).length<=5000:=by have:=OB g.rules;have:=hf.sz;rw[List.drop_zero,List.length_singleton];omega
   have T0:Hid (aD g=bP U ((g.rules.drop 0).flatMap fun r=>iR 9 r.alts)):=by show _=_;unfold aD;rw[DW,HTL.out];rfl
   have N0:Hid (bg g=[wW]++(g.rules.drop 0).flatMap gD):=rfl;clear hnz HTL;generalize [wW]=V at hz hvb N0
   go_loopg [6] g.rules.length (fun k i wr=>∃(j:Nat)(U V:List ByteArray)(Z:Nat->Prop),j+k=g.rules.length/\i=.int .i64 j/\jm Z wr mb U V/\Fr X W Z wr/\U.length+((g.rules.drop j).flatMap fun r=>iR 9 r.alts).length<=5000/\V.length+((g.rules.drop j).flatMap gD).length<=5000/\Hid (aD g=bP U ((g.rules.drop j).flatMap fun r=>iR 9 r.alts))/\Hid (bg g=V++(g.rules.drop j).flatMap gD))
   case atStart=>exact⟨0,U,V,Z,by omega,rfl,hz,hbz,hnb,hvb,T0,N0⟩
   case round=>
    clear T0 N0 hnb hvb hz g0 jP Jr bz hbz hsz Z U V;revert wr;intro wz hrel;obtain⟨j,U,V,Z,hk,rfl,hz,hbz,hnb,hvb,T0,N0⟩:=hrel;have hsz:=hbz.size;have bz:∀b,¬mb<=b->wz.heap[b]?=W.heap[b]?:=fun b hb=>hbz.block b (by omega) (Fz b hb)
    have Jr:∀b,¬mb<=b->¬Z b:=fun b hb hz=>(hbz.own b hz).elim (Fz b hb) (fun h=>by omega)
    have jP:aj wz w.heap.size _ 86:=(bz _ (by omega)).trans kG;have g1:wz.cell? ⟨w.heap.size,1,none⟩=some (.slice a g.rules.length c):=jP.cell 1
    by_cases hlt:j<g.rules.length
    ·have hdz:DG F wz _ _ g:=(h.below hB).move (w':=wz) (fun b hb=>bz b (by have:=h.lt b hb;omega)) hsz
     obtain⟨gb,cap,va,hv,hF,hA,d0,d1,d2⟩:=hdz.rule hlt;cases hv;obtain⟨sa,sc,hva,-⟩:=ay.len hA;subst hva;have hrm:g.rules[j]∈g.rules:=List.getElem_mem hlt;have hrl:=(hf.rl _ hrm).1;have hhl:=hf.jH hrm;have ht2:=T0.out;have hn2:=N0.out;rw[List.drop_eq_getElem_cons hlt,List.flatMap_cons]at ht2 hn2 hnb hvb;rw[List.length_append]at hnb hvb;have hnl:=zJ g.rules[j];have hns:gD g.rules[j]=g.rules[j].name::(List.range (aR 9 g.rules[j].alts).length).map fun k=>Lx.hName g.rules[j].name (k+1):=rfl
     rw[hns]at hn2;rw[hnl]at hvb;rw[DW U]at ht2;have HT2:Hid _:=ht2;have zy:Hid _:=hn2;clear ht2 hn2 T0 N0 hns hnl hrm d2;generalize g.rules[j]=x at hA d0 d1 HT2 zy hnb hvb hrl hhl;have hxs:x.name.size<=12:=by simp only[Lx.isName,Lx.isWord,Bool.and_eq_true,decide_eq_true_eq]at hrl;omega
     have ny:gb<mb:=by have:=h.lt gb hF;omega
     clear hrl;go_wp2_with fail;refine(Wn 9 F wz _ _ hA (fun b hb=>hdz.lt b hb) Z mb U V (fun b hb=>Jr b (by have:=h.lt b hb;omega)) hz (by omega)).mono ?_;rintro e w2⟨rfl,Z2,hP2,hf2⟩;have hal:=JK (iR 9 x.alts) U;generalize bP U (iR 9 x.alts)=U2 at hP2 HT2 hal;have adu:=hbz.trans hf2;have hs2:=adu.size;have b2:∀b,¬mb<=b->w2.heap[b]?=wz.heap[b]?:=fun b hb=>hf2.block b (by omega) (Jr b hb)
     have tq:aj w2 w.heap.size _ 86:=(b2 _ (by omega)).trans jP;have g21:w2.cell? ⟨w.heap.size,1,none⟩=some (.slice (some ⟨gb,0,none⟩) g.rules.length c):=tq.cell 1;have d20:w2.cell? ⟨gb,j*3,none⟩=some (.string x.name):=(World.cell?_of_block (w:=wz) (b2 gb (by omega))).trans d0;obtain⟨q0,vT,vN,q1,q2,q3,q4,q5,q6,q7,q8,q9⟩:=hP2;obtain⟨na,nc,Io,hNm⟩:=aF q3;subst Io;unfold maxLen at hNm;have lm2:=q1.lt;have m21:w2.cell? ⟨mb,1,none⟩=some (.slice na V.length nc):=q1.cell 1;have lG2:w.heap.size<w2.heap.size:=by omega
     have amF:gb<w2.heap.size:=by omega
     have Bb:=aC (w':=(w2.alloc (.cells #[.string x.name] 9)).drew) (q3.alloc (.cells #[.string x.name] 9)) fun _ _=>rfl
     have km2:aj (w2.alloc (.cells #[.string x.name] 9)).drew mb _ 145:=(q1.alloc _).drew;have l7:Below w2.heap.size w2 (w2.alloc (.cells #[.string x.name] 9)).drew:=((Below.refl _ w2).alloc (zL0) _).drew;clear g1 hdz;go_upto_region 15 with fail
     go_cut [] from 62 to 129 (fun wx=>∃Z4,jm Z4 wx mb U2 (V++[x.name])/\Fr X W Z4 wx)
     case first=>
      go_region_law (refine step_append_lies _ rfl (.tmp 82) (.tmp 89) 41 rfl 0 9 i9 _ 1 16 underlying41 hi9 hz90 hz91 hz92 rfl (by decide) (.slice na V.length nc) V.length (V.map Value.string) (by simp[Act.eval]) Bb ⟨w2.heap.size,0,none⟩ 1 1 [.string x.name] (by simp[Act.eval]) rfl (bC (aj.new w2 _ 9).drew) (by simp[Value.oneCell']) (by decide) (by unfold maxLen;omega) (by omega) (by simp) _ rfl ?_;intro g2 cap2 w3 hown3 hgrow3 iI hlt3;have qQ:=km2.grown hgrow3 (fun e=>q8 e.symm);have c31:w3.cell? ⟨mb,1,none⟩=some (.slice na V.length nc):=qQ.cell 1;have f31:∀i,w3.frozen? ⟨mb,i,none⟩=false:=qQ.frozen)
      all_goals
       have ni:(Value.slice na V.length nc).ownBlock=some g2\/w2.heap.size<=g2:=by
        rcases iI with h'|h'
        ·exact .inl h'
        ·have:g2=w2.heap.size+1:=by simpa using h'
         exact .inr (by omega)
       obtain⟨eY,Az⟩:=jm.Zu q0 q1 q2 q3 q4 q5 q6 q7 q8 q9 l7 hown3 hgrow3 ni hlt3;have CF:=adu.trans Az;go_wp2_with fail
       go_meet
       case rel=>exact⟨_,eY,CF⟩
     case rest=>
      obtain⟨Z4,eY,CF⟩:=hcut;obtain⟨w4,hw4⟩:∃w4,w4=wc:=⟨_,rfl⟩;rw[<-hw4]at eY CF;rw[<-hw4];clear hw4 km2 Bb l7 m21 q0 q1 q2 q3 q4 q5 q6 q7 q8 q9;have hs4:=CF.size;have b4:∀b,¬mb<=b->w4.heap[b]?=W.heap[b]?:=fun b hb=>CF.block b (by omega) (Fz b hb)
      have MW:aj w4 w.heap.size _ 86:=(b4 _ (by omega)).trans kG;have g41:w4.cell? ⟨w.heap.size,1,none⟩=some (.slice (some ⟨gb,0,none⟩) g.rules.length c):=MW.cell 1;have SN:∀b,¬mb<=b->w4.heap[b]?=wz.heap[b]?:=fun b hb=>(b4 b hb).trans (bz b hb).symm
      have d41:w4.cell? ⟨gb,j*3+1,none⟩=some (.slice sa x.alts.length sc):=(World.cell?_of_block (w:=wz) (SN gb (by omega))).trans d1;have hA4:ay YR 9 F w4 (.slice sa x.alts.length sc) x.alts:=ay.move (fun b hb=>SN b (by have:=h.lt b hb;omega)) (fun _ h=>h) hA;have lG4:w.heap.size<w4.heap.size:=by omega
      have amG:gb<w4.heap.size:=by omega
      clear g21 d20 tq;go_wp2_with fail;refine(Ow 9 F w4 _ _ hA4 (by omega) (fun b hb=>by have:=h.lt b hb;omega) (by omega)).mono ?_;rintro e w5⟨u,rfl,DF,hb5⟩;obtain⟨ha,hc,tH,-⟩:=DF.len;subst tH;have wu:=eY.below hb5;have adv:=CF.trans (Fr.same (X:=Z4) hb5);clear DF eY CF;have HV:Hid (V++[x.name]=V++[x.name]++(List.range 0).map fun k=>Lx.hName x.name (k+1)):=by simp[Hid]
      have alM:(V++[x.name]).length+(aR 9 x.alts).length<=5000:=by rw[List.length_append,List.length_singleton];omega
      have SQ:Hid (bg g=V++[x.name]++(((List.range (aR 9 x.alts).length).map fun k=>Lx.hName x.name (k+1))++(g.rules.drop (j+1)).flatMap gD)):=by
       show _=_;rw[zy.out];simp[List.append_assoc]
      have hvl:V.length+1+(aR 9 x.alts).length+((g.rules.drop (j+1)).flatMap gD).length<=5000:=by omega
      clear zy hvb;have QT:(V++[x.name]).length=V.length+1:=by simp
      generalize V++[x.name]=V0 at wu HV alM SQ QT;rw[<-QT]at hvl;clear QT;generalize aR 9 x.alts=hl at *;go_wp2_with fail
      go_loopg [8] hl.length (fun k i wr=>∃(m:Nat)(V1:List ByteArray)(Y:Nat->Prop),m+k=hl.length/\i=.int .i64 m/\jm Y wr mb U2 V1/\Fr X W Y wr/\Hid (V1=V0++(List.range m).map fun k=>Lx.hName x.name (k+1)))
      case atStart=>exact⟨0,V0,Z4,by omega,rfl,wu,adv,HV⟩
      case round=>
       clear HV wu adv g41 d41 MW b4 hA4 SN;obtain⟨m,V1,Y,hkm,rfl,hr,hbr,HV⟩:=hrel;have pV:=hbr.size;have br:∀b,¬mb<=b->wr.heap[b]?=W.heap[b]?:=fun b hb=>hbr.block b (by omega) (Fz b hb)
       have brz:∀b,¬mb<=b->wr.heap[b]?=wz.heap[b]?:=fun b hb=>(br b hb).trans (bz b hb).symm
       by_cases bJ:m<hl.length
       ·have hv1:V1.length<=5000:=by rw[HV.out,List.length_append,List.length_map,List.length_range];omega
        have HV2:Hid (V1++[Lx.hName x.name (m+1)]=V0++(List.range (m+1)).map fun k=>Lx.hName x.name (k+1)):=by
         show _=_;rw[HV.out,List.range_succ,List.map_append,List.append_assoc];rfl
        clear HV;go_wp2_with fail;rw[show ((m:Int)+1)=((m+1:Nat):Int) from by omega];refine(aeF (m+1) wr (by omega)).mono ?_;rintro e w6⟨rfl,hb6⟩;have hds:=Ox (m+1);have alN:(pY (m+1)).size<=3000:=by omega
        clear hds;have IX:Hid (Lx.hName x.name (m+1)=x.name++⟨#[39]⟩++pY (m+1)):=rfl;generalize pY (m+1)=db at IX alN;have hs6:=hb6.size;have b6:∀b,¬mb<=b->w6.heap[b]?=wz.heap[b]?:=fun b hb=>(hb6.block b (by omega)).trans (brz b hb)
        have kG6:aj w6 w.heap.size _ 86:=(b6 _ (by omega)).trans jP;have g61:w6.cell? ⟨w.heap.size,1,none⟩=some (.slice (some ⟨gb,0,none⟩) g.rules.length c):=kG6.cell 1;have d60:w6.cell? ⟨gb,j*3,none⟩=some (.string x.name):=(World.cell?_of_block (w:=wz) (b6 gb (by omega))).trans d0;obtain⟨q0,vT,vN,q1,q2,q3,q4,q5,q6,q7,q8,q9⟩:=hr.below hb6;obtain⟨Nl,Nn,Io,alO⟩:=aF q3;subst Io;unfold maxLen at alO;have lm6:=q1.lt;have m61:w6.cell? ⟨mb,1,none⟩=some (.slice Nl V1.length Nn):=q1.cell 1;have lG6:w.heap.size<w6.heap.size:=by omega
        have amH:gb<w6.heap.size:=by omega
        have hsum:(x.name++(⟨#[39]⟩:ByteArray)).size=x.name.size+1:=by rw[ByteArray.size_append];rfl
        have hq1:¬9223372036854775807<x.name.size+1:=by omega
        have hq2:¬9223372036854775807<x.name.size+1+db.size:=by omega
        have Bb:=aC (w':=(w6.alloc (.cells #[.string (x.name++⟨#[39]⟩++db)] 9)).drew) (q3.alloc (.cells #[.string (x.name++⟨#[39]⟩++db)] 9)) fun _ _=>rfl
        have km6:aj (w6.alloc (.cells #[.string (x.name++⟨#[39]⟩++db)] 9)).drew mb _ 145:=(q1.alloc _).drew;have yH:Below w6.heap.size w6 (w6.alloc (.cells #[.string (x.name++⟨#[39]⟩++db)] 9)).drew:=((Below.refl _ w6).alloc (zL0) _).drew;go_wp2_with fail
        go_region_law (go_loud (refine step_append_lies _ rfl (.tmp 115) (.tmp 125) 41 rfl 0 9 i9 _ 1 16 underlying41 hi9 hz90 hz91 hz92 rfl (by decide) (.slice Nl V1.length Nn) V1.length (V1.map Value.string) (by simp[Act.eval]) Bb ⟨w6.heap.size,0,none⟩ 1 1 [.string (x.name++⟨#[39]⟩++db)] (by simp[Act.eval]) rfl (bC (aj.new w6 _ 9).drew) (by simp[Value.oneCell']) (by decide) (by unfold maxLen;omega) (by omega) (by simp) _ rfl ?_;intro g2 cap2 w7 hown3 hgrow3 iI hlt3;have qQ:=km6.grown hgrow3 (fun e=>q8 e.symm);have c31:w7.cell? ⟨mb,1,none⟩=some (.slice Nl V1.length Nn):=qQ.cell 1;have f31:∀i,w7.frozen? ⟨mb,i,none⟩=false:=qQ.frozen))
        all_goals
         have ni:(Value.slice Nl V1.length Nn).ownBlock=some g2\/w6.heap.size<=g2:=by
          rcases iI with h'|h'
          ·exact .inl h'
          ·have:g2=w6.heap.size+1:=by simpa using h'
           exact .inr (by omega)
         obtain⟨hP8,hf8⟩:=jm.Zu q0 q1 q2 q3 q4 q5 q6 q7 q8 q9 yH hown3 hgrow3 ni hlt3;rw[<-IX.out]at hP8;have alQ:=(hbr.trans (Fr.same hb6)).trans hf8;go_wp2_with fail;go_roundg (hl.length - (m+1))
         case measure=>omega
         case rel=>exact⟨m+1,_,_,by omega,by go_num,hP8,alQ,HV2⟩
       ·have:m=hl.length:=by omega
        subst this;have hv1:V1.length=V0.length+hl.length:=by rw[HV.out,List.length_append,List.length_map,List.length_range]
        have HN4:Hid (bg g=V1++(g.rules.drop (j+1)).flatMap gD):=by
         show _=_;rw[SQ.out,HV.out];simp[List.append_assoc]
        have hv2:V1.length+((g.rules.drop (j+1)).flatMap gD).length<=5000:=by omega
        clear SQ HV hv1;go_wp2_with fail;go_roundg (g.rules.length - (j+1))
        case measure=>omega
        case rel=>exact⟨j+1,U2,V1,Y,by omega,by go_num,hr,hbr,by omega,hv2,HT2,HN4⟩
    ·have:j=g.rules.length:=by omega
     subst this;have ht2:=T0.out;have hn2:=N0.out;rw[List.drop_length,List.flatMap_nil]at ht2 hn2;rw[List.append_nil]at hn2;have HT:Hid (aD g=U):=ht2;have HN:Hid (bg g=V):=hn2;clear ht2 hn2 T0 N0 hnb hvb hk;have htl:U.length<=2002:=by rw[<-HT.out];exact hf.Lu
     have hnl:V.length<=2002:=by rw[<-HN.out];exact hf.Qk
     have hM0:fP (fun g=>g<wz.heap.size/\g≠mb) F wz mb U V (U.length+1) [] []:=hz.ajs (fun g hg=>by have:=h.lt g hg;omega) (by omega) (by omega);obtain⟨-,vT,vN,q1,q2,-⟩:=hz;obtain⟨ta,tc,yV,-⟩:=aF q2;subst yV;have m0:wz.cell? ⟨mb,0,none⟩=some (.slice ta U.length tc):=q1.cell 0;have lmz:=q1.lt;have hb1:Below wz.heap.size wz (wz.alloc (.cells #[.int .i64 ((U.length:Int)+1)] 3)):=(Below.refl _ _).alloc (zL0) _;have kr1:aj (wz.alloc (.cells #[.int .i64 ((U.length:Int)+1)] 3)) wz.heap.size #[.int .i64 ((U.length:Int)+1)] 3:=aj.new wz _ 3;have hr1:IR 0 (wz.alloc (.cells #[.int .i64 ((U.length:Int)+1)] 3)) (.slice (some ⟨wz.heap.size,0,none⟩) 1 1) [U.length+1]:=⟨rfl,.inr ⟨wz.heap.size,1,_,rfl,Nat.zero_le _,kr1,zL0,by decide,rfl,rfl⟩⟩;clear q1 q2 kr1;go_wp2_with fail;refine(wX (hM0.more hb1) U.length _ [U.length+1] hr1 (fun g hg=>by have e9:wz.heap.size=g:=Option.some.inj hg;exact⟨.inr (by simp;omega),by omega⟩) (by simp)).mono ?_;rintro e w2⟨rfl,hM2,hK2⟩;obtain⟨D0,hD0⟩:∃D0:Nat->Prop,D0=fun g=>g<wz.heap.size/\g≠mb:=⟨_,rfl⟩
     have CB:∀g,¬mb<=g->D0 g:=fun g hg=>by rw[hD0];exact⟨by omega,by omega⟩
     have EM:Kp D0 wz w2:=(Kp.below hb1 (fun g hg=>by rw[hD0]at hg;exact hg.1)).trans hK2 (fun g hg=>.inl (by rw[hD0]at hg;exact hg));have hD2:∀g,D0 g->More (fun g=>g<wz.heap.size/\g≠mb) wz (wz.alloc (.cells #[.int .i64 ((U.length:Int)+1)] 3)) g:=fun g hg=>.inl (by rw[hD0]at hg;exact hg)
     generalize More (fun g=>g<wz.heap.size/\g≠mb) wz (wz.alloc (.cells #[.int .i64 ((U.length:Int)+1)] 3))=D2 at hM2 hD2 hK2;have nA:Hid (bI g=[aQ U.length U.length [U.length+1]]++iB U V (U.length+1) (g.rules.drop 0)):=by
      show _=_;unfold bI;rw[HT.out,HN.out];simp[aQ,jN];intro hh;omega
     have hbn:U.length+1+((g.rules.drop 0).flatMap gD).length<=5000:=by have:=OB g.rules;have:=hf.sz;rw[List.drop_zero];omega
     have b2:∀b,¬mb<=b->w2.heap[b]?=W.heap[b]?:=fun b hb=>(EM.block b (CB b hb)).trans (bz b hb)
     have hs2:wz.heap.size<=w2.heap.size:=EM.size;have hos:w2.os=w.os:=EM.os.trans (hbz.os.trans hB.os);have hta:w2.tape=w.tape:=EM.tape.trans (hbz.tape.trans hB.tape);have hou:w2.output=w.output:=EM.output.trans (hbz.output.trans hB.output);simp only[List.nil_append]at hM2;have EL:[aQ U.length U.length [U.length+1]].length<=1+0*10000000:=by simp
     generalize [aQ U.length U.length [U.length+1]]=P2 at hM2 nA EL;clear hM0 hr1 hb1 hD0 m0 g1 jP hK2 EM;go_wp2_with fail;rw[show ((U.length:Int)+1)=((U.length+1:Nat):Int) from by omega];have HLU:Hid (U.length+1<=2003):=(by omega:U.length+1<=2003);generalize U.length+1=b0 at *;refine aiR h hf hmb hWs hB kG CB hD2 b2 (by omega) EL hbn hM2 nA HLU HT HN htl hnl ?_;clear EL hbn hM2 nA;intro v13 v14 v15 v16 ab2 v145 v146 ab3 v148 ab4 ab5 ab6 v152 ab7 v154 ab8 ab9 v157 acd v159 v160 ace v162 acf v164 acg ach v167 v168 aci acj v171 acn v173 aco v175 acp acr acs acu acv acw v182 v183 acy acz acA acB acC acD acE acF acG v193 v194 acH v196 acI v198 acJ acK v201 acL v203 acM acN v206 acO v208 acP v210 acQ v212 acR acS acT acU acV v218 acW acX acY v222 acZ ac0 ac1 v226 v227 v228 v229 ac2 ac3 v232 v233 v234 ac4 v236 ac5 ac6 ac7 ac8 ac9 ada adb ade adf adg adh adi adj adk adl adn ado adp b bq Hq D P wy nY Bl wQ Jq;have Fw:∀b,¬mb<=b->wy.heap[b]?=W.heap[b]?:=fun b hb=>(wQ.block b (CB b hb)).trans (b2 b hb)
     have hsy:=wQ.size;have DC:aj wy w.heap.size _ 86:=(Fw _ (by omega)).trans kG;have g1:wy.cell? ⟨w.heap.size,1,none⟩=some (.slice a g.rules.length c):=DC.cell 1;clear g1 DC;obtain⟨D7,oL,hD7⟩:=nY.ajt;have alR:∀g,D0 g->D7 g:=fun g hg=>hD7 g (Bl g hg)
     clear nY Bl hD7;go_wp2_with fail;have xP:Hid ([]=((U.take 0).map fun t=>(eT g t).1)/\[]=((U.take 0).map fun t=>(eT g t).2)):=⟨rfl,rfl⟩;obtain⟨i3,hi3,Cv,Cw,hz32⟩:=info_parts Tryz.info3
     go_loopg [17] U.length (fun k i wr=>∃(t:Nat)(Bs Ks:List Nat),t+k=U.length/\i=.int .i64 t/\zo D7 wr mb U V P Bs Ks/\Kp D7 wy wr/\Hid (Bs=((U.take t).map fun t=>(eT g t).1)/\Ks=((U.take t).map fun t=>(eT g t).2)))
     case atStart=>exact⟨0,[],[],by omega,rfl,oL,Kp.refl _ _,xP⟩
     case round=>
      clear xP oL;revert wr;intro wx hrel;obtain⟨t,Bs,Ks,hkt,rfl,hMx,hKx,xP⟩:=hrel;have hsx:=hKx.size;have bx:∀b,¬mb<=b->wx.heap[b]?=W.heap[b]?:=fun b hb=>(hKx.block b (alR b (CB b hb))).trans (Fw b hb)
      have kGx:aj wx w.heap.size _ 86:=(bx _ (by omega)).trans kG;have rU:aj wx (w.heap.size+1) _ 54:=(bx _ (by omega)).trans kR;obtain⟨⟨vTx,vNx,vPx,SS,Np,vHx,vLx,z1,z2,z3,z4,z5,z6,y1,y2,y3,y4,y5⟩,znm,SV⟩:=id hMx;have lmx:=z1.lt
      by_cases hlt:t<U.length
      ·obtain⟨tg,Lf,yX,-,-⟩:=z2.form (by omega)
       rw[yX]at z1;have ltg:tg<wx.heap.size:=(z2.lt tg (by rw[yX];rfl)).2;have t2:wx.cell? ⟨tg,t,none⟩=some (.string U[t]):=by
        rw[yX]at z2;have h9:t<U.length*1:=by omega
        have:=z2.cellAt t h9;rw[List.getElem?_map,List.getElem?_eq_getElem hlt]at this;exact this
       have hB2:Hid ((U.take (t+1)).map (fun t=>(eT g t).1)=Bs++[(eT g U[t]).1]):=by show _=_;rw[xP.out.1,List.take_succ_eq_append_getElem hlt,List.map_append];rfl
       have hK2':Hid ((U.take (t+1)).map (fun t=>(eT g t).2)=Ks++[(eT g U[t]).2]):=by show _=_;rw[xP.out.2,List.take_succ_eq_append_getElem hlt,List.map_append];rfl
       have hBl:Bs.length<=2002:=by rw[xP.out.1,List.length_map,List.length_take];omega
       have hKl:Ks.length<=2002:=by rw[xP.out.2,List.length_map,List.length_take];omega
       clear xP;have Bo:Hid (eT g U[t]=Lx.bk U[t] 0 (g.levels.drop 0) (0,0)):=rfl;generalize U[t]=tk at t2 hB2 hK2' Bo;go_wp2_with fail
       go_loopg [18,19,20] g.levels.length (fun k bv kv i wr=>∃(m:Nat)(r:Nat×Nat),m+k=g.levels.length/\bv=.int .i64 (r.1:Int)/\kv=.int .i64 (r.2:Int)/\i=.int .i64 m/\Below wx.heap.size wx wr/\Hid (eT g tk=Lx.bk tk m (g.levels.drop m) r))
       case atStart=>exact⟨0,(0,0),by omega,rfl,rfl,rfl,Below.refl _ _,Bo⟩
       case round=>
        clear Bo;obtain⟨m,r,hkm,rfl,rfl,rfl,hbr,Bo⟩:=hrel;have hsr:=hbr.size;have br:∀b,¬mb<=b->wr.heap[b]?=W.heap[b]?:=fun b hb=>(hbr.block b (by omega)).trans (bx b hb)
        have jb:aj wr w.heap.size _ 86:=(br _ (by omega)).trans kG;have Nk:wr.cell? ⟨w.heap.size,0,none⟩=some (.slice a' g.levels.length c'):=jb.cell 0;have DJ:aj wr mb _ 145:=(hbr.block _ lmx).trans z1
        by_cases bJ:m<g.levels.length
        ·have hdr:DG F wr _ _ g:=(h.below hB).move (w':=wr) (fun b hb=>br b (by have:=h.lt b hb;omega)) (by omega)
         obtain⟨lb,QK,vT,vA,hv,hFl,hT,-,Ra,-,d0,d1,d2⟩:=hdr.level bJ;cases hv;obtain⟨la,lc,hvl,-⟩:=aF hT;subst hvl;have mr0:wr.cell? ⟨mb,0,none⟩=some (.slice (some ⟨tg,0,none⟩) U.length Lf):=DJ.cell 0;have tr:wr.cell? ⟨tg,t,none⟩=some (.string tk):=(World.cell?_of_block (w:=wx) (hbr.block tg ltg)).trans t2;have qg:=Bo.out;rw[List.drop_eq_getElem_cons bJ,Lx.bk]at qg;generalize g.levels[m]=x at d0 d1 d2 hT qg;have q0:=Ec (x.tokens.map Prod.fst) tk _ wr.drew (Kg (aC (w':=wr.drew) hT fun _ _=>rfl));have hrg:=zK (x.tokens.map Prod.fst) tk;have alS:(x.tokens.map Prod.fst).length<=maxLen:=(aF (Kg hT)).elim fun _ h=>h.elim fun _ h=>h.2
         unfold maxLen at alS;have llb:lb<mb:=by have:=h.lt lb hFl;omega
         have llr:lb<wr.heap.size:=by omega
         have jE:mb<wr.heap.size:=by omega
         have lGr:w.heap.size<wr.heap.size:=by omega
         have ltr:tg<wr.heap.size:=by omega
         clear d2 hdr Bo;have hdec:Hid (∀q:Int,q=bA (x.tokens.map Prod.fst) tk->decide (0<=q)=decide (0<=bA (x.tokens.map Prod.fst) tk)):=fun q hq=>by rw[hq]
         generalize Ih:bA (x.tokens.map Prod.fst) tk=fq at q0 hrg qg hdec;clear Ih hdec;go_upto_region 52 with fail
         go_cut [282] from 260 to 290 (fun bq wx=>bq=.bool (decide (0<=fq))/\Below wr.heap.size wr wx)
         case first=>
          go_region_law (refine jK rfl 62 #[.slice la x.tokens.length lc,.string tk] (by go_simp) q0 ?_;rintro e w3⟨rfl,hb3⟩;refine⟨_,rfl,?_⟩)
          all_goals
           have hb4:Below wr.heap.size wr w3:=(Below.refl _ wr).drew.trans hb3;go_wp2_with fail
           go_meet
           case rel=>exact⟨by simp,hb4⟩
         case rest=>
          obtain⟨rfl,hb4⟩:=hcut
          by_cases hin:0<=fq
          ·have HB3:Hid (eT g tk=Lx.bk tk (m+1) (g.levels.drop (m+1)) (m+1,x.kind)):=by rw[if_pos hin]at qg;exact qg
           clear qg;have g30:wc.cell? ⟨w.heap.size,0,none⟩=some (.slice (some ⟨lb,0,none⟩) g.levels.length c'):=(World.cell?_of_block (w:=wr) (hb4.block _ lGr)).trans Nk;have d30:wc.cell? ⟨lb,m*3,none⟩=some (.int .i64 (x.kind:Int)):=(World.cell?_of_block (w:=wr) (hb4.block _ llr)).trans d0;go_wp2_with fail;rw[show ((m:Int)+1)=((m+1:Nat):Int) from by omega];go_roundg (g.levels.length - (m+1))
           case measure=>omega
           case rel=>exact⟨m+1,(m+1,x.kind),by omega,rfl,rfl,rfl,hbr.trans (hb4.mono hsr),HB3⟩
          ·have HB3:Hid (eT g tk=Lx.bk tk (m+1) (g.levels.drop (m+1)) r):=by rw[if_neg hin]at qg;exact qg
           clear qg;go_wp2_with fail;go_roundg (g.levels.length - (m+1))
           case measure=>omega
           case rel=>exact⟨m+1,r,by omega,rfl,rfl,by go_num,hbr.trans (hb4.mono hsr),HB3⟩
        ·have:m=g.levels.length:=by omega
         subst this;have qg:=Bo.out;rw[List.drop_length,Lx.bk]at qg;rw[qg]at hB2 hK2';clear qg Bo;have aO:zo D7 wr mb U V P Bs Ks:=by
          refine⟨⟨_,vNx,vPx,SS,Np,vHx,vLx,DJ,?_,aC z3 fun g hg=>hbr.block g (z3.lt g hg).2,z4.move (fun _ h=>h) (fun g hg=>hbr.block g (SV g hg.1)) (fun g hg=>hbr.block g (z4.blk g hg)),aC z5 fun g hg=>hbr.block g (z5.lt g hg).2,aC z6 fun g hg=>hbr.block g (z6.lt g hg).2,by rw[<-yX];exact y1,y2,y3,y4,y5⟩,znm,fun g hg=>Nat.lt_of_lt_of_le (SV g hg) hsr⟩;rw[<-yX];exact aC z2 fun g hg=>hbr.block g (z2.lt g hg).2
         have hKr:Kp D7 wx wr:=Kp.below hbr SV;have z5r:IR 0 wr SS Bs:=aC z5 fun g hg=>hbr.block g (z5.lt g hg).2
         have uQ:SS.ownBlock≠some mb:=fun e=>Nat.lt_irrefl _ (y4 mb e).2.1
         obtain⟨ba,bc,hvB,-⟩:=aF z5r;subst hvB;have jE:mb<wr.heap.size:=by omega
         have m3:wr.cell? ⟨mb,3,none⟩=some (.slice ba Bs.length bc):=DJ.cell 3;have hb1:Below wr.heap.size wr (wr.alloc (.cells #[.int .i64 (r.1:Int)] 3)):=(Below.refl _ _).alloc (zL0) _;have QU:IR 0 wr Np Ks:=aC z6 fun g hg=>hbr.block g (z6.lt g hg).2
         have QV:Np.ownBlock≠some mb:=fun e=>Nat.lt_irrefl _ (y5 mb e).2
         have hBK:∀g,Np.ownBlock=some g->(Value.slice ba Bs.length bc).ownBlock≠some g:=fun g hg e=>(y4 g e).2.2 hg
         obtain⟨ka,kc,hvK,-⟩:=aF QU;subst hvK;have m4:wr.cell? ⟨mb,4,none⟩=some (.slice ka Ks.length kc):=DJ.cell 4
         go_wp2_with (first
          | (at_builtin;refine wpList_append_own_at _ rfl _ _ 43 rfl 0 3 i3 _ 1 8 underlying43 hi3 Cv Cw hz32 rfl (by decide) (.slice ba Bs.length bc) _ _ rfl (World.ownsRow.alloc z5r _) ⟨_,0,none⟩ 1 1 [.int .i64 (r.1:Int)] rfl rfl (bC (aj.new _ _ 3)) (by simp[Value.oneCell']) (by unfold maxLen;omega) (by omega) (by simp) ?_;intro v5 w5 hown5 aU _ j6;obtain⟨dU,dV,hv5,-⟩:=aF hown5;subst hv5;have lT:=(DJ.alloc (.cells #[.int .i64 (r.1:Int)] 3)).grown aU (fun e=>uQ e.symm);have c53:w5.cell? ⟨mb,3,none⟩=some (.slice ba Bs.length bc):=lT.cell 3;have f53:∀i,w5.frozen? ⟨mb,i,none⟩=false:=lT.frozen;have MH:w5.cell? ⟨mb,4,none⟩=some (.slice ka Ks.length kc):=lT.cell 4;have lm5:=lT.lt;have uj:(Value.slice dU (Bs.length+1) dV).ownBlock=(Value.slice ba Bs.length bc).ownBlock\/∃g,(Value.slice dU (Bs.length+1) dV).ownBlock=some g/\wr.heap.size<=g:=j6.imp_right (fun h'=>⟨_,h',by simp⟩);have Jp:=pushed (i:=3) (s:=r.1) DJ uQ hb1 hown5 aU uj;obtain⟨kP,nX⟩:=aO.pushB DJ Jp;have k6:aj (w5.setCell ⟨mb,3,none⟩ (.slice dU (Bs.length+1) dV)) mb #[.slice (some ⟨tg,0,none⟩) U.length Lf,vNx,vPx,.slice dU (Bs.length+1) dV,.slice ka Ks.length kc,vHx,vLx] 145:=Jp.blk;have z6r:IR 0 (w5.setCell ⟨mb,3,none⟩ (.slice dU (Bs.length+1) dV)) (.slice ka Ks.length kc) Ks:=aC QU (fun g hg=>Jp.keep g (QU.lt g hg).2 (fun e=>QV (e▸hg)) (hBK g hg)))
          | (at_builtin;go_loud (refine wpList_append_own_at _ rfl _ _ 43 rfl 0 3 i3 _ 1 8 underlying43 hi3 Cv Cw hz32 rfl (by decide) (.slice ka Ks.length kc) _ _ rfl (World.ownsRow.alloc z6r _) ⟨_,0,none⟩ 1 1 [.int .i64 (r.2:Int)] rfl rfl (by have:=bC (aj.new (w5.setCell ⟨mb,3,none⟩ (.slice dU (Bs.length+1) dV)) #[.int .i64 (r.2:Int)] 3);simpa [World.setCell]using this) (by simp[Value.oneCell']) (by unfold maxLen;omega) (by omega) (by simp) ?_;intro v7 w7 Gv Y9 _ alT;obtain⟨oa7,oc7,hv7,-⟩:=aF Gv;subst hv7;have SX:=(k6.alloc (.cells #[.int .i64 (r.2:Int)] 3)).grown Y9 (fun e=>QV e.symm);have SF:w7.cell? ⟨mb,4,none⟩=some (.slice ka Ks.length kc):=SX.cell 4;have f74:∀i,w7.frozen? ⟨mb,i,none⟩=false:=SX.frozen;have lm7:=SX.lt)))
         have jc:Below (w5.setCell ⟨mb,3,none⟩ (.slice dU (Bs.length+1) dV)).heap.size (w5.setCell ⟨mb,3,none⟩ (.slice dU (Bs.length+1) dV)) ((w5.setCell ⟨mb,3,none⟩ (.slice dU (Bs.length+1) dV)).alloc (.cells #[.int .i64 (r.2:Int)] 3)):=(Below.refl _ _).alloc (zL0) _;have alU:(Value.slice oa7 (Ks.length+1) oc7).ownBlock=(Value.slice ka Ks.length kc).ownBlock\/∃g,(Value.slice oa7 (Ks.length+1) oc7).ownBlock=some g/\(w5.setCell ⟨mb,3,none⟩ (.slice dU (Bs.length+1) dV)).heap.size<=g:=alT.imp_right (fun h'=>⟨_,h',by simp⟩);have alV:=pushed (i:=4) (s:=r.2) k6 QV jc Gv Y9 alU;obtain⟨DI,wP⟩:=kP.aju k6 alV;have zx:Kp D7 wy _:=((hKx.trans hKr (fun _ h=>h)).trans nX (fun _ h=>h)).trans wP (fun _ h=>h);have alW:Hid (Bs++[r.1]=((U.take (t+1)).map fun t=>(eT g t).1)/\Ks++[r.2]=((U.take (t+1)).map fun t=>(eT g t).2)):=⟨hB2.out.symm,hK2'.out.symm⟩;go_roundg (U.length - (t+1))
         case measure=>omega
         case rel=>exact⟨t+1,Bs++[r.1],Ks++[r.2],by omega,by go_num,DI,zx,alW⟩
      ·have:t=U.length:=by omega
       subst this;have nR:∀{e s:Nat}{v:Value}{n:Nat}{xs:List Value},wx.ownsRow 0 e s v n xs->e≠54->∀g,v.ownBlock=some g->g≠w.heap.size+1:=by
        intro e s v n xs ho he g hg eg;rcases ho.2 with ⟨rfl,-⟩|⟨g',cap,cur,rfl,-,hh,-⟩
        ·cases hg
        ·have e1:g'=g:=Option.some.inj hg
         have SY:wx.heap[w.heap.size+1]?=some (.cells cur e (0,0)):=by rw[<-eg,<-e1];exact hh
         unfold aj at rU;rw[SY]at rU;have e2:=Option.some.inj rU;injection e2 with _ e3
         exact he e3
       obtain⟨ps4,p41,p42,p43⟩:=z4;obtain⟨xQ,xc0,hx0,-⟩:=aF z2;obtain⟨xa1,xR,hx1,-⟩:=aF z3;obtain⟨xS,xU,hx2,-⟩:=aF p42;obtain⟨xV,xW,hx3,-⟩:=aF z5;obtain⟨xX,xY,hx4,-⟩:=aF z6;have n0:=nR z2 (by decide);have n1:=nR z3 (by decide);have n2:=nR p42 (by decide);have n3:=nR z5 (by decide);have n4:=nR z6 (by decide);have alX:Below w.heap.size w wx:=⟨hKx.os.trans (wQ.os.trans hos),hKx.tape.trans (wQ.tape.trans hta),hKx.output.trans (wQ.output.trans hou),by omega,fun b hb=>(bx b (by omega)).trans (hB.block b hb)⟩;have HB1:Hid (Bs=(aD g).map fun t=>(eT g t).1):=by have:=xP.out.1;rw[List.take_length]at this;rw[HT.out];exact this
       have HB2:Hid (Ks=(aD g).map fun t=>(eT g t).2):=by have:=xP.out.2;rw[List.take_length]at this;rw[HT.out];exact this
       subst hx0 hx1 hx2 hx3 hx4;have m0:wx.cell? ⟨mb,0,none⟩=some (.slice xQ U.length xc0):=z1.cell 0;have m1:wx.cell? ⟨mb,1,none⟩=some (.slice xa1 V.length xR):=z1.cell 1;have m2:wx.cell? ⟨mb,2,none⟩=some (.slice xS P.length xU):=z1.cell 2;have m3:wx.cell? ⟨mb,3,none⟩=some (.slice xV Bs.length xW):=z1.cell 3;have m4:wx.cell? ⟨mb,4,none⟩=some (.slice xX Ks.length xY):=z1.cell 4;have r0:wx.cell? ⟨w.heap.size+1,0,none⟩=some (.slice none 0 0):=rU.cell 0;have r1:wx.cell? ⟨w.heap.size+1,1,none⟩=some (.slice none 0 0):=rU.cell 1;have r2:wx.cell? ⟨w.heap.size+1,2,none⟩=some (.slice none 0 0):=rU.cell 2;have r3:wx.cell? ⟨w.heap.size+1,3,none⟩=some (.slice none 0 0):=rU.cell 3;have r4:wx.cell? ⟨w.heap.size+1,4,none⟩=some (.slice none 0 0):=rU.cell 4;have rf:∀i,wx.frozen? ⟨w.heap.size+1,i,none⟩=false:=rU.frozen;have qV:=((((rU.set 0 (.slice xQ U.length xc0)).set 1 (.slice xa1 V.length xR)).set 2 (.slice xS P.length xU)).set 3 (.slice xV Bs.length xW)).set 4 (.slice xX Ks.length xY);have s0:=qV.cell 0;have s1:=qV.cell 1;have s2:=qV.cell 2;have s3:=qV.cell 3;have s4:=qV.cell 4;have bk:∀g,g≠w.heap.size+1->(((((wx.setCell ⟨w.heap.size+1,0,none⟩ (.slice xQ U.length xc0)).setCell ⟨w.heap.size+1,1,none⟩ (.slice xa1 V.length xR)).setCell ⟨w.heap.size+1,2,none⟩ (.slice xS P.length xU)).setCell ⟨w.heap.size+1,3,none⟩ (.slice xV Bs.length xW)).setCell ⟨w.heap.size+1,4,none⟩ (.slice xX Ks.length xY)).heap[g]?=wx.heap[g]?:=fun g hg=>by
        rw[zS0 hg,zS0 hg,zS0 hg,zS0 hg,zS0 hg]
       have hbf:=((((alX.setCell (p:=⟨w.heap.size+1,0,none⟩) (Nat.le_succ _) (.slice xQ U.length xc0)).setCell (p:=⟨w.heap.size+1,1,none⟩) (Nat.le_succ _) (.slice xa1 V.length xR)).setCell (p:=⟨w.heap.size+1,2,none⟩) (Nat.le_succ _) (.slice xS P.length xU)).setCell (p:=⟨w.heap.size+1,3,none⟩) (Nat.le_succ _) (.slice xV Bs.length xW)).setCell (p:=⟨w.heap.size+1,4,none⟩) (Nat.le_succ _) (.slice xX Ks.length xY);simp only[Array.setIfInBounds]at s0 s1 s2 s3 s4;go_wp2_with fail;refine bodyPost_ret (v:=.agg #[.slice xQ U.length xc0,.slice xa1 V.length xR,.slice xS P.length xU,.slice xV Bs.length xW,.slice xX Ks.length xY]) (by simp[results,results26,go_sem,r0,r1,r2,r3,r4]) rfl ⟨_,rfl,?_,hbf⟩;rw[HT.out,HN.out,Jq.out,<-HT.out,<-HB1.out,<-HB2.out,HT.out];refine⟨_,_,_,_,_,rfl,aC z2 fun g hg=>bk g (n0 g hg),aC z3 fun g hg=>bk g (n1 g hg),⟨ps4,p41,aC p42 fun g hg=>bk g (n2 g hg),fun q hq=>⟨aC (p43 q hq).1 fun g hg=>bk g (nR (p43 q hq).1 (by decide) g hg),fun g hg=>by have:=((p43 q hq).2 g hg).2;omega⟩⟩,aC z5 fun g hg=>bk g (n3 g hg),aC z6 fun g hg=>bk g (n4 g hg),fun g hg=>by have:=(y4 g hg).2.1;omega,fun g hg=>by have:=(y5 g hg).2;omega⟩
end Go.Proofs.YtjaalkocdbkdeaaGreatDoor
