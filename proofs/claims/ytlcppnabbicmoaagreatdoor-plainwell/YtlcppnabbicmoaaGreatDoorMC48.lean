import Derived.Test.YtlcppnabbicmoaaGreatDoorMC47
namespace Go.Proofs.YtlcppnabbicmoaaGreatDoor
open Go.RowKit
open Lx (Tk)
open Tr
theorem hd_end {s:ByteArray}{q:Nat}{w:World}{ts:List Tk}{nest:Int}{sgv:Value}{sg:List ByteArray}(h:RR s q w ts nest sgv sg):Lx.hd ts=Lx.noText↔¬ Lx.pl ts<s.size:=by
 constructor
 ·intro e hp
  have hse:=Lx.signEnd_bd hp
  have hhd:Lx.hd ts=s.extract (Lx.pl ts) (Lx.signEnd s (Lx.pl ts)):=by rw [h.lex];rw [Lx.pl_lexAt h.ple,Lx.hd_lexAt hp]
  have:=congrArg ByteArray.size (hhd.symm.trans e)
  rw [ByteArray.size_extract] at this
  have h0:(Lx.noText).size=0:=rfl
  omega
 ·intro hp
  have:=h.lex
  rw [Lx.lexAt_done (by omega)] at this
  rw [this];rfl
set_option maxHeartbeats 8000000 in
set_option maxRecDepth 100000 in
theorem rread_short (s:ByteArray) (w:World) (h:¬ 2000<s.size) :
  Calls Tryz.prog 36 #[.string s] w (REnds s (w.heap.size+1) 0 (RVGram w.heap.size (w.heap.size+1)) (XGram (w.heap.size+1)) w (.slice none 0 0) (rread s)):=by
 obtain⟨k0,ki,kz0,kz1,kz2⟩:=info_parts Tryz.info137
 obtain⟨j0,ji,jz0,jz1,jz2⟩:=info_parts Tryz.info99
 have HRD:Hid (rread s=Lx.pGrammar (Lx.lex s)):=if_neg h
 have hl:decide ((2000:Int)<(s.size:Int))=false:=decide_eq_false (by omega)
 have hss:s.size≤2000:=by omega
 have kB:=((Blk.new w #[.slice none 0 0,.slice none 0 0] 49).alloc (.cells #[.string s,.int .i64 0,.string ⟨#[]⟩,.int .i64 0,.int .i64 0,.int .i64 0,.slice none 0 0] 89)).alloc (.cells #[.slice none 0 0,.slice none 0 0] 49)
 have kq:=(Blk.new (w.alloc (.cells #[.slice none 0 0,.slice none 0 0] 49)) #[.string s,.int .i64 0,.string ⟨#[]⟩,.int .i64 0,.int .i64 0,.int .i64 0,.slice none 0 0] 89).alloc (.cells #[.slice none 0 0,.slice none 0 0] 49)
 have kG:=Blk.new ((w.alloc (.cells #[.slice none 0 0,.slice none 0 0] 49)).alloc (.cells #[.string s,.int .i64 0,.string ⟨#[]⟩,.int .i64 0,.int .i64 0,.int .i64 0,.slice none 0 0] 89)) #[.slice none 0 0,.slice none 0 0] 49
 rw [show (w.alloc (.cells #[.slice none 0 0,.slice none 0 0] 49)).heap.size=w.heap.size+1 by simp] at kq
 rw [show ((w.alloc (.cells #[.slice none 0 0,.slice none 0 0] 49)).alloc (.cells #[.string s,.int .i64 0,.string ⟨#[]⟩,.int .i64 0,.int .i64 0,.int .i64 0,.slice none 0 0] 89)).heap.size=w.heap.size+1+1 by simp] at kG
 have M0:=(((Mv.refl (w.heap.size+1) (.slice none 0 0) w).alloc (.cells #[.slice none 0 0,.slice none 0 0] 49)).alloc (.cells #[.string s,.int .i64 0,.string ⟨#[]⟩,.int .i64 0,.int .i64 0,.int .i64 0,.slice none 0 0] 89)).alloc (.cells #[.slice none 0 0,.slice none 0 0] 49)
 clear h
 go_enter Tryz.func36,Tryz.ntmps36
 go_wp2_with fail
 refine (first_rr hss kq).mono ?_
 rintro e w0 ⟨rfl,sg0,m0,x0,hr0⟩
 have f0B:=x0.keep (b:=w.heap.size) kB.lt (by simp [Value.ownBlock])
 have f0G:=x0.keep (b:=w.heap.size+1+1) kG.lt (by simp [Value.ownBlock])
 have kB0:=kB.mv m0 (by omega) (by simp [Value.ownBlock])
 have kG0:=kG.mv m0 (by omega) (by simp [Value.ownBlock])
 have M00:=M0.trans (Nx.refl _ _) m0
 have X00:=(Nx.refl (.slice none 0 0) w).trans M0.size x0
 have hcnt:=hr0.cnt
 go_wp2_with fail
 go_loopg [] ((Lx.lex s).length+1) (fun k wr=>(∃ (tsr:List Tk) (acc:List Lx.Lv) (v sgr:Value) (slr:List ByteArray) (f:Nat),tsr.length+1=k∧tsr.length≤f∧acc.length+tsr.length≤(Lx.lex s).length∧RR s (w.heap.size+1) wr tsr 0 sgr slr∧Blk wr (w.heap.size+1+1) #[v,.slice none 0 0] 49∧Blk wr w.heap.size #[.slice none 0 0,.slice none 0 0] 49∧sgr.ownBlock≠some w.heap.size∧sgr.ownBlock≠some (w.heap.size+1+1) ∧
   RGrow (w.heap.size+3) sgr wr 137 3 cLv KLv v acc∧Mv (w.heap.size+1) (.slice none 0 0) w wr∧Nx (.slice none 0 0) w sgr∧Hid (Lx.pLevels f tsr acc=Lx.pLevels (Lx.lex s).length (Lx.lex s) [])) ∨
  (∃ (n a:Nat) (xa:Option Addr) (xk xc:Nat) (sgr:Value) (slr:List ByteArray),k=0∧RX s (w.heap.size+1) wr 0 n a sgr slr∧Blk wr (w.heap.size+1+1) #[.slice xa xk xc,.slice none 0 0] 49∧Blk wr w.heap.size #[.slice none 0 0,.slice none 0 0] 49∧sgr.ownBlock≠some w.heap.size∧Mv (w.heap.size+1) (.slice none 0 0) w wr∧Nx (.slice none 0 0) w sgr∧Hid (rread s=.error (n,a))))
 case atStart=>exact .inl ⟨Lx.lex s,[],_,sg0,[],(Lx.lex s).length,rfl,Nat.le_refl _,by simp,hr0,kG0,kB0,f0B,f0G,RGrow.nil _ _ _ _ _ _ _,M00,X00,rfl⟩
 case round =>
  revert wr
  intro wz hrel
  clear hr0 kG0 kB0 f0B f0G M00 X00 m0 x0 M0 kB kq kG
  rcases hrel with ⟨tsr,acc,v,sgr,slr,f,hk,hf,hacc,hr,kG,kB,fB,fG,hgrow,M,X,hpi⟩ | ⟨n,a,xa,xk,xc,sgr,slr,hk,hx,kG,kB,fB,M,X,HE⟩
  ·have hne:=hr.wf.ne
   have htl:=hr.wf.tail_len
   obtain⟨f',rfl⟩:∃ f',f=f'+1:=⟨f-1,by omega⟩
   obtain⟨ps,F,hrg⟩:=hgrow
   obtain⟨va,vc,rfl⟩:=own_form2 hrg.1.2.1
   have lG:=kG.lt
   have c2:wz.cell? ⟨w.heap.size+1,2,none⟩=some (.string (Lx.refW (Lx.hd tsr))):=hr.blk.cell 2
   have c4:wz.cell? ⟨w.heap.size+1,4,none⟩=some (.int .i64 0):=hr.blk.cell 4
   by_cases hkd:Lx.hd tsr=Lx.tLeft
   ·have HK:Hid (Lx.known (Lx.hd tsr)=true):=by show _=_;rw [hkd];decide
    have HNT:Hid (Lx.hd tsr≠Lx.noText):=by show _≠_;rw [hkd];decide
    have HKK:Hid (0=(Lx.levelKind (Lx.hd tsr)).toNat):=by show _=_;rw [hkd];decide
    have HLK:Hid (0≤Lx.levelKind (Lx.hd tsr)):=by show _≤_;rw [hkd];decide
    have tl:((Lx.refW (Lx.hd tsr)).toList == [37,108,101,102,116])=true:=by rw [hkd,Lx.refW_known (by decide),ByteArray.toList_eq];rfl
    have tr:((Lx.refW (Lx.hd tsr)).toList == [37,114,105,103,104,116])=false:=text_no (l:=[37,114,105,103,104,116]) (fun e=>by have:=(Lx.refW_eq (b:=Lx.tRight) (by decide) (by decide)).1 e;rw [hkd] at this;exact absurd this (by decide))
    have tn:((Lx.refW (Lx.hd tsr)).toList == [37,110,111,110,101])=false:=text_no (l:=[37,110,111,110,101]) (fun e=>by have:=(Lx.refW_eq (b:=Lx.tNone) (by decide) (by decide)).1 e;rw [hkd] at this;exact absurd this (by decide))
    clear hkd
    go_wp2_with fail
    refine (rlevel_rr s (w.heap.size+1) wz tsr sgr slr 0 hr HK.out HNT.out HKK.out).mono ?_
    intro e w1 he
    cases hit:Lx.pLevel tsr with
    | error x =>
     obtain⟨n,a⟩:=x
     obtain⟨v1,sg1,sl1,rfl,m1,x1,h1,yk,ya,yl,yc,za,zl,zc,rfl⟩:=he.err hit
     have HE:Hid (rread s=.error (n,a)):=by
      show _=_;rw [HRD.out,Lx.pGrammar_eq,←hpi.out];simp only [Lx.pLevels];rw [if_pos HLK.out,hit];rfl
     clear hit he hpi
     have hrg1:=hrg.mv lv_movable m1 x1 (by omega)
     have kG1:=kG.mv m1 (by omega) fG
     have kB1:=kB.mv m1 (by omega) fB
     have f1B:=x1.keep (b:=w.heap.size) kB.lt fB
     have f1G:=x1.keep (b:=w.heap.size+1+1) kG.lt fG
     have M1:=M.trans X m1
     have sM1:=m1.size
     have X1:=X.trans M.size x1
     have lG1:=kG1.lt
     have cc0:w1.cell? ⟨w.heap.size+1+1,0,none⟩=some (Value.slice va acc.length vc):=kG1.cell 0
     have hown1:=hrg1.1.2.1
     have hge:∀ k,(Value.slice va acc.length vc).ownBlock=some k→(w.heap.size+3)≤k:=fun k hk=>(hown1.lt _ hk).1
     go_wp2_with (first
      | (at_builtin;refine wpList_append_lies _ rfl _ _ 46 rfl (w.heap.size+3) 137 k0 _ 3 56 Tryz.underlying46 ki kz0 kz1 kz2 rfl (by decide) (Value.slice va acc.length vc) acc.length (ps.flatMap cLv) rfl ((hown1.alloc _).alloc _) ⟨w1.heap.size+1,0,none⟩ 1 1 [.int .i64 yk,.slice ya yl yc,.slice za zl zc] rfl rfl (by have:=news_of (Blk.new (w1.alloc (.cells #[.int .i64 yk,.slice ya yl yc,.slice za zl zc] 137)) #[.int .i64 yk,.slice ya yl yc,.slice za zl zc] 137);simpa using this) (by simp [Value.oneCell']) (by decide) (by unfold maxLen;omega) (by omega) (by simp;omega) _ rfl ?_;intro g3 cap3 w3 hown3 hgrow3 hat3 hlt3;have kG3:=((kG1.alloc _).alloc _).grown hgrow3 (fun e=>by have:=hge _ e.symm;omega);have c03:w3.cell? ⟨w.heap.size+1+1,0,none⟩=some (Value.slice va acc.length vc):=kG3.cell 0;have f03:∀ i,w3.frozen? ⟨w.heap.size+1+1,i,none⟩=false:=kG3.frozen))
     have kB3:=((kB1.alloc (.cells #[.int .i64 yk,.slice ya yl yc,.slice za zl zc] 137)).alloc (.cells #[.int .i64 yk,.slice ya yl yc,.slice za zl zc] 137)).grown hgrow3 (fun e=>by have:=hge _ e.symm;omega)
     have M3:=((M1.alloc (.cells #[.int .i64 yk,.slice ya yl yc,.slice za zl zc] 137)).alloc (.cells #[.int .i64 yk,.slice ya yl yc,.slice za zl zc] 137)).grown hgrow3 (fun k hk=>.inl (by have:=hge _ hk;omega))
     have h3:=(((h1.alloc (.cells #[.int .i64 yk,.slice ya yl yc,.slice za zl zc] 137)).alloc (.cells #[.int .i64 yk,.slice ya yl yc,.slice za zl zc] 137)).move (hgrow3.block (w.heap.size+1) (by simp;omega) (fun e=>by have:=hge _ e.symm;omega)) (fun g hg=>hgrow3.block g (by have:=h1.owl g hg;simp;omega) (fun e=>hrg1.2.2 g e.symm hg)))
     go_roundg 0
     case measure=>omega
     case rel=>exact .inr ⟨n,a,_,_,_,sg1,sl1,rfl,h3.other _ _ (by omega) f1G,kG3.set 0 _,kB3.other (by omega) _,f1B,M3.new (by omega) _ _,X1,HE⟩
    | ok x =>
     obtain⟨lv,ts1⟩:=x
     obtain⟨v1,sg1,sl1,rfl,m1,x1,h1,vT,vA,rfl,hrows⟩:=he.ok hit
     obtain⟨ta,tc,rfl⟩:=own_form2 hrows.1
     obtain⟨aa,ac,rfl⟩:=own_form2 hrows.2.1
     have hklv:=hrows.klv
     have hl1:=Lx.pLevel_len hit
     have HPI:Hid (Lx.pLevels f' ts1 (acc++[lv])=Lx.pLevels (Lx.lex s).length (Lx.lex s) []):=by
      show _=_;rw [←hpi.out];simp only [Lx.pLevels];rw [if_pos HLK.out,hit]
     clear hit he hpi
     have hrg1:=hrg.mv lv_movable m1 x1 (by omega)
     have kG1:=kG.mv m1 (by omega) fG
     have kB1:=kB.mv m1 (by omega) fB
     have f1B:=x1.keep (b:=w.heap.size) kB.lt fB
     have f1G:=x1.keep (b:=w.heap.size+1+1) kG.lt fG
     have M1:=M.trans X m1
     have sM1:=m1.size
     have X1:=X.trans M.size x1
     have lG1:=kG1.lt
     have cc0:w1.cell? ⟨w.heap.size+1+1,0,none⟩=some (Value.slice va acc.length vc):=kG1.cell 0
     have hown1:=hrg1.1.2.1
     have hge:∀ k,(Value.slice va acc.length vc).ownBlock=some k→(w.heap.size+3)≤k:=fun k hk=>(hown1.lt _ hk).1
     go_wp2_with (first
      | (at_builtin;refine wpList_append_lies _ rfl _ _ 46 rfl (w.heap.size+3) 137 k0 _ 3 56 Tryz.underlying46 ki kz0 kz1 kz2 rfl (by decide) (Value.slice va acc.length vc) acc.length (ps.flatMap cLv) rfl ((hown1.alloc _).alloc _) ⟨w1.heap.size+1,0,none⟩ 1 1 [.int .i64 (lv.kind:Int),.slice ta lv.tokens.length tc,.slice aa lv.tokens.length ac] rfl rfl (by have:=news_of (Blk.new (w1.alloc (.cells #[.int .i64 (lv.kind:Int),.slice ta lv.tokens.length tc,.slice aa lv.tokens.length ac] 137)) #[.int .i64 (lv.kind:Int),.slice ta lv.tokens.length tc,.slice aa lv.tokens.length ac] 137);simpa using this) (by simp [Value.oneCell']) (by decide) (by unfold maxLen;omega) (by omega) (by simp;omega) _ rfl ?_;intro g3 cap3 w3 hown3 hgrow3 hat3 hlt3;have kG3:=((kG1.alloc _).alloc _).grown hgrow3 (fun e=>by have:=hge _ e.symm;omega);have c03:w3.cell? ⟨w.heap.size+1+1,0,none⟩=some (Value.slice va acc.length vc):=kG3.cell 0;have f03:∀ i,w3.frozen? ⟨w.heap.size+1+1,i,none⟩=false:=kG3.frozen))
     have kB3:=((kB1.alloc (.cells #[.int .i64 (lv.kind:Int),.slice ta lv.tokens.length tc,.slice aa lv.tokens.length ac] 137)).alloc (.cells #[.int .i64 (lv.kind:Int),.slice ta lv.tokens.length tc,.slice aa lv.tokens.length ac] 137)).grown hgrow3 (fun e=>by have:=hge _ e.symm;omega)
     have M3:=((M1.alloc (.cells #[.int .i64 (lv.kind:Int),.slice ta lv.tokens.length tc,.slice aa lv.tokens.length ac] 137)).alloc (.cells #[.int .i64 (lv.kind:Int),.slice ta lv.tokens.length tc,.slice aa lv.tokens.length ac] 137)).grown hgrow3 (fun k hk=>.inl (by have:=hge _ hk;omega))
     have h3:=(((h1.alloc (.cells #[.int .i64 (lv.kind:Int),.slice ta lv.tokens.length tc,.slice aa lv.tokens.length ac] 137)).alloc (.cells #[.int .i64 (lv.kind:Int),.slice ta lv.tokens.length tc,.slice aa lv.tokens.length ac] 137)).move (hgrow3.block (w.heap.size+1) (by simp;omega) (fun e=>by have:=hge _ e.symm;omega)) (fun g hg=>hgrow3.block g (by have:=h1.owl g hg;simp;omega) (fun e=>hrg1.2.2 g e.symm hg)))
     have G3:=RGrowBy.push lv_movable hrg (q:=(w.heap.size+1)) (by omega) (by omega) m1 x1 h1.owl (.agg #[.slice ta lv.tokens.length tc,.slice aa lv.tokens.length ac],lv) hklv (grown_trans (grown_alloc w1 _ none) (grown_alloc _ _ none)) hown3 hgrow3 hat3
     go_roundg (ts1.length+1)
     case measure=>omega
     case rel=>exact .inl ⟨ts1,acc++[lv],_,sg1,sl1,f',rfl,by omega,by simp;omega,h3.other _ _ (by omega) f1G,kG3.set 0 _,kB3.other (by omega) _,f1B,f1G,RGrow.kept lv_movable G3 (grown_set w3 (w.heap.size+1+1) 0 _) (fun k hk=>by cases hk;omega),M3.new (by omega) _ _,X1,HPI⟩
   have ntl:=hkd
   clear hkd
   by_cases hkd:Lx.hd tsr=Lx.tRight
   ·clear ntl
    have HK:Hid (Lx.known (Lx.hd tsr)=true):=by show _=_;rw [hkd];decide
    have HNT:Hid (Lx.hd tsr≠Lx.noText):=by show _≠_;rw [hkd];decide
    have HKK:Hid (1=(Lx.levelKind (Lx.hd tsr)).toNat):=by show _=_;rw [hkd];decide
    have HLK:Hid (0≤Lx.levelKind (Lx.hd tsr)):=by show _≤_;rw [hkd];decide
    have tl:((Lx.refW (Lx.hd tsr)).toList == [37,108,101,102,116])=false:=text_no (l:=[37,108,101,102,116]) (fun e=>by have:=(Lx.refW_eq (b:=Lx.tLeft) (by decide) (by decide)).1 e;rw [hkd] at this;exact absurd this (by decide))
    have tr:((Lx.refW (Lx.hd tsr)).toList == [37,114,105,103,104,116])=true:=by rw [hkd,Lx.refW_known (by decide),ByteArray.toList_eq];rfl
    have tn:((Lx.refW (Lx.hd tsr)).toList == [37,110,111,110,101])=false:=text_no (l:=[37,110,111,110,101]) (fun e=>by have:=(Lx.refW_eq (b:=Lx.tNone) (by decide) (by decide)).1 e;rw [hkd] at this;exact absurd this (by decide))
    clear hkd
    go_wp2_with fail
    refine (rlevel_rr s (w.heap.size+1) wz tsr sgr slr 1 hr HK.out HNT.out HKK.out).mono ?_
    intro e w1 he
    cases hit:Lx.pLevel tsr with
    | error x =>
     obtain⟨n,a⟩:=x
     obtain⟨v1,sg1,sl1,rfl,m1,x1,h1,yk,ya,yl,yc,za,zl,zc,rfl⟩:=he.err hit
     have HE:Hid (rread s=.error (n,a)):=by
      show _=_;rw [HRD.out,Lx.pGrammar_eq,←hpi.out];simp only [Lx.pLevels];rw [if_pos HLK.out,hit];rfl
     clear hit he hpi
     have hrg1:=hrg.mv lv_movable m1 x1 (by omega)
     have kG1:=kG.mv m1 (by omega) fG
     have kB1:=kB.mv m1 (by omega) fB
     have f1B:=x1.keep (b:=w.heap.size) kB.lt fB
     have f1G:=x1.keep (b:=w.heap.size+1+1) kG.lt fG
     have M1:=M.trans X m1
     have sM1:=m1.size
     have X1:=X.trans M.size x1
     have lG1:=kG1.lt
     have cc0:w1.cell? ⟨w.heap.size+1+1,0,none⟩=some (Value.slice va acc.length vc):=kG1.cell 0
     have hown1:=hrg1.1.2.1
     have hge:∀ k,(Value.slice va acc.length vc).ownBlock=some k→(w.heap.size+3)≤k:=fun k hk=>(hown1.lt _ hk).1
     go_wp2_with (first
      | (at_builtin;refine wpList_append_lies _ rfl _ _ 46 rfl (w.heap.size+3) 137 k0 _ 3 56 Tryz.underlying46 ki kz0 kz1 kz2 rfl (by decide) (Value.slice va acc.length vc) acc.length (ps.flatMap cLv) rfl ((hown1.alloc _).alloc _) ⟨w1.heap.size+1,0,none⟩ 1 1 [.int .i64 yk,.slice ya yl yc,.slice za zl zc] rfl rfl (by have:=news_of (Blk.new (w1.alloc (.cells #[.int .i64 yk,.slice ya yl yc,.slice za zl zc] 137)) #[.int .i64 yk,.slice ya yl yc,.slice za zl zc] 137);simpa using this) (by simp [Value.oneCell']) (by decide) (by unfold maxLen;omega) (by omega) (by simp;omega) _ rfl ?_;intro g3 cap3 w3 hown3 hgrow3 hat3 hlt3;have kG3:=((kG1.alloc _).alloc _).grown hgrow3 (fun e=>by have:=hge _ e.symm;omega);have c03:w3.cell? ⟨w.heap.size+1+1,0,none⟩=some (Value.slice va acc.length vc):=kG3.cell 0;have f03:∀ i,w3.frozen? ⟨w.heap.size+1+1,i,none⟩=false:=kG3.frozen))
     have kB3:=((kB1.alloc (.cells #[.int .i64 yk,.slice ya yl yc,.slice za zl zc] 137)).alloc (.cells #[.int .i64 yk,.slice ya yl yc,.slice za zl zc] 137)).grown hgrow3 (fun e=>by have:=hge _ e.symm;omega)
     have M3:=((M1.alloc (.cells #[.int .i64 yk,.slice ya yl yc,.slice za zl zc] 137)).alloc (.cells #[.int .i64 yk,.slice ya yl yc,.slice za zl zc] 137)).grown hgrow3 (fun k hk=>.inl (by have:=hge _ hk;omega))
     have h3:=(((h1.alloc (.cells #[.int .i64 yk,.slice ya yl yc,.slice za zl zc] 137)).alloc (.cells #[.int .i64 yk,.slice ya yl yc,.slice za zl zc] 137)).move (hgrow3.block (w.heap.size+1) (by simp;omega) (fun e=>by have:=hge _ e.symm;omega)) (fun g hg=>hgrow3.block g (by have:=h1.owl g hg;simp;omega) (fun e=>hrg1.2.2 g e.symm hg)))
     go_roundg 0
     case measure=>omega
     case rel=>exact .inr ⟨n,a,_,_,_,sg1,sl1,rfl,h3.other _ _ (by omega) f1G,kG3.set 0 _,kB3.other (by omega) _,f1B,M3.new (by omega) _ _,X1,HE⟩
    | ok x =>
     obtain⟨lv,ts1⟩:=x
     obtain⟨v1,sg1,sl1,rfl,m1,x1,h1,vT,vA,rfl,hrows⟩:=he.ok hit
     obtain⟨ta,tc,rfl⟩:=own_form2 hrows.1
     obtain⟨aa,ac,rfl⟩:=own_form2 hrows.2.1
     have hklv:=hrows.klv
     have hl1:=Lx.pLevel_len hit
     have HPI:Hid (Lx.pLevels f' ts1 (acc++[lv])=Lx.pLevels (Lx.lex s).length (Lx.lex s) []):=by
      show _=_;rw [←hpi.out];simp only [Lx.pLevels];rw [if_pos HLK.out,hit]
     clear hit he hpi
     have hrg1:=hrg.mv lv_movable m1 x1 (by omega)
     have kG1:=kG.mv m1 (by omega) fG
     have kB1:=kB.mv m1 (by omega) fB
     have f1B:=x1.keep (b:=w.heap.size) kB.lt fB
     have f1G:=x1.keep (b:=w.heap.size+1+1) kG.lt fG
     have M1:=M.trans X m1
     have sM1:=m1.size
     have X1:=X.trans M.size x1
     have lG1:=kG1.lt
     have cc0:w1.cell? ⟨w.heap.size+1+1,0,none⟩=some (Value.slice va acc.length vc):=kG1.cell 0
     have hown1:=hrg1.1.2.1
     have hge:∀ k,(Value.slice va acc.length vc).ownBlock=some k→(w.heap.size+3)≤k:=fun k hk=>(hown1.lt _ hk).1
     go_wp2_with (first
      | (at_builtin;refine wpList_append_lies _ rfl _ _ 46 rfl (w.heap.size+3) 137 k0 _ 3 56 Tryz.underlying46 ki kz0 kz1 kz2 rfl (by decide) (Value.slice va acc.length vc) acc.length (ps.flatMap cLv) rfl ((hown1.alloc _).alloc _) ⟨w1.heap.size+1,0,none⟩ 1 1 [.int .i64 (lv.kind:Int),.slice ta lv.tokens.length tc,.slice aa lv.tokens.length ac] rfl rfl (by have:=news_of (Blk.new (w1.alloc (.cells #[.int .i64 (lv.kind:Int),.slice ta lv.tokens.length tc,.slice aa lv.tokens.length ac] 137)) #[.int .i64 (lv.kind:Int),.slice ta lv.tokens.length tc,.slice aa lv.tokens.length ac] 137);simpa using this) (by simp [Value.oneCell']) (by decide) (by unfold maxLen;omega) (by omega) (by simp;omega) _ rfl ?_;intro g3 cap3 w3 hown3 hgrow3 hat3 hlt3;have kG3:=((kG1.alloc _).alloc _).grown hgrow3 (fun e=>by have:=hge _ e.symm;omega);have c03:w3.cell? ⟨w.heap.size+1+1,0,none⟩=some (Value.slice va acc.length vc):=kG3.cell 0;have f03:∀ i,w3.frozen? ⟨w.heap.size+1+1,i,none⟩=false:=kG3.frozen))
     have kB3:=((kB1.alloc (.cells #[.int .i64 (lv.kind:Int),.slice ta lv.tokens.length tc,.slice aa lv.tokens.length ac] 137)).alloc (.cells #[.int .i64 (lv.kind:Int),.slice ta lv.tokens.length tc,.slice aa lv.tokens.length ac] 137)).grown hgrow3 (fun e=>by have:=hge _ e.symm;omega)
     have M3:=((M1.alloc (.cells #[.int .i64 (lv.kind:Int),.slice ta lv.tokens.length tc,.slice aa lv.tokens.length ac] 137)).alloc (.cells #[.int .i64 (lv.kind:Int),.slice ta lv.tokens.length tc,.slice aa lv.tokens.length ac] 137)).grown hgrow3 (fun k hk=>.inl (by have:=hge _ hk;omega))
     have h3:=(((h1.alloc (.cells #[.int .i64 (lv.kind:Int),.slice ta lv.tokens.length tc,.slice aa lv.tokens.length ac] 137)).alloc (.cells #[.int .i64 (lv.kind:Int),.slice ta lv.tokens.length tc,.slice aa lv.tokens.length ac] 137)).move (hgrow3.block (w.heap.size+1) (by simp;omega) (fun e=>by have:=hge _ e.symm;omega)) (fun g hg=>hgrow3.block g (by have:=h1.owl g hg;simp;omega) (fun e=>hrg1.2.2 g e.symm hg)))
     have G3:=RGrowBy.push lv_movable hrg (q:=(w.heap.size+1)) (by omega) (by omega) m1 x1 h1.owl (.agg #[.slice ta lv.tokens.length tc,.slice aa lv.tokens.length ac],lv) hklv (grown_trans (grown_alloc w1 _ none) (grown_alloc _ _ none)) hown3 hgrow3 hat3
     go_roundg (ts1.length+1)
     case measure=>omega
     case rel=>exact .inl ⟨ts1,acc++[lv],_,sg1,sl1,f',rfl,by omega,by simp;omega,h3.other _ _ (by omega) f1G,kG3.set 0 _,kB3.other (by omega) _,f1B,f1G,RGrow.kept lv_movable G3 (grown_set w3 (w.heap.size+1+1) 0 _) (fun k hk=>by cases hk;omega),M3.new (by omega) _ _,X1,HPI⟩
   have ntr:=hkd
   clear hkd
   by_cases hkd:Lx.hd tsr=Lx.tNone
   ·clear ntl ntr
    have HK:Hid (Lx.known (Lx.hd tsr)=true):=by show _=_;rw [hkd];decide
    have HNT:Hid (Lx.hd tsr≠Lx.noText):=by show _≠_;rw [hkd];decide
    have HKK:Hid (2=(Lx.levelKind (Lx.hd tsr)).toNat):=by show _=_;rw [hkd];decide
    have HLK:Hid (0≤Lx.levelKind (Lx.hd tsr)):=by show _≤_;rw [hkd];decide
    have tl:((Lx.refW (Lx.hd tsr)).toList == [37,108,101,102,116])=false:=text_no (l:=[37,108,101,102,116]) (fun e=>by have:=(Lx.refW_eq (b:=Lx.tLeft) (by decide) (by decide)).1 e;rw [hkd] at this;exact absurd this (by decide))
    have tr:((Lx.refW (Lx.hd tsr)).toList == [37,114,105,103,104,116])=false:=text_no (l:=[37,114,105,103,104,116]) (fun e=>by have:=(Lx.refW_eq (b:=Lx.tRight) (by decide) (by decide)).1 e;rw [hkd] at this;exact absurd this (by decide))
    have tn:((Lx.refW (Lx.hd tsr)).toList == [37,110,111,110,101])=true:=by rw [hkd,Lx.refW_known (by decide),ByteArray.toList_eq];rfl
    clear hkd
    go_wp2_with fail
    refine (rlevel_rr s (w.heap.size+1) wz tsr sgr slr 2 hr HK.out HNT.out HKK.out).mono ?_
    intro e w1 he
    cases hit:Lx.pLevel tsr with
    | error x =>
     obtain⟨n,a⟩:=x
     obtain⟨v1,sg1,sl1,rfl,m1,x1,h1,yk,ya,yl,yc,za,zl,zc,rfl⟩:=he.err hit
     have HE:Hid (rread s=.error (n,a)):=by
      show _=_;rw [HRD.out,Lx.pGrammar_eq,←hpi.out];simp only [Lx.pLevels];rw [if_pos HLK.out,hit];rfl
     clear hit he hpi
     have hrg1:=hrg.mv lv_movable m1 x1 (by omega)
     have kG1:=kG.mv m1 (by omega) fG
     have kB1:=kB.mv m1 (by omega) fB
     have f1B:=x1.keep (b:=w.heap.size) kB.lt fB
     have f1G:=x1.keep (b:=w.heap.size+1+1) kG.lt fG
     have M1:=M.trans X m1
     have sM1:=m1.size
     have X1:=X.trans M.size x1
     have lG1:=kG1.lt
     have cc0:w1.cell? ⟨w.heap.size+1+1,0,none⟩=some (Value.slice va acc.length vc):=kG1.cell 0
     have hown1:=hrg1.1.2.1
     have hge:∀ k,(Value.slice va acc.length vc).ownBlock=some k→(w.heap.size+3)≤k:=fun k hk=>(hown1.lt _ hk).1
     go_wp2_with (first
      | (at_builtin;refine wpList_append_lies _ rfl _ _ 46 rfl (w.heap.size+3) 137 k0 _ 3 56 Tryz.underlying46 ki kz0 kz1 kz2 rfl (by decide) (Value.slice va acc.length vc) acc.length (ps.flatMap cLv) rfl ((hown1.alloc _).alloc _) ⟨w1.heap.size+1,0,none⟩ 1 1 [.int .i64 yk,.slice ya yl yc,.slice za zl zc] rfl rfl (by have:=news_of (Blk.new (w1.alloc (.cells #[.int .i64 yk,.slice ya yl yc,.slice za zl zc] 137)) #[.int .i64 yk,.slice ya yl yc,.slice za zl zc] 137);simpa using this) (by simp [Value.oneCell']) (by decide) (by unfold maxLen;omega) (by omega) (by simp;omega) _ rfl ?_;intro g3 cap3 w3 hown3 hgrow3 hat3 hlt3;have kG3:=((kG1.alloc _).alloc _).grown hgrow3 (fun e=>by have:=hge _ e.symm;omega);have c03:w3.cell? ⟨w.heap.size+1+1,0,none⟩=some (Value.slice va acc.length vc):=kG3.cell 0;have f03:∀ i,w3.frozen? ⟨w.heap.size+1+1,i,none⟩=false:=kG3.frozen))
     have kB3:=((kB1.alloc (.cells #[.int .i64 yk,.slice ya yl yc,.slice za zl zc] 137)).alloc (.cells #[.int .i64 yk,.slice ya yl yc,.slice za zl zc] 137)).grown hgrow3 (fun e=>by have:=hge _ e.symm;omega)
     have M3:=((M1.alloc (.cells #[.int .i64 yk,.slice ya yl yc,.slice za zl zc] 137)).alloc (.cells #[.int .i64 yk,.slice ya yl yc,.slice za zl zc] 137)).grown hgrow3 (fun k hk=>.inl (by have:=hge _ hk;omega))
     have h3:=(((h1.alloc (.cells #[.int .i64 yk,.slice ya yl yc,.slice za zl zc] 137)).alloc (.cells #[.int .i64 yk,.slice ya yl yc,.slice za zl zc] 137)).move (hgrow3.block (w.heap.size+1) (by simp;omega) (fun e=>by have:=hge _ e.symm;omega)) (fun g hg=>hgrow3.block g (by have:=h1.owl g hg;simp;omega) (fun e=>hrg1.2.2 g e.symm hg)))
     go_roundg 0
     case measure=>omega
     case rel=>exact .inr ⟨n,a,_,_,_,sg1,sl1,rfl,h3.other _ _ (by omega) f1G,kG3.set 0 _,kB3.other (by omega) _,f1B,M3.new (by omega) _ _,X1,HE⟩
    | ok x =>
     obtain⟨lv,ts1⟩:=x
     obtain⟨v1,sg1,sl1,rfl,m1,x1,h1,vT,vA,rfl,hrows⟩:=he.ok hit
     obtain⟨ta,tc,rfl⟩:=own_form2 hrows.1
     obtain⟨aa,ac,rfl⟩:=own_form2 hrows.2.1
     have hklv:=hrows.klv
     have hl1:=Lx.pLevel_len hit
     have HPI:Hid (Lx.pLevels f' ts1 (acc++[lv])=Lx.pLevels (Lx.lex s).length (Lx.lex s) []):=by
      show _=_;rw [←hpi.out];simp only [Lx.pLevels];rw [if_pos HLK.out,hit]
     clear hit he hpi
     have hrg1:=hrg.mv lv_movable m1 x1 (by omega)
     have kG1:=kG.mv m1 (by omega) fG
     have kB1:=kB.mv m1 (by omega) fB
     have f1B:=x1.keep (b:=w.heap.size) kB.lt fB
     have f1G:=x1.keep (b:=w.heap.size+1+1) kG.lt fG
     have M1:=M.trans X m1
     have sM1:=m1.size
     have X1:=X.trans M.size x1
     have lG1:=kG1.lt
     have cc0:w1.cell? ⟨w.heap.size+1+1,0,none⟩=some (Value.slice va acc.length vc):=kG1.cell 0
     have hown1:=hrg1.1.2.1
     have hge:∀ k,(Value.slice va acc.length vc).ownBlock=some k→(w.heap.size+3)≤k:=fun k hk=>(hown1.lt _ hk).1
     go_wp2_with (first
      | (at_builtin;refine wpList_append_lies _ rfl _ _ 46 rfl (w.heap.size+3) 137 k0 _ 3 56 Tryz.underlying46 ki kz0 kz1 kz2 rfl (by decide) (Value.slice va acc.length vc) acc.length (ps.flatMap cLv) rfl ((hown1.alloc _).alloc _) ⟨w1.heap.size+1,0,none⟩ 1 1 [.int .i64 (lv.kind:Int),.slice ta lv.tokens.length tc,.slice aa lv.tokens.length ac] rfl rfl (by have:=news_of (Blk.new (w1.alloc (.cells #[.int .i64 (lv.kind:Int),.slice ta lv.tokens.length tc,.slice aa lv.tokens.length ac] 137)) #[.int .i64 (lv.kind:Int),.slice ta lv.tokens.length tc,.slice aa lv.tokens.length ac] 137);simpa using this) (by simp [Value.oneCell']) (by decide) (by unfold maxLen;omega) (by omega) (by simp;omega) _ rfl ?_;intro g3 cap3 w3 hown3 hgrow3 hat3 hlt3;have kG3:=((kG1.alloc _).alloc _).grown hgrow3 (fun e=>by have:=hge _ e.symm;omega);have c03:w3.cell? ⟨w.heap.size+1+1,0,none⟩=some (Value.slice va acc.length vc):=kG3.cell 0;have f03:∀ i,w3.frozen? ⟨w.heap.size+1+1,i,none⟩=false:=kG3.frozen))
     have kB3:=((kB1.alloc (.cells #[.int .i64 (lv.kind:Int),.slice ta lv.tokens.length tc,.slice aa lv.tokens.length ac] 137)).alloc (.cells #[.int .i64 (lv.kind:Int),.slice ta lv.tokens.length tc,.slice aa lv.tokens.length ac] 137)).grown hgrow3 (fun e=>by have:=hge _ e.symm;omega)
     have M3:=((M1.alloc (.cells #[.int .i64 (lv.kind:Int),.slice ta lv.tokens.length tc,.slice aa lv.tokens.length ac] 137)).alloc (.cells #[.int .i64 (lv.kind:Int),.slice ta lv.tokens.length tc,.slice aa lv.tokens.length ac] 137)).grown hgrow3 (fun k hk=>.inl (by have:=hge _ hk;omega))
     have h3:=(((h1.alloc (.cells #[.int .i64 (lv.kind:Int),.slice ta lv.tokens.length tc,.slice aa lv.tokens.length ac] 137)).alloc (.cells #[.int .i64 (lv.kind:Int),.slice ta lv.tokens.length tc,.slice aa lv.tokens.length ac] 137)).move (hgrow3.block (w.heap.size+1) (by simp;omega) (fun e=>by have:=hge _ e.symm;omega)) (fun g hg=>hgrow3.block g (by have:=h1.owl g hg;simp;omega) (fun e=>hrg1.2.2 g e.symm hg)))
     have G3:=RGrowBy.push lv_movable hrg (q:=(w.heap.size+1)) (by omega) (by omega) m1 x1 h1.owl (.agg #[.slice ta lv.tokens.length tc,.slice aa lv.tokens.length ac],lv) hklv (grown_trans (grown_alloc w1 _ none) (grown_alloc _ _ none)) hown3 hgrow3 hat3
     go_roundg (ts1.length+1)
     case measure=>omega
     case rel=>exact .inl ⟨ts1,acc++[lv],_,sg1,sl1,f',rfl,by omega,by simp;omega,h3.other _ _ (by omega) f1G,kG3.set 0 _,kB3.other (by omega) _,f1B,f1G,RGrow.kept lv_movable G3 (grown_set w3 (w.heap.size+1+1) 0 _) (fun k hk=>by cases hk;omega),M3.new (by omega) _ _,X1,HPI⟩
   have ntn:=hkd
   clear hkd
   have tl:((Lx.refW (Lx.hd tsr)).toList == [37,108,101,102,116])=false:=text_no (l:=[37,108,101,102,116]) (fun e=>ntl ((Lx.refW_eq (b:=Lx.tLeft) (by decide) (by decide)).1 e))
   have tr:((Lx.refW (Lx.hd tsr)).toList == [37,114,105,103,104,116])=false:=text_no (l:=[37,114,105,103,104,116]) (fun e=>ntr ((Lx.refW_eq (b:=Lx.tRight) (by decide) (by decide)).1 e))
   have tn:((Lx.refW (Lx.hd tsr)).toList == [37,110,111,110,101])=false:=text_no (l:=[37,110,111,110,101]) (fun e=>ntn ((Lx.refW_eq (b:=Lx.tNone) (by decide) (by decide)).1 e))
   have HG:Hid (Lx.pGrammar (Lx.lex s)=Lx.afterLv acc tsr):=by
    show _=_;rw [Lx.pGrammar_eq,←hpi.out];simp only [Lx.pLevels];rw [if_neg (by unfold Lx.levelKind;rw [if_neg ntl,if_neg ntr,if_neg ntn];decide)];rfl
   clear ntl ntr ntn hpi
   have hFN:∀ b,F b→b<wz.heap.size:=fun b hb=>(hrg.1.2.2.2.1 b hb).2
   have hVN:∀ g,(Value.slice va acc.length vc).ownBlock=some g→g<wz.heap.size:=fun g hg=>(hrg.1.2.1.lt g hg).2
   go_wp2_with fail
   go_loopg [] (tsr.length+1) (fun k wr=>(∃ (tsr2:List Tk) (rs:List Lx.Rl) (vR sgr2:Value) (slr2:List ByteArray),tsr2.length+1=k∧rs.length+tsr2.length≤(Lx.lex s).length∧wz.heap.size≤wr.heap.size∧RR s (w.heap.size+1) wr tsr2 0 sgr2 slr2∧Blk wr (w.heap.size+1+1) #[.slice va acc.length vc,vR] 49∧Blk wr w.heap.size #[.slice none 0 0,.slice none 0 0] 49∧sgr2.ownBlock≠some w.heap.size∧sgr2.ownBlock≠some (w.heap.size+1+1) ∧
     RGrowBy (w.heap.size+3) sgr2 wr 137 3 cLv KLv (.slice va acc.length vc) acc ps F∧RGrow wz.heap.size sgr2 wr 99 3 cRl KRl vR rs∧Mv (w.heap.size+1) (.slice none 0 0) w wr∧Nx (.slice none 0 0) w sgr2∧Hid (RC (Lx.lex s) acc tsr tsr2 rs)) ∨
    (∃ (n a:Nat) (xa:Option Addr) (xk xc:Nat) (xa':Option Addr) (xk' xc':Nat) (sgr:Value) (slr:List ByteArray),k=0∧RX s (w.heap.size+1) wr 0 n a sgr slr∧Blk wr (w.heap.size+1+1) #[.slice xa xk xc,.slice xa' xk' xc'] 49∧Blk wr w.heap.size #[.slice none 0 0,.slice none 0 0] 49∧sgr.ownBlock≠some w.heap.size∧Mv (w.heap.size+1) (.slice none 0 0) w wr∧Nx (.slice none 0 0) w sgr∧Hid (rread s=.error (n,a))))
   case atStart=>exact .inl ⟨tsr,[],_,sgr,slr,rfl,by simp;omega,Nat.le_refl _,hr,kG,kB,fB,fG,hrg,RGrow.nil _ _ _ _ _ _ _,M,X,.inl ⟨rfl,rfl,HG.out⟩⟩
   case round =>
    have lZ:=lG
    clear M X kG kB fB fG c2 c4 hr hrg lG
    rcases hrel with ⟨tsr2,rs,vR,sgr2,slr2,hk,hrs,hzr,hr2,jG,jB,fB,fG,hlv,hgrow,M,X,hrc⟩ | ⟨n,a,xa,xk,xc,xa',xk',xc',sgr,slr,hk,hx,kG9,kB9,fB,M,X,HE⟩
    ·have hne:=hr2.wf.ne
     have htl2:=hr2.wf.tail_len
     obtain⟨pr,Fr,hrr⟩:=hgrow
     obtain⟨ra,rc,rfl⟩:=own_form2 hrr.1.2.1
     have lG:=jG.lt
     have szM:=M.size
     have c1:wr.cell? ⟨w.heap.size+1,1,none⟩=some (.int .i64 (Lx.pl tsr2:Int)):=hr2.blk.cell 1
     have c4:wr.cell? ⟨w.heap.size+1,4,none⟩=some (.int .i64 0):=hr2.blk.cell 4
     have g1:wr.cell? ⟨w.heap.size+1+1,1,none⟩=some (.slice ra rs.length rc):=jG.cell 1
     by_cases ha:rs=[]
     ·have hl0:((rs.length:Int) == 0)=true:=by rw [ha];rfl
      have HSE:Hid (rs=[]∨¬ Lx.hd tsr2=Lx.noText):=.inl ha
      clear ha
      go_wp2_with fail
      refine (rrule_rr s (w.heap.size+1) wr tsr2 sgr2 slr2 hr2).mono ?_
      intro e w1 he
      cases hit:Lx.pRule tsr2 with
      | error x =>
       obtain⟨n,a⟩:=x
       obtain⟨v1,sg1,sl1,rfl,m1,x1,h1,yn,ya,yl,yc,yp,rfl⟩:=he.err hit
       have HE:Hid (rread s=.error (n,a)):=by show _=_;rw [HRD.out];exact hrc.out.err hne HSE.out hit
       clear hit he hrc
       have hrg1:=hrr.mv (rule_movable YR 9) m1 x1 (by omega)
       have kG1:=jG.mv m1 (by omega) fG
       have kB1:=jB.mv m1 (by omega) fB
       have f1B:=x1.keep (b:=w.heap.size) jB.lt fB
       have f1G:=x1.keep (b:=w.heap.size+1+1) jG.lt fG
       have M1:=M.trans X m1
       have sM1:=m1.size
       have X1:=X.trans M.size x1
       have lG1:=kG1.lt
       have cc0:w1.cell? ⟨w.heap.size+1+1,1,none⟩=some (Value.slice ra rs.length rc):=kG1.cell 1
       have hown1:=hrg1.1.2.1
       have hge:∀ k,(Value.slice ra rs.length rc).ownBlock=some k→wz.heap.size≤k:=fun k hk=>(hown1.lt _ hk).1
       go_wp2_with (first
        | (at_builtin;refine wpList_append_lies _ rfl _ _ 47 rfl wz.heap.size 99 j0 _ 3 48 Tryz.underlying47 ji jz0 jz1 jz2 rfl (by decide) (Value.slice ra rs.length rc) rs.length (pr.flatMap cRl) rfl ((hown1.alloc _).alloc _) ⟨w1.heap.size+1,0,none⟩ 1 1 [.string yn,.slice ya yl yc,.int .i64 yp] rfl rfl (by have:=news_of (Blk.new (w1.alloc (.cells #[.string yn,.slice ya yl yc,.int .i64 yp] 99)) #[.string yn,.slice ya yl yc,.int .i64 yp] 99);simpa using this) (by simp [Value.oneCell']) (by decide) (by unfold maxLen;omega) (by omega) (by simp;omega) _ rfl ?_;intro g3 cap3 w3 hown3 hgrow3 hat3 hlt3;have kG3:=((kG1.alloc _).alloc _).grown hgrow3 (fun e=>by have:=hge _ e.symm;omega);have c03:w3.cell? ⟨w.heap.size+1+1,1,none⟩=some (Value.slice ra rs.length rc):=kG3.cell 1;have f03:∀ i,w3.frozen? ⟨w.heap.size+1+1,i,none⟩=false:=kG3.frozen))
       have kB3:=((kB1.alloc (.cells #[.string yn,.slice ya yl yc,.int .i64 yp] 99)).alloc (.cells #[.string yn,.slice ya yl yc,.int .i64 yp] 99)).grown hgrow3 (fun e=>by have:=hge _ e.symm;omega)
       have M3:=((M1.alloc (.cells #[.string yn,.slice ya yl yc,.int .i64 yp] 99)).alloc (.cells #[.string yn,.slice ya yl yc,.int .i64 yp] 99)).grown hgrow3 (fun k hk=>.inl (by have:=hge _ hk;omega))
       have h3:=(((h1.alloc (.cells #[.string yn,.slice ya yl yc,.int .i64 yp] 99)).alloc (.cells #[.string yn,.slice ya yl yc,.int .i64 yp] 99)).move (hgrow3.block (w.heap.size+1) (by simp;omega) (fun e=>by have:=hge _ e.symm;omega)) (fun g hg=>hgrow3.block g (by have:=h1.owl g hg;simp;omega) (fun e=>hrg1.2.2 g e.symm hg)))
       go_roundg 0
       case measure=>omega
       case rel=>exact .inr ⟨n,a,_,_,_,_,_,_,sg1,sl1,rfl,h3.other _ _ (by omega) f1G,kG3.set 1 _,kB3.other (by omega) _,f1B,M3.new (by omega) _ _,X1,HE⟩
      | ok x =>
       obtain⟨rl,ts1⟩:=x
       obtain⟨v1,sg1,sl1,rfl,m1,x1,h1,va1,rfl,hax⟩:=he.ok hit
       obtain⟨ya,yl,yc,rfl⟩:=AltsIn.form hax
       have hl1:=Lx.pRule_len hit
       have HRC:Hid (RC (Lx.lex s) acc tsr ts1 (rs++[rl])):=hrc.out.ok (by omega) HSE.out hit
       clear hit he hrc
       have hrg1:=hrr.mv (rule_movable YR 9) m1 x1 (by omega)
       have hlv1:=hlv.mv lv_movable m1 x1 (by omega)
       have kG1:=jG.mv m1 (by omega) fG
       have kB1:=jB.mv m1 (by omega) fB
       have f1B:=x1.keep (b:=w.heap.size) jB.lt fB
       have f1G:=x1.keep (b:=w.heap.size+1+1) jG.lt fG
       have M1:=M.trans X m1
       have sM1:=m1.size
       have X1:=X.trans M.size x1
       have lG1:=kG1.lt
       have cc0:w1.cell? ⟨w.heap.size+1+1,1,none⟩=some (Value.slice ra rs.length rc):=kG1.cell 1
       have hown1:=hrg1.1.2.1
       have hge:∀ k,(Value.slice ra rs.length rc).ownBlock=some k→wz.heap.size≤k:=fun k hk=>(hown1.lt _ hk).1
       go_wp2_with (first
        | (at_builtin;refine wpList_append_lies _ rfl _ _ 47 rfl wz.heap.size 99 j0 _ 3 48 Tryz.underlying47 ji jz0 jz1 jz2 rfl (by decide) (Value.slice ra rs.length rc) rs.length (pr.flatMap cRl) rfl ((hown1.alloc _).alloc _) ⟨w1.heap.size+1,0,none⟩ 1 1 [.string rl.name,.slice ya yl yc,.int .i64 (rl.place:Int)] rfl rfl (by have:=news_of (Blk.new (w1.alloc (.cells #[.string rl.name,.slice ya yl yc,.int .i64 (rl.place:Int)] 99)) #[.string rl.name,.slice ya yl yc,.int .i64 (rl.place:Int)] 99);simpa using this) (by simp [Value.oneCell']) (by decide) (by unfold maxLen;omega) (by omega) (by simp;omega) _ rfl ?_;intro g3 cap3 w3 hown3 hgrow3 hat3 hlt3;have kG3:=((kG1.alloc _).alloc _).grown hgrow3 (fun e=>by have:=hge _ e.symm;omega);have c03:w3.cell? ⟨w.heap.size+1+1,1,none⟩=some (Value.slice ra rs.length rc):=kG3.cell 1;have f03:∀ i,w3.frozen? ⟨w.heap.size+1+1,i,none⟩=false:=kG3.frozen))
       have kB3:=((kB1.alloc (.cells #[.string rl.name,.slice ya yl yc,.int .i64 (rl.place:Int)] 99)).alloc (.cells #[.string rl.name,.slice ya yl yc,.int .i64 (rl.place:Int)] 99)).grown hgrow3 (fun e=>by have:=hge _ e.symm;omega)
       have M3:=((M1.alloc (.cells #[.string rl.name,.slice ya yl yc,.int .i64 (rl.place:Int)] 99)).alloc (.cells #[.string rl.name,.slice ya yl yc,.int .i64 (rl.place:Int)] 99)).grown hgrow3 (fun k hk=>.inl (by have:=hge _ hk;omega))
       have h3:=(((h1.alloc (.cells #[.string rl.name,.slice ya yl yc,.int .i64 (rl.place:Int)] 99)).alloc (.cells #[.string rl.name,.slice ya yl yc,.int .i64 (rl.place:Int)] 99)).move (hgrow3.block (w.heap.size+1) (by simp;omega) (fun e=>by have:=hge _ e.symm;omega)) (fun g hg=>hgrow3.block g (by have:=h1.owl g hg;simp;omega) (fun e=>hrg1.2.2 g e.symm hg)))
       have G3:=RGrowBy.push (rule_movable YR 9) hrr (q:=(w.heap.size+1)) (by omega) (by omega) m1 x1 h1.owl (.slice ya yl yc,rl) hax (grown_trans (grown_alloc w1 _ none) (grown_alloc _ _ none)) hown3 hgrow3 hat3
       have sz3:wz.heap.size≤(w3.setCell ⟨w.heap.size+1+1,1,none⟩ (.slice (some ⟨g3,0,none⟩) (rs.length+1) cap3)).heap.size:=by
        have s2:w1.heap.size+2≤w3.heap.size:=by have:=hgrow3.size;simpa using this
        simp [World.setCell];omega
       have L3:=((hlv1.apart lv_movable (grown_trans (grown_alloc w1 (.cells #[.string rl.name,.slice ya yl yc,.int .i64 (rl.place:Int)] 99) none) (grown_alloc _ (.cells #[.string rl.name,.slice ya yl yc,.int .i64 (rl.place:Int)] 99) none)) (fun k hk=>by simp at hk)).apart lv_movable hgrow3 (fun k hk=>⟨fun hF=>by have:=hFN k hF;have:=hge _ hk;omega,fun e=>by have:=hVN k e;have:=hge _ hk;omega⟩)).kept lv_movable (grown_set w3 (w.heap.size+1+1) 1 (.slice (some ⟨g3,0,none⟩) (rs.length+1) cap3)) (fun k hk=>by cases hk;omega)
       go_roundg (ts1.length+1)
       case measure=>omega
       case rel=>exact .inl ⟨ts1,rs++[rl],_,sg1,sl1,rfl,by simp;omega,sz3,h3.other _ _ (by omega) f1G,kG3.set 1 _,kB3.other (by omega) _,f1B,f1G,L3,RGrow.kept (rule_movable YR 9) G3 (grown_set w3 (w.heap.size+1+1) 1 _) (fun k hk=>by cases hk;omega),M3.new (by omega) _ _,X1,HRC⟩
     ·have hl0:((rs.length:Int) == 0)=false:=beq_eq_false_iff_ne.2 (by have:=List.length_pos_iff.2 ha;omega)
      by_cases hlt:Lx.pl tsr2<s.size
      ·have hlt':decide ((Lx.pl tsr2:Int)<(s.size:Int))=true:=decide_eq_true (by omega)
       have hlt2:decide (Lx.pl tsr2<s.size)=true:=decide_eq_true hlt
       have HSE:Hid (rs=[]∨¬ Lx.hd tsr2=Lx.noText):=.inr (fun e=>(hd_end hr2).1 e hlt)
       clear ha
       go_wp2_with fail
       refine (rrule_rr s (w.heap.size+1) wr tsr2 sgr2 slr2 hr2).mono ?_
       intro e w1 he
       cases hit:Lx.pRule tsr2 with
       | error x =>
        obtain⟨n,a⟩:=x
        obtain⟨v1,sg1,sl1,rfl,m1,x1,h1,yn,ya,yl,yc,yp,rfl⟩:=he.err hit
        have HE:Hid (rread s=.error (n,a)):=by show _=_;rw [HRD.out];exact hrc.out.err hne HSE.out hit
        clear hit he hrc
        have hrg1:=hrr.mv (rule_movable YR 9) m1 x1 (by omega)
        have kG1:=jG.mv m1 (by omega) fG
        have kB1:=jB.mv m1 (by omega) fB
        have f1B:=x1.keep (b:=w.heap.size) jB.lt fB
        have f1G:=x1.keep (b:=w.heap.size+1+1) jG.lt fG
        have M1:=M.trans X m1
        have sM1:=m1.size
        have X1:=X.trans M.size x1
        have lG1:=kG1.lt
        have cc0:w1.cell? ⟨w.heap.size+1+1,1,none⟩=some (Value.slice ra rs.length rc):=kG1.cell 1
        have hown1:=hrg1.1.2.1
        have hge:∀ k,(Value.slice ra rs.length rc).ownBlock=some k→wz.heap.size≤k:=fun k hk=>(hown1.lt _ hk).1
        go_wp2_with (first
         | (at_builtin;refine wpList_append_lies _ rfl _ _ 47 rfl wz.heap.size 99 j0 _ 3 48 Tryz.underlying47 ji jz0 jz1 jz2 rfl (by decide) (Value.slice ra rs.length rc) rs.length (pr.flatMap cRl) rfl ((hown1.alloc _).alloc _) ⟨w1.heap.size+1,0,none⟩ 1 1 [.string yn,.slice ya yl yc,.int .i64 yp] rfl rfl (by have:=news_of (Blk.new (w1.alloc (.cells #[.string yn,.slice ya yl yc,.int .i64 yp] 99)) #[.string yn,.slice ya yl yc,.int .i64 yp] 99);simpa using this) (by simp [Value.oneCell']) (by decide) (by unfold maxLen;omega) (by omega) (by simp;omega) _ rfl ?_;intro g3 cap3 w3 hown3 hgrow3 hat3 hlt3;have kG3:=((kG1.alloc _).alloc _).grown hgrow3 (fun e=>by have:=hge _ e.symm;omega);have c03:w3.cell? ⟨w.heap.size+1+1,1,none⟩=some (Value.slice ra rs.length rc):=kG3.cell 1;have f03:∀ i,w3.frozen? ⟨w.heap.size+1+1,i,none⟩=false:=kG3.frozen))
        have kB3:=((kB1.alloc (.cells #[.string yn,.slice ya yl yc,.int .i64 yp] 99)).alloc (.cells #[.string yn,.slice ya yl yc,.int .i64 yp] 99)).grown hgrow3 (fun e=>by have:=hge _ e.symm;omega)
        have M3:=((M1.alloc (.cells #[.string yn,.slice ya yl yc,.int .i64 yp] 99)).alloc (.cells #[.string yn,.slice ya yl yc,.int .i64 yp] 99)).grown hgrow3 (fun k hk=>.inl (by have:=hge _ hk;omega))
        have h3:=(((h1.alloc (.cells #[.string yn,.slice ya yl yc,.int .i64 yp] 99)).alloc (.cells #[.string yn,.slice ya yl yc,.int .i64 yp] 99)).move (hgrow3.block (w.heap.size+1) (by simp;omega) (fun e=>by have:=hge _ e.symm;omega)) (fun g hg=>hgrow3.block g (by have:=h1.owl g hg;simp;omega) (fun e=>hrg1.2.2 g e.symm hg)))
        go_roundg 0
        case measure=>omega
        case rel=>exact .inr ⟨n,a,_,_,_,_,_,_,sg1,sl1,rfl,h3.other _ _ (by omega) f1G,kG3.set 1 _,kB3.other (by omega) _,f1B,M3.new (by omega) _ _,X1,HE⟩
       | ok x =>
        obtain⟨rl,ts1⟩:=x
        obtain⟨v1,sg1,sl1,rfl,m1,x1,h1,va1,rfl,hax⟩:=he.ok hit
        obtain⟨ya,yl,yc,rfl⟩:=AltsIn.form hax
        have hl1:=Lx.pRule_len hit
        have HRC:Hid (RC (Lx.lex s) acc tsr ts1 (rs++[rl])):=hrc.out.ok (by omega) HSE.out hit
        clear hit he hrc
        have hrg1:=hrr.mv (rule_movable YR 9) m1 x1 (by omega)
        have hlv1:=hlv.mv lv_movable m1 x1 (by omega)
        have kG1:=jG.mv m1 (by omega) fG
        have kB1:=jB.mv m1 (by omega) fB
        have f1B:=x1.keep (b:=w.heap.size) jB.lt fB
        have f1G:=x1.keep (b:=w.heap.size+1+1) jG.lt fG
        have M1:=M.trans X m1
        have sM1:=m1.size
        have X1:=X.trans M.size x1
        have lG1:=kG1.lt
        have cc0:w1.cell? ⟨w.heap.size+1+1,1,none⟩=some (Value.slice ra rs.length rc):=kG1.cell 1
        have hown1:=hrg1.1.2.1
        have hge:∀ k,(Value.slice ra rs.length rc).ownBlock=some k→wz.heap.size≤k:=fun k hk=>(hown1.lt _ hk).1
        go_wp2_with (first
         | (at_builtin;refine wpList_append_lies _ rfl _ _ 47 rfl wz.heap.size 99 j0 _ 3 48 Tryz.underlying47 ji jz0 jz1 jz2 rfl (by decide) (Value.slice ra rs.length rc) rs.length (pr.flatMap cRl) rfl ((hown1.alloc _).alloc _) ⟨w1.heap.size+1,0,none⟩ 1 1 [.string rl.name,.slice ya yl yc,.int .i64 (rl.place:Int)] rfl rfl (by have:=news_of (Blk.new (w1.alloc (.cells #[.string rl.name,.slice ya yl yc,.int .i64 (rl.place:Int)] 99)) #[.string rl.name,.slice ya yl yc,.int .i64 (rl.place:Int)] 99);simpa using this) (by simp [Value.oneCell']) (by decide) (by unfold maxLen;omega) (by omega) (by simp;omega) _ rfl ?_;intro g3 cap3 w3 hown3 hgrow3 hat3 hlt3;have kG3:=((kG1.alloc _).alloc _).grown hgrow3 (fun e=>by have:=hge _ e.symm;omega);have c03:w3.cell? ⟨w.heap.size+1+1,1,none⟩=some (Value.slice ra rs.length rc):=kG3.cell 1;have f03:∀ i,w3.frozen? ⟨w.heap.size+1+1,i,none⟩=false:=kG3.frozen))
        have kB3:=((kB1.alloc (.cells #[.string rl.name,.slice ya yl yc,.int .i64 (rl.place:Int)] 99)).alloc (.cells #[.string rl.name,.slice ya yl yc,.int .i64 (rl.place:Int)] 99)).grown hgrow3 (fun e=>by have:=hge _ e.symm;omega)
        have M3:=((M1.alloc (.cells #[.string rl.name,.slice ya yl yc,.int .i64 (rl.place:Int)] 99)).alloc (.cells #[.string rl.name,.slice ya yl yc,.int .i64 (rl.place:Int)] 99)).grown hgrow3 (fun k hk=>.inl (by have:=hge _ hk;omega))
        have h3:=(((h1.alloc (.cells #[.string rl.name,.slice ya yl yc,.int .i64 (rl.place:Int)] 99)).alloc (.cells #[.string rl.name,.slice ya yl yc,.int .i64 (rl.place:Int)] 99)).move (hgrow3.block (w.heap.size+1) (by simp;omega) (fun e=>by have:=hge _ e.symm;omega)) (fun g hg=>hgrow3.block g (by have:=h1.owl g hg;simp;omega) (fun e=>hrg1.2.2 g e.symm hg)))
        have G3:=RGrowBy.push (rule_movable YR 9) hrr (q:=(w.heap.size+1)) (by omega) (by omega) m1 x1 h1.owl (.slice ya yl yc,rl) hax (grown_trans (grown_alloc w1 _ none) (grown_alloc _ _ none)) hown3 hgrow3 hat3
        have sz3:wz.heap.size≤(w3.setCell ⟨w.heap.size+1+1,1,none⟩ (.slice (some ⟨g3,0,none⟩) (rs.length+1) cap3)).heap.size:=by
         have s2:w1.heap.size+2≤w3.heap.size:=by have:=hgrow3.size;simpa using this
         simp [World.setCell];omega
        have L3:=((hlv1.apart lv_movable (grown_trans (grown_alloc w1 (.cells #[.string rl.name,.slice ya yl yc,.int .i64 (rl.place:Int)] 99) none) (grown_alloc _ (.cells #[.string rl.name,.slice ya yl yc,.int .i64 (rl.place:Int)] 99) none)) (fun k hk=>by simp at hk)).apart lv_movable hgrow3 (fun k hk=>⟨fun hF=>by have:=hFN k hF;have:=hge _ hk;omega,fun e=>by have:=hVN k e;have:=hge _ hk;omega⟩)).kept lv_movable (grown_set w3 (w.heap.size+1+1) 1 (.slice (some ⟨g3,0,none⟩) (rs.length+1) cap3)) (fun k hk=>by cases hk;omega)
        go_roundg (ts1.length+1)
        case measure=>omega
        case rel=>exact .inl ⟨ts1,rs++[rl],_,sg1,sl1,rfl,by simp;omega,sz3,h3.other _ _ (by omega) f1G,kG3.set 1 _,kB3.other (by omega) _,f1B,f1G,L3,RGrow.kept (rule_movable YR 9) G3 (grown_set w3 (w.heap.size+1+1) 1 _) (fun k hk=>by cases hk;omega),M3.new (by omega) _ _,X1,HRC⟩
      ·have hlt':decide ((Lx.pl tsr2:Int)<(s.size:Int))=false:=decide_eq_false (by omega)
       have hlt2:decide (Lx.pl tsr2<s.size)=false:=decide_eq_false hlt
       have HP:Hid (rread s=.ok (⟨acc,rs⟩,tsr2)):=by show _=_;rw [HRD.out];exact hrc.out.done hne ha ((hd_end hr2).2 hlt)
       clear ha
       have kB9:=jB
       have kG9:=jG
       have e0:wr.cell? ⟨w.heap.size,0,none⟩=some (.slice none 0 0):=kB9.cell 0
       have e1:wr.cell? ⟨w.heap.size,1,none⟩=some (.slice none 0 0):=kB9.cell 1
       have d0:wr.cell? ⟨w.heap.size+1+1,0,none⟩=some (.slice va acc.length vc):=kG9.cell 0
       have d1:wr.cell? ⟨w.heap.size+1+1,1,none⟩=some (.slice ra rs.length rc):=kG9.cell 1
       have ff:∀ i,wr.frozen? ⟨w.heap.size,i,none⟩=false:=kB9.frozen
       go_wp2_with fail
       refine bodyPost_ret (v:=.tuple #[.agg #[(.slice va acc.length vc),(.slice ra rs.length rc)],.pointer (some ⟨w.heap.size+1,0,none⟩)]) (by simp [results,Tryz.results36,go_sem,e0,e1]) rfl ?_
       refine REnds.yes HP.out ((M.new (Nat.le_refl _) _ _).new (Nat.le_refl _) _ _) X ((hr2.other _ _ (by omega) fB).other _ _ (by omega) fB) ⟨_,_,rfl,?_,?_⟩
       ·refine Seq.move (RGrow.seq lv_movable ⟨ps,F,hlv⟩) (fun b hb=>?_) (fun b hb=>⟨by have:=hb.1;omega,by simpa [World.setCell] using hb.2.1,hb.2.2⟩) (fun v x hk=>lv_movable _ _ _ _ v x (fun b hb=>?_) (fun b hb=>⟨by have:=hb.1;omega,by simpa [World.setCell] using hb.2.1,hb.2.2⟩) hk)
        all_goals
         have hbb:b≠w.heap.size:=by have:=hb.1;omega
         rw [Below.heap_setCell _ _ _ _ hbb,Below.heap_setCell _ _ _ _ hbb]
       ·refine Seq.move (RGrow.seq (rule_movable YR 9) ⟨pr,Fr,hrr⟩) (fun b hb=>?_) (fun b hb=>⟨by have:=hb.1;omega,by simpa [World.setCell] using hb.2.1,hb.2.2⟩) (fun v x hk=>rule_movable YR 9 _ _ _ _ v x (fun b hb=>?_) (fun b hb=>⟨by have:=hb.1;omega,by simpa [World.setCell] using hb.2.1,hb.2.2⟩) hk)
        all_goals
         have hbb:b≠w.heap.size:=by have:=hb.1;omega
         rw [Below.heap_setCell _ _ _ _ hbb,Below.heap_setCell _ _ _ _ hbb]
    ·have h0:((n:Int) == 0)=false:=beq_eq_false_iff_ne.2 (by have:=hx.pos;omega)
     obtain⟨ii,WW,kqx⟩:=hx.blk
     have c4:wr.cell? ⟨w.heap.size+1,4,none⟩=some (.int .i64 (n:Int)):=kqx.cell 4
     have e0:wr.cell? ⟨w.heap.size,0,none⟩=some (.slice none 0 0):=kB9.cell 0
     have e1:wr.cell? ⟨w.heap.size,1,none⟩=some (.slice none 0 0):=kB9.cell 1
     have d0:wr.cell? ⟨w.heap.size+1+1,0,none⟩=some (.slice xa xk xc):=kG9.cell 0
     have d1:wr.cell? ⟨w.heap.size+1+1,1,none⟩=some (.slice xa' xk' xc'):=kG9.cell 1
     have ff:∀ i,wr.frozen? ⟨w.heap.size,i,none⟩=false:=kB9.frozen
     go_wp2_with fail
     refine bodyPost_ret (v:=.tuple #[.agg #[(.slice xa xk xc),(.slice xa' xk' xc')],.pointer (some ⟨w.heap.size+1,0,none⟩)]) (by simp [results,Tryz.results36,go_sem,e0,e1]) rfl ?_
     exact REnds.no HE.out ((M.new (Nat.le_refl _) _ _).new (Nat.le_refl _) _ _) X ((hx.other _ _ (by omega) fB).other _ _ (by omega) fB) ⟨_,_,_,_,_,_,rfl⟩
  ·have h0:((n:Int) == 0)=false:=beq_eq_false_iff_ne.2 (by have:=hx.pos;omega)
   obtain⟨ii,WW,kqx⟩:=hx.blk
   have c4:wz.cell? ⟨w.heap.size+1,4,none⟩=some (.int .i64 (n:Int)):=kqx.cell 4
   go_wp2_with fail
   go_loopg [] 0 (fun k wr=>∃ (n a:Nat) (xa:Option Addr) (xk xc:Nat) (xa':Option Addr) (xk' xc':Nat) (sgr:Value) (slr:List ByteArray),k=0∧RX s (w.heap.size+1) wr 0 n a sgr slr∧Blk wr (w.heap.size+1+1) #[.slice xa xk xc,.slice xa' xk' xc'] 49∧Blk wr w.heap.size #[.slice none 0 0,.slice none 0 0] 49∧sgr.ownBlock≠some w.heap.size∧Mv (w.heap.size+1) (.slice none 0 0) w wr∧Nx (.slice none 0 0) w sgr∧Hid (rread s=.error (n,a)))
   case atStart=>exact⟨n,a,_,_,_,_,_,_,sgr,slr,rfl,hx,kG,kB,fB,M,X,HE⟩
   case round =>
    clear M X kG kB fB c4 hx HE kqx h0
    obtain⟨n,a,xa,xk,xc,xa',xk',xc',sgr,slr,hk,hx,kG9,kB9,fB,M,X,HE⟩:=hrel
    have h0:((n:Int) == 0)=false:=beq_eq_false_iff_ne.2 (by have:=hx.pos;omega)
    obtain⟨ii,WW,kqx⟩:=hx.blk
    have c4:wr.cell? ⟨w.heap.size+1,4,none⟩=some (.int .i64 (n:Int)):=kqx.cell 4
    have e0:wr.cell? ⟨w.heap.size,0,none⟩=some (.slice none 0 0):=kB9.cell 0
    have e1:wr.cell? ⟨w.heap.size,1,none⟩=some (.slice none 0 0):=kB9.cell 1
    have d0:wr.cell? ⟨w.heap.size+1+1,0,none⟩=some (.slice xa xk xc):=kG9.cell 0
    have d1:wr.cell? ⟨w.heap.size+1+1,1,none⟩=some (.slice xa' xk' xc'):=kG9.cell 1
    have ff:∀ i,wr.frozen? ⟨w.heap.size,i,none⟩=false:=kB9.frozen
    go_wp2_with fail
    refine bodyPost_ret (v:=.tuple #[.agg #[(.slice xa xk xc),(.slice xa' xk' xc')],.pointer (some ⟨w.heap.size+1,0,none⟩)]) (by simp [results,Tryz.results36,go_sem,e0,e1]) rfl ?_
    exact REnds.no HE.out ((M.new (Nat.le_refl _) _ _).new (Nat.le_refl _) _ _) X ((hx.other _ _ (by omega) fB).other _ _ (by omega) fB) ⟨_,_,_,_,_,_,rfl⟩
end Go.Proofs.YtlcppnabbicmoaaGreatDoor
