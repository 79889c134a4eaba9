import Derived.Test.YtlcppnabbicmoaaGreatDoorME04
set_option maxHeartbeats 8000000
set_option maxRecDepth 1000000
namespace Go.Proofs.YtlcppnabbicmoaaGreatDoor
section
open Go.RowKit
open Lx (Tk)
open Tr
namespace Lx
def gapOf (l r:ByteArray):ByteArray :=
 if (l.toList == [59])=true then ⟨#[10]⟩
 else if ((l.toList == []) || (l.toList == [40]) || (r.toList == []))=true then ⟨#[]⟩
 else if ((r.toList == [59]) || (r.toList == [41]) || (r.toList == [42]) || (r.toList == [43]) || (r.toList == [63]))=true then ⟨#[]⟩ else ⟨#[32]⟩
theorem gapOf_size (l r:ByteArray):(gapOf l r).size<=1:=by
 unfold gapOf
 split
 ·decide
 ·split
  ·decide
  ·split <;> decide
end Lx
theorem ret_str {a b:ByteArray}(h:a=b):Ending.returned (.string a)=.returned (.string b):=by rw[h]
theorem gap_any (l r:ByteArray)(w:World):Calls Tryz.prog 82 #[.string l,.string r] w fun e w'=>e=.returned (.string (Lx.gapOf l r))/\w'=w:=by
 cases h1:(l.toList == [59])
 ·cases h2:(l.toList == [])
  ·cases h3:(l.toList == [40])
   ·cases h4:(r.toList == [])
    ·cases h5:(r.toList == [59])
     ·cases h6:(r.toList == [41])
      ·cases h7:(r.toList == [42])
       ·cases h8:(r.toList == [43])
        ·cases h9:(r.toList == [63])
         ·have HE:Hid (Lx.gapOf l r=⟨#[32]⟩):=by show _=_;unfold Lx.gapOf;rw[h1,h2,h3,h4,h5,h6,h7,h8,h9];rfl
          go_enter Tryz.func82,Tryz.ntmps82;go_wp2_with fail;go_ret;exact⟨ret_str HE.out.symm,rfl⟩
         ·have HE:Hid (Lx.gapOf l r=⟨#[]⟩):=by show _=_;unfold Lx.gapOf;rw[h1,h2,h3,h4,h5,h6,h7,h8,h9];rfl
          go_enter Tryz.func82,Tryz.ntmps82;go_wp2_with fail;go_ret;exact⟨ret_str HE.out.symm,rfl⟩
        ·have HE:Hid (Lx.gapOf l r=⟨#[]⟩):=by show _=_;unfold Lx.gapOf;rw[h1,h2,h3,h4,h5,h6,h7,h8];rfl
         go_enter Tryz.func82,Tryz.ntmps82;go_wp2_with fail;go_ret;exact⟨ret_str HE.out.symm,rfl⟩
       ·have HE:Hid (Lx.gapOf l r=⟨#[]⟩):=by show _=_;unfold Lx.gapOf;rw[h1,h2,h3,h4,h5,h6,h7];rfl
        go_enter Tryz.func82,Tryz.ntmps82;go_wp2_with fail;go_ret;exact⟨ret_str HE.out.symm,rfl⟩
      ·have HE:Hid (Lx.gapOf l r=⟨#[]⟩):=by show _=_;unfold Lx.gapOf;rw[h1,h2,h3,h4,h5,h6];rfl
       go_enter Tryz.func82,Tryz.ntmps82;go_wp2_with fail;go_ret;exact⟨ret_str HE.out.symm,rfl⟩
     ·have HE:Hid (Lx.gapOf l r=⟨#[]⟩):=by show _=_;unfold Lx.gapOf;rw[h1,h2,h3,h4,h5];rfl
      go_enter Tryz.func82,Tryz.ntmps82;go_wp2_with fail;go_ret;exact⟨ret_str HE.out.symm,rfl⟩
    ·have HE:Hid (Lx.gapOf l r=⟨#[]⟩):=by show _=_;unfold Lx.gapOf;rw[h1,h2,h3,h4];rfl
     go_enter Tryz.func82,Tryz.ntmps82;go_wp2_with fail;go_ret;exact⟨ret_str HE.out.symm,rfl⟩
   ·have HE:Hid (Lx.gapOf l r=⟨#[]⟩):=by show _=_;unfold Lx.gapOf;rw[h1,h2,h3];rfl
    go_enter Tryz.func82,Tryz.ntmps82;go_wp2_with fail;go_ret;exact⟨ret_str HE.out.symm,rfl⟩
  ·have HE:Hid (Lx.gapOf l r=⟨#[]⟩):=by show _=_;unfold Lx.gapOf;rw[h1,h2];rfl
   go_enter Tryz.func82,Tryz.ntmps82;go_wp2_with fail;go_ret;exact⟨ret_str HE.out.symm,rfl⟩
 ·have HE:Hid (Lx.gapOf l r=⟨#[10]⟩):=by show _=_;unfold Lx.gapOf;rw[h1];rfl
  go_enter Tryz.func82,Tryz.ntmps82;go_wp2_with fail;go_ret;exact⟨ret_str HE.out.symm,rfl⟩
end
section
open Go.RowKit
open Lx (Tk)
open Tr
namespace Lx
def formL:ByteArray->List Tk->List UInt8
 | _,[]=>[]
 | b,t::ts=>(gapOf b t.1).data.toList++(t.1.data.toList++formL t.1 ts)
end Lx
theorem str_cells (a:List UInt8)(s:ByteArray):Lib.byteCells a++Lib.strCells s=Lib.byteCells (a++s.data.toList):=by
 rw[Lib.strCells_eq,<-Lib.byteCells_append]
theorem data_len (s:ByteArray):s.data.toList.length=s.size:=by rw[Array.length_toList];rfl
theorem BAt.alloc {B b:Nat}{p:Value}{bs:List Value}{w:World}(h:BAt B b p bs w)(o:Obj):BAt B b p bs (w.alloc o):=by
 have hlt:=h.lt;obtain⟨h1,v,h2,h3,h4⟩:=h;exact⟨h1,v,(Below.heap_alloc _ _ _ hlt).trans h2,h3.alloc o,h4⟩
theorem BIs.alloc {B b:Nat}{bs:List Value}{w:World}(h:BIs B b bs w)(o:Obj):BIs B b bs (w.alloc o):=by
 rcases h with h | h
 ·exact .inl (BAt.alloc h o)
 ·exact .inr (BAt.alloc h o)
theorem form_any (ts:List Tk) (v:Value) (w:World) (h:w.ownsRow 0 112 2 v ts.length (Lx.tkCells ts)) (hl:ts.length<=2001) (hs:∀ t∈ts,t.1.size<=2000) (h0:Lx.formL Lx.noText ts≠[]) :
  Calls Tryz.prog 40 #[v] w fun e w'=>e=.returned (.string ⟨(Lx.formL Lx.noText ts).toArray⟩)/\Below w.heap.size w w':=by
 obtain⟨va,vc,rfl,-⟩:=own_len h;have hB:=Lib.fresh_isBuilder 164 5 w;have H0:Hid (Lx.formL Lx.noText ts≠[]):=h0;have b0:Below w.heap.size w (w.alloc (.cells #[.pointer none,.slice none 0 0] 164)):=(Below.refl _ _).alloc (Nat.le_refl _) _;clear h0;go_enter Tryz.func40,Tryz.ntmps40;go_wp2_with fail
 go_loopg [4,9] ts.length (fun k beh i wr=>∃ (j:Nat) (b:ByteArray) (acc:List UInt8),j+k=ts.length/\beh=.string b/\i=.int .i64 j/\BIs w.heap.size w.heap.size (Lib.byteCells acc) wr/\Below w.heap.size w wr/\w.heap.size<wr.heap.size/\acc.length<=j*2001/\Hid (acc++Lx.formL b (ts.drop j)=Lx.formL Lx.noText ts))
 case atStart=>exact⟨0,Lx.noText,[],by omega,rfl,rfl,hB,b0,by simp,by simp,by show _=_;simp⟩
 case round =>
  clear hB b0;obtain⟨j,b,acc,hk,rfl,rfl,hB,hb,hw,hac,hE⟩:=hrel
  by_cases hlt:j<ts.length
  ·have h1:=own_below h hb
   obtain⟨g,cap,hv,-,hg⟩:=h1.form (by omega);cases hv;have hg0:g<w.heap.size:=(h.lt g rfl).2;have ht:ts[j]?=some ts[j]:=List.getElem?_eq_getElem hlt;obtain⟨e1,e2⟩:=Lx.tkCells_get ts j _ ht;have c1:wr.cell? ⟨g,j*2,none⟩=some (.string ts[j].1):=(h1.cellAt (j*2) (by omega)).trans e1;have c2:wr.cell? ⟨g,j*2+1,none⟩=some (.int .i64 (ts[j].2:Int)):=(h1.cellAt (j*2+1) (by omega)).trans e2;have hts:=hs ts[j] (List.getElem_mem hlt);have hdr:ts.drop j=ts[j]::ts.drop (j+1):=List.drop_eq_getElem_cons hlt;have HE:Hid ((acc++(Lx.gapOf b ts[j].1).data.toList++ts[j].1.data.toList)++Lx.formL ts[j].1 (ts.drop (j+1))=Lx.formL Lx.noText ts):=by
    show _=_;rw[<-hE.out,hdr];simp[Lx.formL]
   generalize ts[j]=t at c1 c2 hts HE;clear e1 e2 ht hdr hE;obtain⟨tt,tp⟩:=t;simp only at c1 c2 hts HE;have hgs:=Lx.gapOf_size b tt;have kS:=Blk.new wr #[.string tt,.int .i64 (tp:Int)] 112;have hBA:BIs w.heap.size w.heap.size (Lib.byteCells acc) (wr.alloc (.cells #[.string tt,.int .i64 (tp:Int)] 112)):=BIs.alloc hB _;have hbA:Below w.heap.size w (wr.alloc (.cells #[.string tt,.int .i64 (tp:Int)] 112)):=hb.alloc hb.size _;have s0:(wr.alloc (.cells #[.string tt,.int .i64 (tp:Int)] 112)).cell? ⟨wr.heap.size,0,none⟩=some (.string tt):=kS.cell 0
   go_wp2_with (go_at_call 82;refine (gap_any _ _ _).mono ?_;rintro e w' ⟨rfl,hw'⟩;obtain rfl:=hw'.symm)
   refine (write_any w.heap.size w.heap.size _ _ _ hBA (by rw[Lib.byteCells_length];omega) hbA.size).mono ?_;rintro e w1 ⟨rfl,hB1,hb1,hk1⟩;have kS1:=hk1 _ _ kS;have s1:w1.cell? ⟨wr.heap.size,0,none⟩=some (.string tt):=kS1.cell 0;rw[str_cells]at hB1;have hb2:Below w.heap.size w w1:=hbA.trans hb1;clear hBA hbA hb1 hk1 kS s0 c1 c2 hB;go_wp2_with fail;refine (write_any w.heap.size w.heap.size _ _ _ (.inr hB1) (by rw[Lib.byteCells_length,List.length_append,data_len];omega) hb2.size).mono ?_;rintro e w2 ⟨rfl,hB2,hb3,hk2⟩;have kS2:=hk2 _ _ kS1;have s2:w2.cell? ⟨wr.heap.size,0,none⟩=some (.string tt):=kS2.cell 0;rw[str_cells]at hB2;have hlt2:=hB2.lt;have hb4:Below w.heap.size w w2:=hb2.trans hb3;clear hb2 hb3 hk2 kS1 s1 hB1;go_wp2_with fail;go_roundg (ts.length - (j+1))
   case measure=>omega
   case rel=>exact⟨j+1,tt,_,by omega,rfl,by go_num,.inr hB2,hb4,hlt2,by rw[List.length_append,List.length_append,data_len,data_len];omega,HE⟩
  ·have HE:Hid (acc=Lx.formL Lx.noText ts):=by
    show _=_;have:=hE.out
    rwa [List.drop_eq_nil_of_le (by omega),show Lx.formL b []=[] from rfl,List.append_nil]at this
   go_wp2_with fail;refine (string_any w.heap.size w.heap.size acc _ hB (by rw[HE.out];exact H0.out)).mono ?_;rintro e w1 ⟨rfl,hb1⟩;go_wp2_with fail;go_ret;exact⟨ret_str (by rw[HE.out]),hb.trans hb1⟩
end
section
open Go.RowKit
open Lx (Tk)
open Tr
abbrev KI (d:Nat):(Nat->Prop)->World->Value->Lx.Alt->Prop:=fun F w vi a=>ItemsInS YP d F w vi a.1
theorem ItemsInS.form {Y:Lay}{d:Nat}{F:Nat->Prop}{w:World}{v:Value}{l:List Lx.It}(h:ItemsInS Y d F w v l):∃ a k c,v=.slice a k c:=by
 exact SeqS.form h
theorem alts_all {d:Nat}(HA:AltSaid d):AltsSaid d:=by
 intro sb cap L p w ts o ho h;obtain⟨i0,hi,hz0,hz1,hz2⟩:=info_parts Tryz.info194;have hp:=h.lt;have hs:=h.lts;have HO:Hid (o=8 - (d:Int)):=ho;have hlb:=h.lb;have hlen:=h.len;clear ho;have HE:Hid _:=Lx.pAlts_eq d ts;go_enter Tryz.func126,Tryz.ntmps126;go_wp2_with fail;refine (HA sb cap L p w ts o HO.out h).mono ?_;intro e w1 he;cases hr1:Lx.pAlt (Lx.pGroupAt d) (d == 8) ts with
 | error x =>
  obtain⟨n,a⟩:=x;obtain⟨rfl,hg1⟩:=he.err hr1;exact⟨rfl,Ends.no (by rw[HE.out];unfold Lx.pAltsBy;rw[hr1]) hg1⟩
 | ok x =>
  obtain⟨a1,ts1⟩:=x;obtain⟨v,rfl,hg1,hrd1,vi,rfl,hv⟩:=he.ok hr1;have hl1:=Lx.pAlt_len (Lx.pGroupAt_len d) hr1;have HP1:Hid (Lx.pAlts d ts=Lx.pMore (Lx.pGroupAt d) (d == 8) ts1.length ts1 [a1]):=by
   show _=_;rw[HE.out];unfold Lx.pAltsBy;rw[hr1]
  obtain⟨va,vk,vc,rfl⟩:=ItemsInS.form hv;have G1:GrowS w.heap.size (w1.alloc (.cells #[.slice va vk vc,.string a1.2.1] 194)) 194 2 YP.cA (KI d) (.slice (some ⟨w1.heap.size,0,none⟩) 1 1) [a1] :=
   GrowS.one (items_movableS YP d) (w:=w) (.slice va vk vc,a1) (Nat.le_refl _) hg1.size hv rfl
  have hrdA:=hrd1.alloc (.cells #[.slice va vk vc,.string a1.2.1] 194);have ggA:=grown_trans hg1 (grown_alloc w1 (.cells #[.slice va vk vc,.string a1.2.1] 194) (some p));clear hr1 he HE;go_wp2_with fail
  go_loopg [3] ts1.length (fun k v wr=>∃ (tsr:List Tk) (acc:List Lx.Alt) (f:Nat),tsr.length=k/\tsr.length<=f/\acc.length+tsr.length<=ts.length+1/\Rd sb cap L p wr tsr o /\
    GrowS w.heap.size wr 194 2 YP.cA (KI d) v acc/\w.grownBy wr (some p)/\Hid (Lx.pAlts d ts=Lx.pMore (Lx.pGroupAt d) (d == 8) f tsr acc))
  case atStart=>exact⟨ts1,[a1],ts1.length,rfl,Nat.le_refl _,by simp;omega,hrdA,G1,ggA,HP1⟩
  case round =>
   obtain⟨tsr,acc,f,hk,hf,hacc,hr,hgrow,hg,hpm⟩:=hrel;clear hrdA ggA G1 hv;have hne:=hr.wf.ne;obtain⟨f',rfl⟩:∃ f',f=f'+1:=⟨f-1,by omega⟩
   by_cases hb:Lx.hd tsr=Lx.tBar
   ·have HB:Hid (Lx.hd tsr=Lx.tBar):=hb
    clear hb;have htl:=hr.wf.tail_len;go_wp2_with fail;refine (passIf_yes hr Lx.tBar (by decide) HB.out).mono ?_;rintro e w2 ⟨rfl,hg2,hr2⟩;have gg2:=grown_trans hg hg2;go_wp2_with fail;refine (HA sb cap L p w2 tsr.tail o HO.out hr2).mono ?_;intro e w3 he;cases hr3:Lx.pAlt (Lx.pGroupAt d) (d == 8) tsr.tail with
    | error x =>
     obtain⟨n,a⟩:=x;obtain⟨rfl,hg3⟩:=he.err hr3;exact⟨rfl,Ends.no (by rw[hpm.out];simp only[Lx.pMore];rw[if_pos HB.out,hr3]) (grown_trans gg2 hg3)⟩
    | ok x =>
     obtain⟨a3,ts3⟩:=x;obtain⟨v,rfl,hg3,hrd3,vi3,rfl,hv3⟩:=he.ok hr3;have hl3:=Lx.pAlt_len (Lx.pGroupAt_len d) hr3;have HP3:Hid (Lx.pAlts d ts=Lx.pMore (Lx.pGroupAt d) (d == 8) f' ts3 (acc++[a3])):=by
      show _=_;rw[hpm.out];simp only[Lx.pMore];rw[if_pos HB.out,hr3]
     obtain⟨xa,xk,xc,rfl⟩:=ItemsInS.form hv3;clear hr3 he hpm;obtain⟨ps,F,hgb⟩:=hgrow;have hgb2:=hgb.kept (items_movableS YP d) hg2 (fun k hk=>by cases hk;omega);have hgb3:=hgb2.kept (items_movableS YP d) hg3 (fun k hk=>by cases hk;omega);have hown3:=hgb3.2.1;have s2:=gg2.size;have s3:=hg3.size
     go_wp2_with (first
      | (at_builtin;refine wpList_append_lies _ rfl _ _ 177 rfl w.heap.size 194 i0 _ 2 40 Tryz.underlying177 hi hz0 hz1 hz2 rfl (by decide) u3 acc.length (ps.flatMap YP.cA) rfl (hown3.alloc _) ⟨w3.heap.size,0,none⟩ 1 1 (YP.cA (.slice xa xk xc,a3)) rfl rfl (news_of (Blk.new w3 _ 194)) (by simp[YP,Value.oneCell']) (by decide) (by unfold maxLen;omega) (by omega) (by simp;omega) _ rfl ?_;intro g cap' w4 hown4 hgrow4 hat hlt))
     have G4:=GrowByS.push (items_movableS YP d) hgb2 (p:=p) (by omega) s2 hg3 (.slice xa xk xc,a3) hv3 (grown_alloc w3 _ none) hown4 hgrow4 hat;have hr4:=(hrd3.alloc _).grown hgrow4 (fun e=>by have:=(hown3.lt _ e.symm).1;omega) (fun e=>by have:=(hown3.lt _ e.symm).1;omega);have gg4:=grown_append (grown_trans gg2 hg3) (grown_alloc w3 _ none) hgrow4 (fun k hk=>(hown3.lt _ hk).1);go_roundg ts3.length
     case measure=>omega
     case rel=>exact⟨ts3,acc++[a3],f',rfl,by omega,by simp;omega,hr4,G4,gg4,HP3⟩
   ·have HB:Hid (¬ Lx.hd tsr=Lx.tBar):=hb
    clear hb
    go_wp2_with (first
     | (go_at_call 123;refine (passIf_no hr Lx.tBar HB.out).mono ?_;rintro e w' ⟨rfl,hw⟩;obtain rfl:=hw.symm))
    go_ret;refine Ends.yes (x:=acc) (ts':=tsr) (by rw[hpm.out];simp only[Lx.pMore];rw[if_neg HB.out]) hg hr ?_;exact hgrow.seq
theorem alts_at:∀ d,d<=8->AltsSaid d
 | 0,_=>alts_all (alt_all (item_all group_zero))
 | d+1,h=>alts_all (alt_all (item_all (group_succ (by omega) (alts_at d (by omega)))))
end
section
open Go.RowKit
open Lx (Tk)
open Tr
def VRule (lo:Nat)(w':World)(v:Value)(r:Lx.Rl):Prop:=∃ va,v=.agg #[.string r.name,va]/\AltsInS YP 9 (In lo w'.heap.size) w' va r.alts
theorem rule_rd (sb cap:Nat) (L:List Tk) (p:Nat) (w:World) (ts:List Tk) (h:Rd sb cap L p w ts 0) :
  Calls Tryz.prog 89 #[.pointer (some ⟨p,0,none⟩)] w (Ends sb cap L p 0 (VRule w.heap.size) w (Lx.pRule ts)):=by
 have hp:=h.lt;have hs:=h.lts;have h1:=h.alloc (.cells #[.string ⟨#[]⟩,.slice none 0 0] 179);have kB:=Blk.new w #[.string ⟨#[]⟩,.slice none 0 0] 179;have G0:=grown_alloc w (.cells #[.string ⟨#[]⟩,.slice none 0 0] 179) (some p);go_enter Tryz.func89,Tryz.ntmps89;go_wp2_with fail;refine (name_rd h1).mono ?_;intro e w1 he;cases hr1:Lx.pWord Lx.isName ts with
 | error x =>
  obtain⟨n,a⟩:=x;obtain⟨rfl,hg1⟩:=he.err hr1;exact⟨rfl,Ends.no (by unfold Lx.pRule;rw[hr1]) (grown_trans G0 hg1)⟩
 | ok x =>
  obtain⟨b,ts1⟩:=x;obtain⟨v,rfl,hg1,hrd1,rfl⟩:=he.ok hr1;have HR1:Hid _:=hr1;clear hr1 he;have G1:=grown_trans G0 hg1;have kB1:=kB.grown hg1 (by simp;omega);have s1:=G1.size;have sB:=kB1.lt;have h2:=hrd1.alloc (.cells #[.string b,.slice none 0 0] 179);have kC:=Blk.new w1 #[.string b,.slice none 0 0] 179;have kBA:=kB1.alloc (.cells #[.string b,.slice none 0 0] 179);have GA:=grown_trans G1 (grown_alloc w1 (.cells #[.string b,.slice none 0 0] 179) (some p));go_wp2_with fail;refine (mustPass_rd h2 Lx.tEq (by decide)).mono ?_;intro e w2 he;cases hr2:Lx.pMust Lx.tEq ts1 with
  | error x =>
   obtain⟨n,a⟩:=x;obtain⟨rfl,hg2⟩:=he.err hr2;exact⟨rfl,Ends.no (by unfold Lx.pRule;simp only[HR1.out,hr2]) (grown_trans GA hg2)⟩
  | ok x =>
   obtain⟨u,ts2⟩:=x;obtain⟨v,rfl,hg2,hrd2,rfl⟩:=he.ok hr2;have HR2:Hid _:=hr2;clear hr2 he;have G2:=grown_trans GA hg2;have kC2:=kC.grown hg2 (by simp;omega);have kB2:=kBA.grown hg2 (by simp;omega);have sC:=kC2.lt;go_wp2_with fail;refine (alts_at 8 (Nat.le_refl _) sb cap L p w2 ts2 0 rfl hrd2).mono ?_;intro e w3 he;cases hr3:Lx.pAlts 8 ts2 with
   | error x =>
    obtain⟨n,a⟩:=x;obtain⟨rfl,hg3⟩:=he.err hr3;exact⟨rfl,Ends.no (by unfold Lx.pRule;simp only[HR1.out,HR2.out,hr3]) (grown_trans G2 hg3)⟩
   | ok x =>
    obtain⟨l,ts3⟩:=x;obtain⟨v,rfl,hg3,hrd3,hv⟩:=he.ok hr3;obtain⟨va,vk,vc,rfl⟩:=AltsInS.form hv;have HR3:Hid _:=hr3;clear hr3 he;have G3:=grown_trans G2 hg3;have kC3:=kC2.grown hg3 (by simp;omega);have kB3:=kB2.grown hg3 (by simp;omega);have c1:w3.cell? ⟨w1.heap.size,1,none⟩=some (.slice none 0 0):=kC3.cell 1;have f1:∀ i,w3.frozen? ⟨w1.heap.size,i,none⟩=false:=kC3.frozen;have h4:=hrd3.setOther (b:=w1.heap.size) 1 (.slice va vk vc) (by omega) (by omega);have kC4:=kC3.set 1 (.slice va vk vc);have kB4:=kB3.other (b':=w1.heap.size) (i:=1) (by omega) (.slice va vk vc);have G4:=grown_new G3 (b:=w1.heap.size) s1 1 (.slice va vk vc);have hv4:=VAlts.move (lo':=w2.heap.size) hv (Nat.le_refl _) (grown_set w3 w1.heap.size 1 (.slice va vk vc)) (fun k hk=>by cases hk;omega);clear kC kBA kC2 kB2 kC3 kB3 hv;go_wp2_with fail;refine (mustPass_rd h4 Lx.tSemi (by decide)).mono ?_;intro e w5 he;cases hr5:Lx.pMust Lx.tSemi ts3 with
    | error x =>
     obtain⟨n,a⟩:=x;obtain⟨rfl,hg5⟩:=he.err hr5;exact⟨rfl,Ends.no (by unfold Lx.pRule;simp only[HR1.out,HR2.out,HR3.out,hr5]) (grown_trans G4 hg5)⟩
    | ok x =>
     obtain⟨u',ts5⟩:=x;obtain⟨v,rfl,hg5,hrd5,rfl⟩:=he.ok hr5;have HP:Hid (Lx.pRule ts=.ok (⟨b,l,Lx.pl ts⟩,ts5)):=by
      show _=_;unfold Lx.pRule;simp only[HR1.out,HR2.out,HR3.out,hr5]
     clear hr5 he;have kC5:=kC4.grown hg5 (by simp;omega);have kB5:=kB4.grown hg5 (by simp;omega);have d0:w5.cell? ⟨w1.heap.size,0,none⟩=some (.string b):=kC5.cell 0;have d1:w5.cell? ⟨w1.heap.size,1,none⟩=some (.slice va vk vc):=kC5.cell 1;have e0:w5.cell? ⟨w.heap.size,0,none⟩=some (.string ⟨#[]⟩):=kB5.cell 0;have e1:w5.cell? ⟨w.heap.size,1,none⟩=some (.slice none 0 0):=kB5.cell 1;have f2:∀ i,w5.frozen? ⟨w.heap.size,i,none⟩=false:=kB5.frozen;have s2:=G2.size;go_wp2_with fail;refine bodyPost_ret (v:=.agg #[.string b,.slice va vk vc]) (by simp[results,Tryz.results89,go_sem,e0,e1]) rfl ?_;refine Ends.yes HP.out (grown_new (grown_new (grown_trans G4 hg5) (Nat.le_refl _) _ _) (Nat.le_refl _) _ _) ((hrd5.setOther _ _ (by omega) (by omega)).setOther _ _ (by omega) (by omega)) ⟨_,rfl,?_⟩;have m1:=hv4.move (Nat.le_refl _) hg5 (fun k hk=>by cases hk;omega);have m2:=m1.move (Nat.le_refl _) (grown_set _ w.heap.size 0 (.string b)) (fun k hk=>by cases hk;omega);exact m2.move s2 (grown_set _ w.heap.size 1 (.slice va vk vc)) (fun k hk=>by cases hk;omega)
end
end Go.Proofs.YtlcppnabbicmoaaGreatDoor
