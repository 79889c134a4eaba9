import Derived.Test.YtlcppnabbicmoaaGreatDoorME24
import Derived.Laws.BitsLemmas
set_option maxHeartbeats 8000000
set_option maxRecDepth 1000000
namespace Go.Proofs.YtlcppnabbicmoaaGreatDoor
open Go.RowKit
open Tr
theorem wrap_small {n:Int}(h0:0<=n)(h1:n<=9223372036854775807):IntKind.i64.wrap n=n:=by rw[IntKind.wrap_i64];omega
def intsV (r:List Nat):List Value:=r.map fun (s:Nat)=>.int .i64 (s:Int)
theorem intsV_len (r:List Nat):(intsV r).length=r.length:=by simp[intsV]
theorem intsV_app (a b:List Nat):intsV (a++b)=intsV a++intsV b:=by simp[intsV]
theorem intsV_one (r:List Nat):∀ u∈intsV r,u.oneCell'=true:=by
 intro u hu;obtain⟨s,-,rfl⟩:=List.mem_map.1 hu;rfl
theorem intsV_get {r:List Nat}{j:Nat}(h:j<r.length):(intsV r)[j]?=some (.int .i64 (r[j]:Int)):=by simp[intsV,h]
def IR (B:Nat)(w:World)(v:Value)(r:List Nat):Prop:=w.ownsRow B 3 1 v r.length (intsV r)
def Lx.lsOf (b n:Nat):List Nat:=(List.range n).map fun k=>b+1+k
structure Rd2 (F:Nat->Prop) (w:World) (mb:Nat) (T N:List ByteArray) (b:Nat) (H:List Lx.It):Prop where
 ex:∃ vT vN vP vB vK vH vL,Blk w mb #[vT,vN,vP,vB,vK,vH,vL] 135/\w.ownsRow 0 9 1 vT T.length (T.map Value.string)/\w.ownsRow 0 9 1 vN N.length (N.map Value.string)/\HR 0 F w vH H/\IR 0 w vL (Lx.lsOf b H.length)
 lt:∀ g,F g->g<w.heap.size
 tn:T.length+N.length<=100000
 bn:b+H.length<=200000
 ris:(H.map Lx.It.place).Pairwise (·< ·)
theorem Rd2.below {F:Nat->Prop}{w w':World}{mb:Nat}{T N:List ByteArray}{b:Nat}{H:List Lx.It}(h:Rd2 F w mb T N b H)(hb:Below w.heap.size w w'):Rd2 F w' mb T N b H:=by
 obtain⟨⟨vT,vN,vP,vB,vK,vH,vL,h1,h2,h3,h4,h5⟩,hl,h6,h7,h8⟩:=h;have hH:∀ g,vH.ownBlock=some g->g<w.heap.size:=fun g hg=>by
  obtain⟨ps,-,k2,-⟩:=h4;exact (k2.lt g hg).2
 exact⟨⟨vT,vN,vP,vB,vK,vH,vL,(hb.block _ h1.lt).trans h1,own_move h2 fun g hg=>hb.block g (h2.lt g hg).2,own_move h3 fun g hg=>hb.block g (h3.lt g hg).2,h4.move (fun b hF=>hb.block b (hl b hF)) (fun g hg=>hb.block g (hH g hg)),own_move h5 fun g hg=>hb.block g (h5.lt g hg).2⟩,fun g hg=>Nat.lt_of_lt_of_le (hl g hg) hb.size,h6,h7,h8⟩
def itV (va:Value)(it:Lx.It):Value:=.agg #[.int .i64 (it.kind:Int),.string it.name,.int .u8 (it.mark:Int),va,.int .i64 (it.place:Int)]
def Lx.Plain1 (T N:List ByteArray)(it:Lx.It):Prop:=if it.kind=1 then 0<=Lx.fnd T it.name else 0<=Lx.fnd N it.name
theorem plainly_any {F:Nat->Prop} {w:World} {mb:Nat} {T N:List ByteArray} {b:Nat} {H:List Lx.It} (h:Rd2 F w mb T N b H) (it:Lx.It) (sa:Option Addr) (sn sc:Nat) (hp:Lx.Plain1 T N it) :
  Calls Tryz.prog 109 #[.pointer (some ⟨mb,0,none⟩),itV (.slice sa sn sc) it] w fun e w'=>e=.returned (.int .i64 (Lx.psym T N it:Int))/\Below w.heap.size w w':=by
 obtain⟨⟨vT,vN,vP,vB,vK,vH,vL,h1,h2,h3,h4,h5⟩,hl,h6,h7,h8⟩:=h;obtain⟨ta,tc,hvT,-⟩:=own_len h2;obtain⟨na,nc,hvN,-⟩:=own_len h3;subst hvT hvN;have lmb:=h1.lt;unfold itV;go_enter Tryz.func109,Tryz.ntmps109;obtain⟨W1,hW1⟩:∃ W1,W1=w.alloc (.cells #[.int .i64 (it.kind:Int),.string it.name,.int .u8 (it.mark:Int),.slice sa sn sc,.int .i64 (it.place:Int)] 148):=⟨_,rfl⟩;have hb1:Below w.heap.size w W1:=by rw[hW1];exact (Below.refl _ _).alloc (Nat.le_refl _) _
 have hs1:W1.heap.size=w.heap.size+1:=by rw[hW1];simp
 have k1:Blk W1 mb _ 135:=(hb1.block _ lmb).trans h1;have kx:Blk W1 w.heap.size #[.int .i64 (it.kind:Int),.string it.name,.int .u8 (it.mark:Int),.slice sa sn sc,.int .i64 (it.place:Int)] 148:=by rw[hW1];exact Blk.new w _ 148
 have o2:W1.ownsRow 0 9 1 (.slice ta T.length tc) T.length (T.map Value.string):=own_move h2 fun g hg=>hb1.block g (h2.lt g hg).2
 have o3:W1.ownsRow 0 9 1 (.slice na N.length nc) N.length (N.map Value.string):=own_move h3 fun g hg=>hb1.block g (h3.lt g hg).2
 unfold Lx.Plain1 at hp
 by_cases hk:it.kind=1
 ·have e1:Lx.psym T N it=Lx.fix T it.name:=if_pos hk
  rw[if_pos hk]at hp;have hkb:((it.kind:Int) == 1)=true:=by simp[hk]
  rw[e1];clear hk e1;go_wp2_with fail;rw[<-hW1];refine (token_has k1 o2 it.name hp).mono ?_;rintro e w2 ⟨rfl,hb2⟩;go_wp2_with fail;go_ret;exact⟨rfl,hb1.trans (hb2.mono hb1.size)⟩
 ·have e1:Lx.psym T N it=T.length+Lx.fix N it.name:=if_neg hk
  rw[if_neg hk]at hp;have hkb:((it.kind:Int) == 1)=false:=beq_eq_false_iff_ne.2 (by omega);obtain⟨hf1,hf2⟩:=fnd_fix hp;rw[e1];clear hk e1 hp;have c0:W1.cell? ⟨mb,0,none⟩=some (.slice ta T.length tc):=k1.cell 0;have c1:W1.cell? ⟨mb,1,none⟩=some (.slice na N.length nc):=k1.cell 1;have x1:W1.cell? ⟨w.heap.size,1,none⟩=some (.string it.name):=kx.cell 1;have q1:=find_any N it.name _ W1.drew (own_move (w':=W1.drew) o3 fun g hg=>rfl);rw[hf1]at q1;have lm1:mb<W1.heap.size:=by omega
  go_wp2_with fail;rw[<-hW1];clear hW1
  go_region_law (refine step_call rfl 70 #[.slice na N.length nc,.string it.name] (by go_simp) q1 ?_;rintro e w2 ⟨rfl,hb2⟩;refine⟨_,rfl,?_⟩;have k2:Blk w2 mb _ 135:=(hb2.block _ (show mb<W1.drew.heap.size from lm1)).trans (show Blk W1.drew mb _ 135 from k1);have c20:w2.cell? ⟨mb,0,none⟩=some (.slice ta T.length tc):=k2.cell 0)
  all_goals
   have hb3:Below W1.heap.size W1 w2:=(Below.refl _ W1).drew.trans hb2;go_wp2_with fail;go_ret;refine⟨?_,hb1.trans (hb3.mono hb1.size)⟩;simp[Act.put,go_sem]
   all_goals exact wrap_small (by omega) (by omega)
end Go.Proofs.YtlcppnabbicmoaaGreatDoor
