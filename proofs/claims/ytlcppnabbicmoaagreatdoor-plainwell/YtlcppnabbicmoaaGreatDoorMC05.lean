import Derived.Test.YtlcppnabbicmoaaGreatDoorMC04
namespace Go.Proofs.YtlcppnabbicmoaaGreatDoor
section
open Go.RowKit
open Lx (Tk)
open Tr
end
section
open Go.RowKit
open Lx (Tk)
open Tr
abbrev KI (d:Nat):(Nat→Prop)→World→Value→Lx.Alt→Prop:=fun F w vi a=>ItemsInS YP d F w vi a.1
theorem ItemsInS.form {Y:Lay}{d:Nat}{F:Nat→Prop}{w:World}{v:Value}{l:List Lx.It}(h:ItemsInS Y d F w v l):∃ a k c,v=.slice a k c:=by
 exact SeqS.form h
set_option maxHeartbeats 1000000 in
set_option maxRecDepth 100000 in
theorem alts_all {d:Nat}(HA:AltSaid d):AltsSaid d:=by
 intro sb cap L p w ts o ho h
 obtain⟨i0,hi,hz0,hz1,hz2⟩:=info_parts Tryz.info194
 have hp:=h.lt
 have hs:=h.lts
 have HO:Hid (o=8 - (d:Int)):=ho
 have hlb:=h.lb
 have hlen:=h.len
 clear ho
 have HE:Hid _:=Lx.pAlts_eq d ts
 go_enter Tryz.func126,Tryz.ntmps126
 go_wp2_with fail
 refine (HA sb cap L p w ts o HO.out h).mono ?_
 intro e w1 he
 cases hr1:Lx.pAlt (Lx.pGroupAt d) (d == 8) ts with
 | error x =>
  obtain⟨n,a⟩:=x
  obtain⟨rfl,hg1⟩:=he.err hr1
  exact⟨rfl,Ends.no (by rw [HE.out];unfold Lx.pAltsBy;rw [hr1]) hg1⟩
 | ok x =>
  obtain⟨a1,ts1⟩:=x
  obtain⟨v,rfl,hg1,hrd1,vi,rfl,hv⟩:=he.ok hr1
  have hl1:=Lx.pAlt_len (Lx.pGroupAt_len d) hr1
  have HP1:Hid (Lx.pAlts d ts=Lx.pMore (Lx.pGroupAt d) (d == 8) ts1.length ts1 [a1]):=by
   show _=_;rw [HE.out];unfold Lx.pAltsBy;rw [hr1]
  obtain⟨va,vk,vc,rfl⟩:=ItemsInS.form hv
  have G1:GrowS w.heap.size (w1.alloc (.cells #[.slice va vk vc,.string a1.2.1] 194)) 194 2 YP.cA (KI d) (.slice (some ⟨w1.heap.size,0,none⟩) 1 1) [a1] :=
   GrowS.one (items_movableS YP d) (w:=w) (.slice va vk vc,a1) (Nat.le_refl _) hg1.size hv rfl
  have hrdA:=hrd1.alloc (.cells #[.slice va vk vc,.string a1.2.1] 194)
  have ggA:=grown_trans hg1 (grown_alloc w1 (.cells #[.slice va vk vc,.string a1.2.1] 194) (some p))
  clear hr1 he HE
  go_wp2_with fail
  go_loopg [3] ts1.length (fun k v wr=>∃ (tsr:List Tk) (acc:List Lx.Alt) (f:Nat),tsr.length=k∧tsr.length≤f∧acc.length+tsr.length≤ts.length+1∧Rd sb cap L p wr tsr o ∧
    GrowS w.heap.size wr 194 2 YP.cA (KI d) v acc∧w.grownBy wr (some p)∧Hid (Lx.pAlts d ts=Lx.pMore (Lx.pGroupAt d) (d == 8) f tsr acc))
  case atStart=>exact⟨ts1,[a1],ts1.length,rfl,Nat.le_refl _,by simp;omega,hrdA,G1,ggA,HP1⟩
  case round =>
   obtain⟨tsr,acc,f,hk,hf,hacc,hr,hgrow,hg,hpm⟩:=hrel
   clear hrdA ggA G1 hv
   have hne:=hr.wf.ne
   obtain⟨f',rfl⟩:∃ f',f=f'+1:=⟨f-1,by omega⟩
   by_cases hb:Lx.hd tsr=Lx.tBar
   ·have HB:Hid (Lx.hd tsr=Lx.tBar):=hb
    clear hb
    have htl:=hr.wf.tail_len
    go_wp2_with fail
    refine (passIf_yes hr Lx.tBar (by decide) HB.out).mono ?_
    rintro e w2 ⟨rfl,hg2,hr2⟩
    have gg2:=grown_trans hg hg2
    go_wp2_with fail
    refine (HA sb cap L p w2 tsr.tail o HO.out hr2).mono ?_
    intro e w3 he
    cases hr3:Lx.pAlt (Lx.pGroupAt d) (d == 8) tsr.tail with
    | error x =>
     obtain⟨n,a⟩:=x
     obtain⟨rfl,hg3⟩:=he.err hr3
     exact⟨rfl,Ends.no (by rw [hpm.out];simp only [Lx.pMore];rw [if_pos HB.out,hr3]) (grown_trans gg2 hg3)⟩
    | ok x =>
     obtain⟨a3,ts3⟩:=x
     obtain⟨v,rfl,hg3,hrd3,vi3,rfl,hv3⟩:=he.ok hr3
     have hl3:=Lx.pAlt_len (Lx.pGroupAt_len d) hr3
     have HP3:Hid (Lx.pAlts d ts=Lx.pMore (Lx.pGroupAt d) (d == 8) f' ts3 (acc++[a3])):=by
      show _=_;rw [hpm.out];simp only [Lx.pMore];rw [if_pos HB.out,hr3]
     obtain⟨xa,xk,xc,rfl⟩:=ItemsInS.form hv3
     clear hr3 he hpm
     obtain⟨ps,F,hgb⟩:=hgrow
     have hgb2:=hgb.kept (items_movableS YP d) hg2 (fun k hk=>by cases hk;omega)
     have hgb3:=hgb2.kept (items_movableS YP d) hg3 (fun k hk=>by cases hk;omega)
     have hown3:=hgb3.2.1
     have s2:=gg2.size
     have s3:=hg3.size
     go_wp2_with (first
      | (at_builtin;refine wpList_append_lies _ rfl _ _ 177 rfl w.heap.size 194 i0 _ 2 40 Tryz.underlying177 hi hz0 hz1 hz2 rfl (by decide) u3 acc.length (ps.flatMap YP.cA) rfl (hown3.alloc _) ⟨w3.heap.size,0,none⟩ 1 1 (YP.cA (.slice xa xk xc,a3)) rfl rfl (news_of (Blk.new w3 _ 194)) (by simp [YP,Value.oneCell']) (by decide) (by unfold maxLen;omega) (by omega) (by simp;omega) _ rfl ?_;intro g cap' w4 hown4 hgrow4 hat hlt))
     have G4:=GrowByS.push (items_movableS YP d) hgb2 (p:=p) (by omega) s2 hg3 (.slice xa xk xc,a3) hv3 (grown_alloc w3 _ none) hown4 hgrow4 hat
     have hr4:=(hrd3.alloc _).grown hgrow4 (fun e=>by have:=(hown3.lt _ e.symm).1;omega) (fun e=>by have:=(hown3.lt _ e.symm).1;omega)
     have gg4:=grown_append (grown_trans gg2 hg3) (grown_alloc w3 _ none) hgrow4 (fun k hk=>(hown3.lt _ hk).1)
     go_roundg ts3.length
     case measure=>omega
     case rel=>exact⟨ts3,acc++[a3],f',rfl,by omega,by simp;omega,hr4,G4,gg4,HP3⟩
   ·have HB:Hid (¬ Lx.hd tsr=Lx.tBar):=hb
    clear hb
    go_wp2_with (first
     | (go_at_call 123;refine (passIf_no hr Lx.tBar HB.out).mono ?_;rintro e w' ⟨rfl,hw⟩;obtain rfl:=hw.symm))
    go_ret
    refine Ends.yes (x:=acc) (ts':=tsr) (by rw [hpm.out];simp only [Lx.pMore];rw [if_neg HB.out]) hg hr ?_
    exact hgrow.seq
theorem alts_at:∀ d,d≤8→AltsSaid d
 | 0,_=>alts_all (alt_all (item_all group_zero))
 | d+1,h=>alts_all (alt_all (item_all (group_succ (by omega) (alts_at d (by omega)))))
end
section
open Go.RowKit
open Lx (Tk)
open Tr
def VRule (lo:Nat)(w':World)(v:Value)(r:Lx.Rl):Prop:=∃ va,v=.agg #[.string r.name,va]∧AltsInS YP 9 (In lo w'.heap.size) w' va r.alts
set_option maxHeartbeats 1000000 in
set_option maxRecDepth 100000 in
theorem rule_rd (sb cap:Nat) (L:List Tk) (p:Nat) (w:World) (ts:List Tk) (h:Rd sb cap L p w ts 0) :
  Calls Tryz.prog 89 #[.pointer (some ⟨p,0,none⟩)] w (Ends sb cap L p 0 (VRule w.heap.size) w (Lx.pRule ts)):=by
 have hp:=h.lt
 have hs:=h.lts
 have h1:=h.alloc (.cells #[.string ⟨#[]⟩,.slice none 0 0] 179)
 have kB:=Blk.new w #[.string ⟨#[]⟩,.slice none 0 0] 179
 have G0:=grown_alloc w (.cells #[.string ⟨#[]⟩,.slice none 0 0] 179) (some p)
 go_enter Tryz.func89,Tryz.ntmps89
 go_wp2_with fail
 refine (name_rd h1).mono ?_
 intro e w1 he
 cases hr1:Lx.pWord Lx.isName ts with
 | error x =>
  obtain⟨n,a⟩:=x
  obtain⟨rfl,hg1⟩:=he.err hr1
  exact⟨rfl,Ends.no (by unfold Lx.pRule;rw [hr1]) (grown_trans G0 hg1)⟩
 | ok x =>
  obtain⟨b,ts1⟩:=x
  obtain⟨v,rfl,hg1,hrd1,rfl⟩:=he.ok hr1
  have HR1:Hid _:=hr1
  clear hr1 he
  have G1:=grown_trans G0 hg1
  have kB1:=kB.grown hg1 (by simp;omega)
  have s1:=G1.size
  have sB:=kB1.lt
  have h2:=hrd1.alloc (.cells #[.string b,.slice none 0 0] 179)
  have kC:=Blk.new w1 #[.string b,.slice none 0 0] 179
  have kBA:=kB1.alloc (.cells #[.string b,.slice none 0 0] 179)
  have GA:=grown_trans G1 (grown_alloc w1 (.cells #[.string b,.slice none 0 0] 179) (some p))
  go_wp2_with fail
  refine (mustPass_rd h2 Lx.tEq (by decide)).mono ?_
  intro e w2 he
  cases hr2:Lx.pMust Lx.tEq ts1 with
  | error x =>
   obtain⟨n,a⟩:=x
   obtain⟨rfl,hg2⟩:=he.err hr2
   exact⟨rfl,Ends.no (by unfold Lx.pRule;simp only [HR1.out,hr2]) (grown_trans GA hg2)⟩
  | ok x =>
   obtain⟨u,ts2⟩:=x
   obtain⟨v,rfl,hg2,hrd2,rfl⟩:=he.ok hr2
   have HR2:Hid _:=hr2
   clear hr2 he
   have G2:=grown_trans GA hg2
   have kC2:=kC.grown hg2 (by simp;omega)
   have kB2:=kBA.grown hg2 (by simp;omega)
   have sC:=kC2.lt
   go_wp2_with fail
   refine (alts_at 8 (Nat.le_refl _) sb cap L p w2 ts2 0 rfl hrd2).mono ?_
   intro e w3 he
   cases hr3:Lx.pAlts 8 ts2 with
   | error x =>
    obtain⟨n,a⟩:=x
    obtain⟨rfl,hg3⟩:=he.err hr3
    exact⟨rfl,Ends.no (by unfold Lx.pRule;simp only [HR1.out,HR2.out,hr3]) (grown_trans G2 hg3)⟩
   | ok x =>
    obtain⟨l,ts3⟩:=x
    obtain⟨v,rfl,hg3,hrd3,hv⟩:=he.ok hr3
    obtain⟨va,vk,vc,rfl⟩:=AltsInS.form hv
    have HR3:Hid _:=hr3
    clear hr3 he
    have G3:=grown_trans G2 hg3
    have kC3:=kC2.grown hg3 (by simp;omega)
    have kB3:=kB2.grown hg3 (by simp;omega)
    have c1:w3.cell? ⟨w1.heap.size,1,none⟩=some (.slice none 0 0):=kC3.cell 1
    have f1:∀ i,w3.frozen? ⟨w1.heap.size,i,none⟩=false:=kC3.frozen
    have h4:=hrd3.setOther (b:=w1.heap.size) 1 (.slice va vk vc) (by omega) (by omega)
    have kC4:=kC3.set 1 (.slice va vk vc)
    have kB4:=kB3.other (b':=w1.heap.size) (i:=1) (by omega) (.slice va vk vc)
    have G4:=grown_new G3 (b:=w1.heap.size) s1 1 (.slice va vk vc)
    have hv4:=VAlts.move (lo':=w2.heap.size) hv (Nat.le_refl _) (grown_set w3 w1.heap.size 1 (.slice va vk vc)) (fun k hk=>by cases hk;omega)
    clear kC kBA kC2 kB2 kC3 kB3 hv
    go_wp2_with fail
    refine (mustPass_rd h4 Lx.tSemi (by decide)).mono ?_
    intro e w5 he
    cases hr5:Lx.pMust Lx.tSemi ts3 with
    | error x =>
     obtain⟨n,a⟩:=x
     obtain⟨rfl,hg5⟩:=he.err hr5
     exact⟨rfl,Ends.no (by unfold Lx.pRule;simp only [HR1.out,HR2.out,HR3.out,hr5]) (grown_trans G4 hg5)⟩
    | ok x =>
     obtain⟨u',ts5⟩:=x
     obtain⟨v,rfl,hg5,hrd5,rfl⟩:=he.ok hr5
     have HP:Hid (Lx.pRule ts=.ok (⟨b,l,Lx.pl ts⟩,ts5)):=by
      show _=_;unfold Lx.pRule;simp only [HR1.out,HR2.out,HR3.out,hr5]
     clear hr5 he
     have kC5:=kC4.grown hg5 (by simp;omega)
     have kB5:=kB4.grown hg5 (by simp;omega)
     have d0:w5.cell? ⟨w1.heap.size,0,none⟩=some (.string b):=kC5.cell 0
     have d1:w5.cell? ⟨w1.heap.size,1,none⟩=some (.slice va vk vc):=kC5.cell 1
     have e0:w5.cell? ⟨w.heap.size,0,none⟩=some (.string ⟨#[]⟩):=kB5.cell 0
     have e1:w5.cell? ⟨w.heap.size,1,none⟩=some (.slice none 0 0):=kB5.cell 1
     have f2:∀ i,w5.frozen? ⟨w.heap.size,i,none⟩=false:=kB5.frozen
     have s2:=G2.size
     go_wp2_with fail
     refine bodyPost_ret (v:=.agg #[.string b,.slice va vk vc]) (by simp [results,Tryz.results89,go_sem,e0,e1]) rfl ?_
     refine Ends.yes HP.out (grown_new (grown_new (grown_trans G4 hg5) (Nat.le_refl _) _ _) (Nat.le_refl _) _ _) ((hrd5.setOther _ _ (by omega) (by omega)).setOther _ _ (by omega) (by omega)) ⟨_,rfl,?_⟩
     have m1:=hv4.move (Nat.le_refl _) hg5 (fun k hk=>by cases hk;omega)
     have m2:=m1.move (Nat.le_refl _) (grown_set _ w.heap.size 0 (.string b)) (fun k hk=>by cases hk;omega)
     exact m2.move s2 (grown_set _ w.heap.size 1 (.slice va vk vc)) (fun k hk=>by cases hk;omega)
end
end Go.Proofs.YtlcppnabbicmoaaGreatDoor
