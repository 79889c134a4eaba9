import Derived.Test.YtlcppnabbicmoaaGreatDoorMG02
set_option maxHeartbeats 8000000
set_option maxRecDepth 1000000
namespace Go.Proofs.YtlcppnabbicmoaaGreatDoor
open Lx Go.Proofs.Tryz
section
open Go.RowKit
open Lx (Tk)
open Tr
end
section
open Go.RowKit
open Lx (Tk)
open Tr
end
section
open Go.RowKit
open Lx (Tk)
open Tr
abbrev KI (d:Nat):(Nat->Prop)->World->Value->Lx.Alt->Prop:=fun F w vi a=>rJ YP d F w vi a.1
theorem rJ.form {Y:Lay}{d:Nat}{F:Nat->Prop}{w:World}{v:Value}{l:List Lx.It}(h:rJ Y d F w v l):∃ a k c,v=.slice a k c:=by
 exact eO.form h
theorem Yp {d:Nat}(HA:Y6 d):PL d:=by
 intro sb cap L p w ts o ho h;obtain⟨i0,hi,hz0,hz1,hz2⟩:=info_parts Tryz.ai2;have hp:=h.lt;have hs:=h.y7;have HO:Hid (o=8 - (d:Int)):=ho;have hlb:=h.lb;have hlen:=h.len;clear ho;have HE:Hid _:=Yi d ts;go_enter func126,ntmps126;go_wp2_with fail;refine (HA sb cap L p w ts o HO.out h).mono ?_;intro e w1 he;cases hr1:dJ (bE d) (d == 8) ts with
 | error x =>
  obtain⟨n,a⟩:=x;obtain⟨rfl,hg1⟩:=he.err hr1;exact⟨rfl,Ends.no (by rw[HE.out];unfold ni;rw[hr1]) hg1⟩
 | ok x =>
  obtain⟨a1,aC⟩:=x;obtain⟨v,rfl,hg1,QY,vi,rfl,hv⟩:=he.ok hr1;have hl1:=BZ (zV d) hr1;have Db:Hid (iN d ts=iZ (bE d) (d == 8) aC.length aC [a1]):=by
   show _=_;rw[HE.out];unfold ni;rw[hr1]
  obtain⟨va,vk,vc,rfl⟩:=rJ.form hv;have G1:mP w.heap.size (w1.alloc (.cells #[.slice va vk vc,.string a1.2.1] 194)) 194 2 YP.cA (KI d) (.slice (some ⟨w1.heap.size,0,none⟩) 1 1) [a1] :=
   mP.one (J6 YP d) (w:=w) (.slice va vk vc,a1) (Nat.le_refl _) hg1.size hv rfl
  have aaw:=QY.alloc (.cells #[.slice va vk vc,.string a1.2.1] 194);have ggA:=aY hg1 (cK w1 (.cells #[.slice va vk vc,.string a1.2.1] 194) (some p));clear hr1 he HE;go_wp2_with fail
  go_loopg [3] aC.length (fun k v wr=>∃ (aB:List Tk) (acc:List Lx.Alt) (f:Nat),aB.length=k/\aB.length<=f/\acc.length+aB.length<=ts.length+1/\Rd sb cap L p wr aB o /\
    mP w.heap.size wr 194 2 YP.cA (KI d) v acc/\w.grownBy wr (some p)/\Hid (iN d ts=iZ (bE d) (d == 8) f aB acc))
  case atStart=>exact⟨aC,[a1],aC.length,rfl,Nat.le_refl _,by simp;omega,aaw,G1,ggA,Db⟩
  case round =>
   obtain⟨aB,acc,f,hk,hf,hacc,hr,hgrow,hg,hpm⟩:=hrel;clear aaw ggA G1 hv;have hne:=hr.wf.ne;obtain⟨f',rfl⟩:∃ f',f=f'+1:=⟨f-1,by omega⟩
   by_cases hb:Lx.hd aB=sP
   ·have HB:Hid (Lx.hd aB=sP):=hb
    clear hb;have htl:=hr.wf.mJ;go_wp2_with fail;refine (Ko hr sP (by decide) HB.out).mono ?_;rintro e w2 ⟨rfl,hg2,hr2⟩;have Sr:=aY hg hg2;go_wp2_with fail;refine (HA sb cap L p w2 aB.tail o HO.out hr2).mono ?_;intro e w3 he;cases hr3:dJ (bE d) (d == 8) aB.tail with
    | error x =>
     obtain⟨n,a⟩:=x;obtain⟨rfl,hg3⟩:=he.err hr3;exact⟨rfl,Ends.no (by rw[hpm.out];simp only[iZ];rw[if_pos HB.out,hr3]) (aY Sr hg3)⟩
    | ok x =>
     obtain⟨a3,fu⟩:=x;obtain⟨v,rfl,hg3,Ct,vi3,rfl,hv3⟩:=he.ok hr3;have hl3:=BZ (zV d) hr3;have uV:Hid (iN d ts=iZ (bE d) (d == 8) f' fu (acc++[a3])):=by
      show _=_;rw[hpm.out];simp only[iZ];rw[if_pos HB.out,hr3]
     obtain⟨xa,xk,xc,rfl⟩:=rJ.form hv3;clear hr3 he hpm;obtain⟨ps,F,hgb⟩:=hgrow;have Cu:=hgb.kept (J6 YP d) hg2 (fun k hk=>by cases hk;omega);have akd:=Cu.kept (J6 YP d) hg3 (fun k hk=>by cases hk;omega);have hown3:=akd.2.1;have s2:=Sr.size;have s3:=hg3.size
     go_wp2_with (first
      | (at_builtin;refine wpList_append_lies _ rfl _ _ 177 rfl w.heap.size 194 i0 _ 2 40 underlying177 hi hz0 hz1 hz2 rfl (by decide) u3 acc.length (ps.flatMap YP.cA) rfl (hown3.alloc _) ⟨w3.heap.size,0,none⟩ 1 1 (YP.cA (.slice xa xk xc,a3)) rfl rfl (bP (aj.new w3 _ 194)) (by simp[YP,Value.oneCell']) (by decide) (by unfold maxLen;omega) (by omega) (by simp;omega) _ rfl ?_;intro g cap' w4 vG bX hat hlt))
     have G4:=vz.push (J6 YP d) Cu (p:=p) (by omega) s2 hg3 (.slice xa xk xc,a3) hv3 (cK w3 _ none) vG bX hat;have hr4:=(Ct.alloc _).grown bX (fun e=>by have:=(hown3.lt _ e.symm).1;omega) (fun e=>by have:=(hown3.lt _ e.symm).1;omega);have gg4:=BI (aY Sr hg3) (cK w3 _ none) bX (fun k hk=>(hown3.lt _ hk).1);go_roundg fu.length
     case measure=>omega
     case rel=>exact⟨fu,acc++[a3],f',rfl,by omega,by simp;omega,hr4,G4,gg4,uV⟩
   ·have HB:Hid (¬ Lx.hd aB=sP):=hb
    clear hb
    go_wp2_with (first
     | (go_at_call 123;refine (GN hr sP HB.out).mono ?_;rintro e w' ⟨rfl,hw⟩;obtain rfl:=hw.symm))
    go_ret;refine Ends.yes (x:=acc) (ts':=aB) (by rw[hpm.out];simp only[iZ];rw[if_neg HB.out]) hg hr ?_;exact hgrow.seq
theorem Y9:∀ d,d<=8->PL d
 | 0,_=>Yp (Y7 (Yl afX))
 | d+1,h=>Yp (Y7 (Yl (afY (by omega) (Y9 d (by omega)))))
end
section
open Go.RowKit
open Lx (Tk)
open Tr
def ajN (lo:Nat)(w':World)(v:Value)(r:Lx.Rl):Prop:=∃ va,v=.agg #[.string r.name,va]/\fD YP 9 (In lo w'.heap.size) w' va r.alts
theorem EF (sb cap:Nat) (L:List Tk) (p:Nat) (w:World) (ts:List Tk) (h:Rd sb cap L p w ts 0) :
  Calls prog 89 #[.pointer (some ⟨p,0,none⟩)] w (Ends sb cap L p 0 (ajN w.heap.size) w (dI ts)):=by
 have hp:=h.lt;have hs:=h.y7;have h1:=h.alloc (.cells #[.string ⟨#[]⟩,.slice none 0 0] 179);have kB:=aj.new w #[.string ⟨#[]⟩,.slice none 0 0] 179;have G0:=cK w (.cells #[.string ⟨#[]⟩,.slice none 0 0] 179) (some p);go_enter func89,ntmps89;go_wp2_with fail;refine (Y5 h1).mono ?_;intro e w1 he;cases hr1:dz Lx.isName ts with
 | error x =>
  obtain⟨n,a⟩:=x;obtain⟨rfl,hg1⟩:=he.err hr1;exact⟨rfl,Ends.no (by unfold dI;rw[hr1]) (aY G0 hg1)⟩
 | ok x =>
  obtain⟨b,aC⟩:=x;obtain⟨v,rfl,hg1,QY,rfl⟩:=he.ok hr1;have HR1:Hid _:=hr1;clear hr1 he;have G1:=aY G0 hg1;have kB1:=kB.grown hg1 (by simp;omega);have s1:=G1.size;have sB:=kB1.lt;have h2:=QY.alloc (.cells #[.string b,.slice none 0 0] 179);have kC:=aj.new w1 #[.string b,.slice none 0 0] 179;have kBA:=kB1.alloc (.cells #[.string b,.slice none 0 0] 179);have GA:=aY G1 (cK w1 (.cells #[.string b,.slice none 0 0] 179) (some p));go_wp2_with fail;refine (Kg h2 kV (by decide)).mono ?_;intro e w2 he;cases hr2:gU kV aC with
  | error x =>
   obtain⟨n,a⟩:=x;obtain⟨rfl,hg2⟩:=he.err hr2;exact⟨rfl,Ends.no (by unfold dI;simp only[HR1.out,hr2]) (aY GA hg2)⟩
  | ok x =>
   obtain⟨u,bL⟩:=x;obtain⟨v,rfl,hg2,H9,rfl⟩:=he.ok hr2;have HR2:Hid _:=hr2;clear hr2 he;have G2:=aY GA hg2;have fw:=kC.grown hg2 (by simp;omega);have kB2:=kBA.grown hg2 (by simp;omega);have sC:=fw.lt;go_wp2_with fail;refine (Y9 8 (Nat.le_refl _) sb cap L p w2 bL 0 rfl H9).mono ?_;intro e w3 he;cases hr3:iN 8 bL with
   | error x =>
    obtain⟨n,a⟩:=x;obtain⟨rfl,hg3⟩:=he.err hr3;exact⟨rfl,Ends.no (by unfold dI;simp only[HR1.out,HR2.out,hr3]) (aY G2 hg3)⟩
   | ok x =>
    obtain⟨l,fu⟩:=x;obtain⟨v,rfl,hg3,Ct,hv⟩:=he.ok hr3;obtain⟨va,vk,vc,rfl⟩:=fD.form hv;have HR3:Hid _:=hr3;clear hr3 he;have G3:=aY G2 hg3;have bG:=fw.grown hg3 (by simp;omega);have kB3:=kB2.grown hg3 (by simp;omega);have c1:w3.cell? ⟨w1.heap.size,1,none⟩=some (.slice none 0 0):=bG.cell 1;have f1:∀ i,w3.frozen? ⟨w1.heap.size,i,none⟩=false:=bG.frozen;have h4:=Ct.setOther (b:=w1.heap.size) 1 (.slice va vk vc) (by omega) (by omega);have gG:=bG.set 1 (.slice va vk vc);have bC:=kB3.other (b':=w1.heap.size) (i:=1) (by omega) (.slice va vk vc);have G4:=eU G3 (b:=w1.heap.size) s1 1 (.slice va vk vc);have hv4:=Cm.move (lo':=w2.heap.size) hv (Nat.le_refl _) (gK w3 w1.heap.size 1 (.slice va vk vc)) (fun k hk=>by cases hk;omega);clear kC kBA fw kB2 bG kB3 hv;go_wp2_with fail;refine (Kg h4 iI (by decide)).mono ?_;intro e w5 he;cases nG:gU iI fu with
    | error x =>
     obtain⟨n,a⟩:=x;obtain⟨rfl,hg5⟩:=he.err nG;exact⟨rfl,Ends.no (by unfold dI;simp only[HR1.out,HR2.out,HR3.out,nG]) (aY G4 hg5)⟩
    | ok x =>
     obtain⟨u',ts5⟩:=x;obtain⟨v,rfl,hg5,ake,rfl⟩:=he.ok nG;have HP:Hid (dI ts=.ok (⟨b,l,Lx.pl ts⟩,ts5)):=by
      show _=_;unfold dI;simp only[HR1.out,HR2.out,HR3.out,nG]
     clear nG he;have mG:=gG.grown hg5 (by simp;omega);have FD:=bC.grown hg5 (by simp;omega);have d0:w5.cell? ⟨w1.heap.size,0,none⟩=some (.string b):=mG.cell 0;have d1:w5.cell? ⟨w1.heap.size,1,none⟩=some (.slice va vk vc):=mG.cell 1;have e0:w5.cell? ⟨w.heap.size,0,none⟩=some (.string ⟨#[]⟩):=FD.cell 0;have e1:w5.cell? ⟨w.heap.size,1,none⟩=some (.slice none 0 0):=FD.cell 1;have f2:∀ i,w5.frozen? ⟨w.heap.size,i,none⟩=false:=FD.frozen;have s2:=G2.size;go_wp2_with fail;refine bodyPost_ret (v:=.agg #[.string b,.slice va vk vc]) (by simp[results,results89,go_sem,e0,e1]) rfl ?_;refine Ends.yes HP.out (eU (eU (aY G4 hg5) (Nat.le_refl _) _ _) (Nat.le_refl _) _ _) ((ake.setOther _ _ (by omega) (by omega)).setOther _ _ (by omega) (by omega)) ⟨_,rfl,?_⟩;have m1:=hv4.move (Nat.le_refl _) hg5 (fun k hk=>by cases hk;omega);have m2:=m1.move (Nat.le_refl _) (gK _ w.heap.size 0 (.string b)) (fun k hk=>by cases hk;omega);exact m2.move s2 (gK _ w.heap.size 1 (.slice va vk vc)) (fun k hk=>by cases hk;omega)
end
end Go.Proofs.YtlcppnabbicmoaaGreatDoor
