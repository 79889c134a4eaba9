import Derived.Test.YtlcppnabbicmoaaGreatDoorMG22
import Derived.Deep.RegionWith
import Derived.Deep.CutRange
set_option maxHeartbeats 8000000
set_option maxRecDepth 1000000
namespace Go.Proofs.YtlcppnabbicmoaaGreatDoor
open Lx Go.Proofs.Tryz
open Go.RowKit
open Tr
def Aj:Code->List Code
 | .loop c=>c::Aj c
 | .seq a b=>Aj a++Aj b
 | .block _ c=>Aj c
 | .scope c=>Aj c
 | .cond _ a b=>Aj a++Aj b
 | _=>[]
noncomputable def aj4:Code:=(((Tryz.f29.body.map Aj).getD [])[4]?).getD .skip
theorem ajq {F:Nat->Prop} {w W w2:World} {g:Lx.Gr} {a a':Option Addr} {c c' mb:Nat} {U V:List ByteArray} {D0 D2:Nat->Prop} {P2:List Lx.Pd} {b0:Nat} (h:DG F w (.slice a' g.levels.length c') (.slice a g.rules.length c) g) (hf:Lx.Fit g) (hmb:w.heap.size+1+1=mb) (hWs:W.heap.size=w.heap.size+5) (hB:Below w.heap.size w W) (kG:aj W w.heap.size #[.slice a' g.levels.length c',.slice a g.rules.length c] 49) (CX:∀ g,¬ mb<=g->D0 g) (hD2:∀ g,D0 g->D2 g) (b2:∀ b,¬ mb<=b->w2.heap[b]?=W.heap[b]?) (hs2:W.heap.size<=w2.heap.size) (Fy:P2.length<=1+0*10000000) (hbn:b0+((g.rules.drop 0).flatMap fQ).length<=5000) (hM2:fZ D2 F w2 mb U V b0 [] P2) (gJ:Hid (aU g=P2++gQ U V b0 (g.rules.drop 0))) (_ne:Hid (b0<=2003)) (HT:Hid (aA g=U)) (HN:Hid (aN g=V)) (_nf:U.length<=2002) (_ng:V.length<=2002)
  {K0:Act->World->Prop} {R0:Ending->World->Prop} {c0 c2 c4 c5 c6 c7 c8 c9 c10 c13 c14 c15 c16 c17 c18 c19 c20 c21 FJ c23 c24 c25 c26 c27 c28 c29 NA c31 c32 c33 c34 c35 c36 c37 c38 c39 c40 FM c42 c43 c44 c45 c46 c47 c48 c49 c50 c51 Ny c53 Nv c55 Jt c57 c58 c59 c60 c61 c62 c63 c64 c65 c66 c67 c68 c69 c70 Um c72 c73 Un c75 c76 c77 c78 c79 c80 c81 c82 c83 c84 c85 c86 c87 c88 c89 c90 c91 c92 c93 c94 c95 c96 c97 c98 c99 abn abo abp abq abr c105 abt c107 abu c109 abv abw abx aby abz abA c116 c117 abB c119 abC abD abE abF c124 abG abH c127 abI abJ c130 c131 abK abL abM abN abO abP c138 c139 abQ c141 abR c143 ak4 c145 c146 ak5 c148 ak6 ak7 ak8 c152 ak9 c154 ala c156 c157 alb c159 c160 alc c162 ald c164 ale alf c167 c168 alg alh c171 ali c173 alj c175 alk alm aln alo alp alq c182 c183 alr als alu alv alx aly alz alA alB c193 c194 alC c196 alD c198 alE alF c201 alG c203 alH alI c206 alJ c208 alK c210 alL c212 c213 alM alN alO alQ c218 alR alS alT c222 alU alV alW c226 c227 c228 c229 alX alY c232 c233 c234 alZ c236 al0 al1 al2 al3 al4 al5 al6 al7 al8 al9 ama amb amc amd ame amf amg amh abS abT abU abV abW abX abY abZ ab0 ab1 ab2 ab3 ab4 ab5 ab6 ab7 ab8 ab9 acd ace acf acg ach aci acj acn aco acp acr acs acu acv acw acy acz acA acB acC acD acE acF acG acH acI acJ acK acL acM acN acO acP acQ acR acS acT acU acV acW acX acY acZ ac0 ac1 ac2:Value}
  (aar:∀ (v13 v14 v15 v16 ac3 v145 v146 ac4 v148 ac5 ac6 ac7 v152 ac8 v154 ac9 ada v157 adb v159 v160 ade v162 adf v164 adg adh v167 v168 adi adj v171 adk v173 adl v175 adn ado adp adq adr ads v182 v183 adt adu adv adw adx ady adz adB adC v193 v194 adD v196 adE v198 adF adG v201 adH v203 adI adJ v206 adK v208 adL v210 adM v212 adN adO adP adQ adR v218 adS adT adU v222 adV adW adX v226 v227 v228 v229 adY adZ v232 v233 v234 ad1 v236 ad2 ad3 ad4 ad5 ad6 ad7 ad8 ad9 aea aeb aec aed aee aef aeg aeh aei aej:Value) (b bq:Nat) (Hq:List Lx.It) (D:Nat->Prop) (P:List Lx.Pd) (wy:World),fZ D F wy mb U V bq Hq P->(∀ g,D0 g->D g)->Kp D0 w2 wy->Hid (aU g=P)->K0 ⟨List.toArray (c0::.pointer (some ⟨w.heap.size,0,none⟩)::c2::.pointer (some ⟨mb,0,none⟩)::c4::c5::c6::c7::c8::c9::c10::.int .i64 (b:Int)::.int .i64 (g.rules.length:Int)::v13::v14::v15::v16::c17::c18::c19::c20::c21::FJ::c23::c24::c25::c26::c27::c28::c29::NA::c31::c32::c33::c34::c35::c36::c37::c38::c39::c40::FM::c42::c43::c44::c45::c46::c47::c48::c49::c50::c51::Ny::c53::Nv::c55::Jt::c57::c58::c59::c60::c61::c62::c63::c64::c65::c66::c67::c68::c69::c70::Um::c72::c73::Un::c75::c76::c77::c78::c79::c80::c81::c82::c83::c84::c85::c86::c87::c88::c89::c90::c91::c92::c93::c94::c95::c96::c97::c98::c99::abn::abo::abp::abq::abr::c105::abt::c107::abu::c109::abv::abw::abx::aby::abz::abA::c116::c117::abB::c119::abC::abD::abE::abF::c124::abG::abH::c127::abI::abJ::c130::c131::abK::abL::abM::abN::abO::abP::c138::c139::abQ::c141::abR::c143::ac3::v145::v146::ac4::v148::ac5::ac6::ac7::v152::ac8::v154::ac9::ada::v157::adb::v159::v160::ade::v162::adf::v164::adg::adh::v167::v168::adi::adj::v171::adk::v173::adl::v175::adn::ado::adp::adq::adr::ads::v182::v183::adt::adu::adv::adw::adx::ady::adz::adB::adC::v193::v194::adD::v196::adE::v198::adF::adG::v201::adH::v203::adI::adJ::v206::adK::v208::adL::v210::adM::v212::adN::adO::adP::adQ::adR::v218::adS::adT::adU::v222::adV::adW::adX::v226::v227::v228::v229::adY::adZ::v232::v233::v234::ad1::v236::ad2::ad3::ad4::ad5::ad6::ad7::ad8::ad9::aea::aeb::aec::aed::aee::aef::aeg::aeh::aei::aej::abS::abT::abU::abV::abW::abX::abY::abZ::ab0::ab1::ab2::ab3::ab4::ab5::ab6::ab7::ab8::ab9::acd::ace::acf::acg::ach::aci::acj::acn::aco::acp::acr::acs::acu::acv::acw::acy::acz::acA::acB::acC::acD::acE::acF::acG::acH::acI::acJ::acK::acL::acM::acN::acO::acP::acQ::acR::acS::acT::acU::acV::acW::acX::acY::acZ::ac0::ac1::ac2::[]),[]⟩ wy) :
  Code.wp prog (Code.loop aj4) (Exit.inBlock 8 (Exit.then K0 (bodyPost prog Tryz.f29 R0))) ⟨List.toArray (c0::.pointer (some ⟨w.heap.size,0,none⟩)::c2::.pointer (some ⟨mb,0,none⟩)::c4::c5::c6::c7::c8::c9::c10::.int .i64 (b0:Int)::.int .i64 0::c13::c14::c15::c16::c17::c18::c19::c20::c21::FJ::c23::c24::c25::c26::c27::c28::c29::NA::c31::c32::c33::c34::c35::c36::c37::c38::c39::c40::FM::c42::c43::c44::c45::c46::c47::c48::c49::c50::c51::Ny::c53::Nv::c55::Jt::c57::c58::c59::c60::c61::c62::c63::c64::c65::c66::c67::c68::c69::c70::Um::c72::c73::Un::c75::c76::c77::c78::c79::c80::c81::c82::c83::c84::c85::c86::c87::c88::c89::c90::c91::c92::c93::c94::c95::c96::c97::c98::c99::abn::abo::abp::abq::abr::c105::abt::c107::abu::c109::abv::abw::abx::aby::abz::abA::c116::c117::abB::c119::abC::abD::abE::abF::c124::abG::abH::c127::abI::abJ::c130::c131::abK::abL::abM::abN::abO::abP::c138::c139::abQ::c141::abR::c143::ak4::c145::c146::ak5::c148::ak6::ak7::ak8::c152::ak9::c154::ala::c156::c157::alb::c159::c160::alc::c162::ald::c164::ale::alf::c167::c168::alg::alh::c171::ali::c173::alj::c175::alk::alm::aln::alo::alp::alq::c182::c183::alr::als::alu::alv::alx::aly::alz::alA::alB::c193::c194::alC::c196::alD::c198::alE::alF::c201::alG::c203::alH::alI::c206::alJ::c208::alK::c210::alL::c212::c213::alM::alN::alO::alQ::c218::alR::alS::alT::c222::alU::alV::alW::c226::c227::c228::c229::alX::alY::c232::c233::c234::alZ::c236::al0::al1::al2::al3::al4::al5::al6::al7::al8::al9::ama::amb::amc::amd::ame::amf::amg::amh::abS::abT::abU::abV::abW::abX::abY::abZ::ab0::ab1::ab2::ab3::ab4::ab5::ab6::ab7::ab8::ab9::acd::ace::acf::acg::ach::aci::acj::acn::aco::acp::acr::acs::acu::acv::acw::acy::acz::acA::acB::acC::acD::acE::acF::acG::acH::acI::acJ::acK::acL::acM::acN::acO::acP::acQ::acR::acS::acT::acU::acV::acW::acX::acY::acZ::ac0::ac1::ac2::[]),[]⟩ w2:=by
 have hmr:=hf.rules;obtain⟨i3,hi3,xH,xI,hz32⟩:=info_parts Tryz.info3
 conv=>arg 2;arg 1;whnf
 go_loopg [11,12] g.rules.length (fun k at_ i wr=>∃ (j b bq:Nat) (Hq:List Lx.It) (D:Nat->Prop) (P:List Lx.Pd),j+k=g.rules.length/\i=.int .i64 j/\at_=.int .i64 (b:Int)/\fZ D F wr mb U V bq Hq P/\(∀ g,D0 g->D g)/\Kp D0 w2 wr/\P.length<=1+j*10000000/\b+((g.rules.drop j).flatMap fQ).length<=5000/\Hid (aU g=P++gQ U V b (g.rules.drop j)))
 case atStart=>exact⟨0,b0,_,_,D2,P2,by omega,rfl,rfl,hM2,hD2,Kp.refl _ _,Fy,hbn,gJ⟩
 case round =>
  clear hM2 hD2 Fy hbn gJ D2 P2;revert wr;intro wy hrel;obtain⟨j,b,bq,Hq,D,P,hk,rfl,rfl,qZ,Bz,wV,l8,hbn,HP⟩:=hrel;have F5:∀ b,¬ mb<=b->wy.heap[b]?=W.heap[b]?:=fun b hb=>(wV.block b (CX b hb)).trans (b2 b hb)
  have hsy:=wV.size;have Ea:aj wy w.heap.size _ 49:=(F5 _ (by omega)).trans kG;have g1:wy.cell? ⟨w.heap.size,1,none⟩=some (.slice a g.rules.length c):=Ea.cell 1
  by_cases hlt:j<g.rules.length
  ·have hdy:DG F wy _ _ g:=(h.below hB).move (w':=wy) (fun b hb=>F5 b (by have:=h.lt b hb;omega)) (by omega)
   obtain⟨gb,cap,va,hv,hF,hA,d0,d1,d2⟩:=hdy.rule hlt;cases hv;obtain⟨sa,sc,hva,-⟩:=ay.len hA;subst hva;have hj:j<=2001:=by have:=hf.rules;omega
   have hrm:g.rules[j]∈g.rules:=List.getElem_mem hlt;have hhl:=hf.jS hrm;have hris:=hf.rise hrm;have Iz:∀ x,x∈aX 9 g.rules[j].alts->qM U V (aH 9 g.rules[j].alts) x:=fun x hx=>by have:=hf.sym hrm hx;rw[HT.out,HN.out]at this;exact this
   have ami:∀ x,x∈aX 9 g.rules[j].alts->x.kind≠2->qi U V x:=fun x hx hk=>by have:=hf.plain hrm hx hk;rw[HT.out,HN.out]at this;exact this
   have amj:∀ a,a∈g.rules[j].alts->a.2.1≠aM->0<=bA U a.2.1:=fun a ha hn=>by have:=hf.prec hrm ha hn;rw[HT.out]at this;exact this
   have R6:=hf.alts hrm;have hisz:=fun {x:Lx.It} (hx:x∈aX 9 g.rules[j].alts)=>hf.its hrm hx
   have hdp:=hf.dp _ hrm;have anh:=hf.aal hrm U V b;have hp2:=HP.out;rw[List.drop_eq_getElem_cons hlt,List.flatMap_cons,List.length_append,vg]at hbn;rw[List.drop_eq_getElem_cons hlt,gQ]at hp2;have Db:Hid _:=hp2;have hdr:(g.rules.drop (j+1)).length=g.rules.length - (j+1):=by simp
   clear hp2 HP hrm hdy d2;generalize g.rules[j]=x at *;have lD:gb<mb:=by have:=h.lt gb hF;omega
   have hL:∀ b,F b->b<mb:=fun b hb=>by have:=h.lt b hb;omega
   go_wp2_with fail;refine (Po 9 F wy _ _ hA (by omega) (fun b hb=>by have:=hL b hb;omega) (by omega)).mono ?_;rintro e w3 ⟨u,rfl,Eb,hb3⟩;have jc:=qZ.more hb3;obtain⟨D3,MQ⟩:∃ D3,D3=More D wy w3:=⟨_,rfl⟩;rw[<-MQ]at jc;have hD3:∀ g,D g->D3 g:=fun g hg=>by rw[MQ];exact .inl hg
   have N9:∀ g,u.ownBlock=some g->D3 g:=fun g hg=>by
    obtain⟨ps,p1,p2,p3⟩:=Eb;rw[MQ];exact .inr ⟨(p2.lt g hg).1,(p2.lt g hg).2⟩
   have hK3:Kp D0 w2 w3:=wV.trans (Kp.below hb3 qZ.lt) Bz;clear MQ;obtain⟨ha,hc,tQ,-⟩:=Eb.len;subst tQ;obtain⟨⟨vT3,vN3,vP3,vH3,vL3,z1,-⟩,-⟩:=id jc;have c5:w3.cell? ⟨mb,5,none⟩=some vH3:=z1.cell 5;have c6:w3.cell? ⟨mb,6,none⟩=some vL3:=z1.cell 6;have cf:∀ i,w3.frozen? ⟨mb,i,none⟩=false:=z1.frozen;obtain⟨qF,hK4⟩:=jc.reset Eb N9 hris;clear jc Eb qZ z1;generalize hHe:aH 9 x.alts=H at *;have HHE:Hid (aH 9 x.alts=H):=hHe;clear hHe;go_wp2_with fail;obtain⟨w4,hw4⟩:∃ w4,w4=(w3.setCell ⟨mb,5,none⟩ (.slice ha H.length hc)).setCell ⟨mb,6,none⟩ (.slice none 0 0):=⟨_,rfl⟩;rw[<-hw4]at qF hK4;rw[<-hw4];clear hw4 c5 c6 cf;have amk:Kp D0 w2 w4:=hK3.trans hK4 (fun g hg=>hD3 g (Bz g hg));have aek:∀ g,D0 g->D3 g:=fun g hg=>hD3 g (Bz g hg)
   clear hK3 hK4 Bz wV hb3 hD3;obtain⟨i3,hi3,xH,xI,hz32⟩:=info_parts Tryz.info3
   go_loopg [13] H.length (fun k i wr=>∃ (m:Nat),m+k=H.length/\i=.int .i64 m/\Bl D3 F wr mb U V H (oG b m) P/\Kp D3 w4 wr)
   case atStart=>exact⟨0,by omega,rfl,qF,Kp.refl _ _⟩
   case round =>
    clear qF;obtain⟨m,hkm,rfl,aQ,hKr⟩:=hrel;obtain⟨⟨vTr,vNr,vPr,vHr,vLr,z1,z2,z3,z4,z5,z6,y1,y2,y3,y4,y5⟩,-⟩:=id aQ;obtain⟨hra,hrc,tQ,-⟩:=z4.len;subst tQ;obtain⟨F6,F7,qD,hlm⟩:=aI z5;subst qD;have hls:(oG b m).length=m:=Ab b m;rw[hls]at hlm;unfold maxLen at hlm;have m5:wr.cell? ⟨mb,5,none⟩=some (.slice hra H.length hrc):=z1.cell 5;have m6:wr.cell? ⟨mb,6,none⟩=some (.slice F6 (oG b m).length F7):=z1.cell 6;rw[hls]at m6 z1 y5;have z5':wr.ownsRow 0 3 1 (.slice F6 m F7) m (gV (oG b m)):=by have:=z5;unfold IR at this;rw[hls]at this;exact this
    clear hls z5;have jO:=z1.lt;have u6:(Value.slice F6 m F7).ownBlock≠some mb:=fun e=>(y5 mb e).2.1 rfl
    by_cases bF:m<H.length
    ·have hb1:Below wr.heap.size wr (wr.alloc (.cells #[.int .i64 ((b:Int)+1+(m:Int))] 3)):=(Below.refl _ _).alloc (lr0) _
     go_wp2_with (at_builtin;go_loud (refine wpList_append_own_at _ rfl _ _ 24 rfl 0 3 i3 _ 1 8 underlying24 hi3 xH xI hz32 rfl (by decide) (.slice F6 m F7) _ _ rfl (z5'.alloc _) ⟨_,0,none⟩ 1 1 [.int .i64 ((b:Int)+1+(m:Int))] rfl rfl (bP (aj.new _ _ 3)) (by simp[Value.oneCell']) (by unfold maxLen;omega) (by omega) (by simp) ?_;intro v5 w5 hown5 bf _ jT;obtain⟨dL,dM,hv5,-⟩:=aI hown5;subst hv5;have l7:=(z1.alloc (.cells #[.int .i64 ((b:Int)+1+(m:Int))] 3)).grown bf (fun e=>u6 e.symm);have Jt:w5.cell? ⟨mb,6,none⟩=some (.slice F6 m F7):=l7.cell 6;have f56:∀ i,w5.frozen? ⟨mb,i,none⟩=false:=l7.frozen))
     have uF:(Value.slice dL (m+1) dM).ownBlock=(Value.slice F6 m F7).ownBlock\/∃ g,(Value.slice dL (m+1) dM).ownBlock=some g/\wr.heap.size<=g:=by
      rcases jT with h' | h'
      ·exact .inl h'
      ·exact .inr ⟨_,h',by simp⟩
     have hown6:w5.ownsRow 0 3 1 (.slice dL (m+1) dM) ((oG b m).length+1) (gV (oG b m)++[.int .i64 ((b+1+m:Nat):Int)]):=by
      rw[Ab];have e1:((b+1+m:Nat):Int)=(b:Int)+1+(m:Int):=by omega
      rw[e1];exact hown5
     have Br:=pushed (i:=6) (s:=b+1+m) z1 u6 hb1 hown6 bf uF;obtain⟨mI,pU⟩:=aQ.push z1 Br;have oO:Bl D3 F (w5.setCell ⟨mb,6,none⟩ (.slice dL (m+1) dM)) mb U V H (oG b (m+1)) P:=by
      have e2:oG b (m+1)=oG b m++[b+1+m]:=by unfold oG;rw[List.range_succ,List.map_append];rfl
      rw[e2];exact mI
     have wK:=hKr.trans pU (fun _ h=>h);go_wp2_with fail;go_roundg (H.length - (m+1))
     case measure=>omega
     case rel=>exact⟨m+1,by omega,by go_num,oO,wK⟩
    ·have:m=H.length:=by omega
     subst this;obtain⟨D4,Ec,hD4⟩:=aQ.done (by omega);have Ed:Kp D0 w2 wr:=amk.trans hKr aek;have ael:∀ g,D0 g->D4 g:=fun g hg=>hD4 g (aek g hg)
     clear aQ z1 z2 z3 z4 z6 y1 y2 y3 y4 y5 z5' u6 m6 hKr hD4;go_wp2_with fail;obtain⟨w6,zL⟩:∃ w6,w6=wr:=⟨_,rfl⟩;rw[<-zL]at Ec Ed;rw[<-zL];clear zL m5 jO;have Ti:∀ y,y∈H->y∈aX 9 x.alts:=fun y hy=>by rw[<-HHE.out]at hy;exact (List.mem_filter.1 hy).1
     go_loopg [14] x.alts.length (fun k i wr=>∃ (m:Nat) (D5:Nat->Prop),m+k=x.alts.length/\i=.int .i64 m/\fZ D5 F wr mb U V b H (P++(x.alts.take m).map (jF U V b H))/\(∀ g,D0 g->D5 g)/\Kp D0 w2 wr)
     case atStart=>exact⟨0,D4,by omega,rfl,by simpa using Ec,ael,Ed⟩
     case round =>
      clear Ec Ed ael;obtain⟨m,D5,hkm,rfl,aQ,hD5,hKr⟩:=hrel;have br:∀ b,¬ mb<=b->wr.heap[b]?=wy.heap[b]?:=fun b hb=>((hKr.block b (CX b hb)).trans (b2 b hb)).trans (F5 b hb).symm
      have jl:aj wr w.heap.size _ 49:=(br _ (by omega)).trans Ea;have Uo:wr.cell? ⟨w.heap.size,1,none⟩=some (.slice (some ⟨gb,0,none⟩) g.rules.length c):=jl.cell 1;have FR:wr.cell? ⟨gb,j*3+1,none⟩=some (.slice sa x.alts.length sc):=(World.cell?_of_block (w:=wy) (br gb (by omega))).trans d1;have jO:=aQ.lm
      by_cases bF:m<x.alts.length
      ·have hAr:ay YR 9 F wr (.slice sa x.alts.length sc) x.alts:=ay.move (fun b hb=>br b (by have:=hL b hb;omega)) (fun _ h=>h) hA
       obtain⟨gA,ani,vi,hv,hgA,hi,hcc⟩:=Seq.at hAr (fun _=>rfl) bF;cases hv;have Oa:=List.getElem_mem bF;have hal:=R6.2 _ Oa;have aem:∀ y,y∈x.alts[m].1->qM U V H y:=fun y hy=>Iz y (nQ.2 ⟨_,Oa,y,hy,.inl rfl⟩)
       have hpA:=amj _ Oa;have htk:(x.alts.take (m+1)).map (jF U V b H)=(x.alts.take m).map (jF U V b H)++[jF U V b H x.alts[m]]:=by rw[List.take_succ_eq_append_getElem bF,List.map_append];rfl
       have bH:Hid _:=htk;have hPb:(P++(x.alts.take m).map (jF U V b H)).length<=1000000000000:=by rw[List.length_append,List.length_map,List.length_take];have:=R6.1;omega
       clear htk hAr Oa;generalize x.alts[m]=y at hi hcc hal aem hpA bH;obtain⟨its,prec,pa⟩:=y;have hi':bJ YR 8 F wr vi its:=hi;obtain⟨ia,ic,iF,-⟩:=Seq.len hi;subst iF;have c0:wr.cell? ⟨gA,m*3,none⟩=some (.slice ia its.length ic):=hcc 0 (by decide);have c1:wr.cell? ⟨gA,m*3+1,none⟩=some (.string prec):=hcc 1 (by decide);have c2:wr.cell? ⟨gA,m*3+2,none⟩=some (.int .i64 (pa:Int)):=hcc 2 (by decide);have lgA:gA<mb:=hL gA hgA;have hsr:=hKr.size;clear hcc hi;go_wp2_with fail;refine (XM aQ.rd its _ hi' (show its.length<=10000 by have:its.length<=2001:=hal;omega) prec pa aem).mono ?_;rintro e w7 ⟨u,rfl,hu,qB⟩;have aml:=aQ.lm;have oO:=aQ.more qB;have wK:Kp D0 w2 w7:=hKr.trans (Kp.below qB aQ.lt) hD5;obtain⟨ua,uc,hvu,-⟩:=aI hu;subst hvu;have b7:∀ b,¬ mb<=b->w7.heap[b]?=wr.heap[b]?:=fun b hb=>qB.block b (by omega)
       have Ob:aj w7 w.heap.size _ 49:=(b7 _ (by omega)).trans jl;have g71:w7.cell? ⟨w.heap.size,1,none⟩=some (.slice (some ⟨gb,0,none⟩) g.rules.length c):=Ob.cell 1;have d71:w7.cell? ⟨gb,j*3+1,none⟩=some (.slice (some ⟨gA,0,none⟩) x.alts.length sc):=(World.cell?_of_block (w:=wr) (b7 gb (by omega))).trans FR;have Um:w7.cell? ⟨gA,m*3+1,none⟩=some (.string prec):=(World.cell?_of_block (w:=wr) (b7 gA (by omega))).trans c1;have N9:∀ g,(Value.slice ua (gY U V b H its).length uc).ownBlock=some g->More D5 wr w7 g:=fun g hg=>.inr (hu.lt g hg)
       have hPU:jF U V b H (its,prec,pa)=⟨b,gY U V b H its,ET U prec (gY U V b H its)⟩:=rfl;rw[hPU]at bH;clear hPU;have hu0:IR 0 w7 _ _:=dO hu (Nat.zero_le _);have q7:=Zl oO b _ _ hu0 (fun g hg=>⟨N9 g hg,Nat.lt_of_lt_of_le aml (hu.lt g hg).1⟩) prec hpA hPb;have amm:Hid _:=bH;generalize gY U V b H its=rr at q7 bH amm hu N9 hu0;go_wp2_with fail;refine q7.mono ?_;rintro e w8 ⟨rfl,Ec,Ed⟩;have Uq:fZ (More D5 wr w7) F w8 mb U V b H (P++(x.alts.take (m+1)).map (jF U V b H)):=by rw[bH.out,<-List.append_assoc];exact Ec
       have JW:Kp D0 w2 w8:=wK.trans Ed (fun g hg=>.inl (hD5 g hg));go_wp2_with fail;go_roundg (x.alts.length - (m+1))
       case measure=>omega
       case rel=>exact⟨m+1,_,by omega,by go_num,Uq,fun g hg=>.inl (hD5 g hg),JW⟩
      ·have:m=x.alts.length:=by omega
       subst this;rw[List.take_length]at aQ;have MS:(P++x.alts.map (jF U V b H)).length<=30000000000+0*4003:=by rw[List.length_append,List.length_map];have:=R6.1;omega
       have xY:Hid (P++ny U V b x=(P++x.alts.map (jF U V b H))++jZ U V b H 0 (H.drop 0)):=by
        show _=_;unfold ny;rw[HHE.out,List.drop_zero,List.append_assoc]
       generalize P++x.alts.map (jF U V b H)=P6 at aQ MS xY;go_wp2_with fail;clear Uo FR jl br jO;obtain⟨w9,Ur⟩:∃ w9,w9=wr:=⟨_,rfl⟩;rw[<-Ur]at aQ hKr;rw[<-Ur];clear Ur
       go_loopg [16] H.length (fun k i wr=>∃ (m:Nat) (D6:Nat->Prop) (P6:List Lx.Pd),m+k=H.length/\i=.int .i64 m/\fZ D6 F wr mb U V b H P6/\(∀ g,D0 g->D6 g)/\Kp D0 w2 wr/\P6.length<=30000000000+m*4003/\Hid (P++ny U V b x=P6++jZ U V b H m (H.drop m)))
       case atStart=>exact⟨0,D5,P6,by omega,rfl,aQ,hD5,hKr,MS,xY⟩
       case round =>
        clear aQ hD5 hKr MS xY D5 P6;obtain⟨m,D6,P6,hkm,rfl,aQ,hD6,hKr,MS,xY⟩:=hrel;obtain⟨⟨vTr,vNr,vPr,vHr,vLr,z1,z2,z3,z4,z5,-⟩,-⟩:=id aQ;obtain⟨hra,hrc,tQ,-⟩:=z4.len;subst tQ;have m5:wr.cell? ⟨mb,5,none⟩=some (.slice hra H.length hrc):=z1.cell 5;have m6:wr.cell? ⟨mb,6,none⟩=some vLr:=z1.cell 6;have jO:=z1.lt
        by_cases bF:m<H.length
        ·obtain⟨gH,akr,vaH,tQ,Jk,zy⟩:=z4.at bF
         cases tQ;obtain⟨gL,Cr,qD,lL,zA⟩:=z5.at (j:=m) (by rw[Ab];exact bF);have Rc:wr.cell? ⟨gL,m,none⟩=some (.int .i64 ((b+1+m:Nat):Int)):=by
          rw[zA];have:=YG (b:=b) bF;rw[List.getElem?_eq_getElem (by rw[Ab];exact bF)]at this;rw[Option.some.inj this]
         rw[qD,Ab]at m6;have hym:=Ti H[m] (List.getElem_mem bF);have hyp:=ami _ hym;have IE:=hisz hym;have aen:H[m].kind=2->∀ a,a∈H[m].alts->a.1.length<=10000/\∀ y,y∈a.1->qM U V H y:=fun _ a ha=>⟨by have:=IE.2 a ha;omega,fun y hy=>Iz y (Cg hdp hym ha hy)⟩
         have hpp:=xY.out;rw[List.drop_eq_getElem_cons bF,jZ,<-List.append_assoc]at hpp;have pG:Hid _:=hpp;have anj:=OL (T:=U) (N:=V) (b:=b) (H:=H) (x:=H[m]) (n:=2001) IE.1 (by omega);have amn:∀ r,r∈Lx.partsOf U V b H H[m]->r.length<=10000:=by
          intro r hr;unfold Lx.partsOf at hr
          split at hr
          ·obtain⟨a,ha,rfl⟩:=List.mem_map.1 hr
           have:=IE.2 a ha;unfold gY;rw[List.length_map];omega
          ·rw[List.mem_singleton.1 hr];simp
         have amo:=WU U.length (b+1+m) H[m].mark (Lx.partsOf U V b H H[m]);have lgH:gH<wr.heap.size:=z4.blk gH rfl;clear hpp xY zA z1 z2 z3 z4 z5 qD hym;generalize H[m]=y at *;obtain⟨ya,yc,hvy,-⟩:=ay.len Jk;subst hvy;have x0:wr.cell? ⟨gH,m*5,none⟩=some (.int .i64 (y.kind:Int)):=zy 0 (by decide);have x1:wr.cell? ⟨gH,m*5+1,none⟩=some (.string y.name):=zy 1 (by decide);have x2:wr.cell? ⟨gH,m*5+2,none⟩=some (.int .u8 (y.mark:Int)):=zy 2 (by decide);have x3:wr.cell? ⟨gH,m*5+3,none⟩=some (.slice ya y.alts.length yc):=zy 3 (by decide);have x4:wr.cell? ⟨gH,m*5+4,none⟩=some (.int .i64 (y.place:Int)):=zy 4 (by decide);have hbd:Below wr.heap.size wr wr.drew:=(Below.refl _ wr).drew;have hMd:=aQ.more hbd;have hAd:ay YR 9 F wr.drew (.slice ya y.alts.length yc) y.alts:=ay.move (fun _ _=>rfl) (fun _ h=>h) Jk;have q0:=agj hMd y _ hAd hyp aen (by have:=IE.1;omega) (b+1+m) (by omega) amn;unfold Dm at q0;have hKd:Kp D0 wr wr.drew:=⟨rfl,rfl,rfl,lr0,fun _ _=>rfl⟩;have Us:∀ g,D0 g->More D6 wr wr.drew g:=fun g hg=>.inl (hD6 g hg)
         clear zy Jk hAd hyp aen IE aQ hMd;generalize iH U.length (b+1+m) y.mark (Lx.partsOf U V b H y)=hp at q0 amo pG;generalize b+1+m=sym at q0 Rc;generalize More D6 wr wr.drew=Dd at q0 Us;go_wp2_with fail
         go_region_law (refine mZ rfl 69 #[.pointer (some ⟨mb,0,none⟩),.agg #[.int .i64 (y.kind:Int),.string y.name,.int .u8 (y.mark:Int),.slice ya y.alts.length yc,.int .i64 (y.place:Int)],.int .i64 (sym:Int)] (by go_simp) q0 ?_;rintro e w9 ⟨rfl,D9,Uq,hD9,JW⟩;refine⟨_,rfl,?_⟩)
         all_goals
          have hKn:Kp D0 w2 w9:=(hKr.trans hKd (fun _ h=>h)).trans JW Us;have hDn:∀ g,D0 g->D9 g:=fun g hg=>hD9 g (Us g hg)
          have hPn:(P6++hp).length<=30000000000+(m+1)*4003:=by rw[List.length_append];omega
          go_wp2_with fail;go_roundg (H.length - (m+1))
          case measure=>omega
          case rel=>exact⟨m+1,D9,P6++hp,by omega,by go_num,Uq,hDn,hKn,hPn,pG⟩
        ·have:m=H.length:=by omega
         subst this;have hpp:=xY.out;rw[List.drop_length,jZ,List.append_nil]at hpp;have JX:Hid (aU g=P6++gQ U V (b+1+H.length) (g.rules.drop (j+1))):=by
          show _=_;rw[<-hpp,Db.out,List.append_assoc]
         have Rw:P6.length<=1+(j+1)*10000000:=by rw[<-hpp,List.length_append];omega
         clear hpp xY z1 z2 z3 z4 z5 m6;go_wp2_with fail;rw[show ((b:Int)+1+(H.length:Int))=((b+1+H.length:Nat):Int) from by omega];go_roundg (g.rules.length - (j+1))
         case measure=>omega
         case rel=>exact⟨j+1,b+1+H.length,_,_,D6,P6,by omega,by go_num,rfl,aQ,hD6,hKr,Rw,by omega,JX⟩
  ·have:j=g.rules.length:=by omega
   subst this;have hpp:=HP.out;rw[List.drop_length,gQ,List.append_nil]at hpp;have JX:Hid (aU g=P):=hpp;have HEX:Hid _:=aar;clear hpp HP hbn l8 hk aar;go_wp2_with fail;exact HEX.out _ _ _ _ _ _ _ _ _ _ _ _ _ _ _ _ _ _ _ _ _ _ _ _ _ _ _ _ _ _ _ _ _ _ _ _ _ _ _ _ _ _ _ _ _ _ _ _ _ _ _ _ _ _ _ _ _ _ _ _ _ _ _ _ _ _ _ _ _ _ _ _ _ _ _ _ _ _ _ _ _ _ _ _ _ _ _ _ _ _ _ _ _ _ _ _ _ _ _ _ _ _ _ _ _ _ _ _ _ _ _ _ _ _ _ _ _ _ _ _ _ qZ Bz wV JX
end Go.Proofs.YtlcppnabbicmoaaGreatDoor
