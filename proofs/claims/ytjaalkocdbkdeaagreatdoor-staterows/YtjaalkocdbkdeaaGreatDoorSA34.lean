import Derived.Test.YtjaalkocdbkdeaaGreatDoorSA24
import Derived.Deep.RegionWith
import Derived.Deep.CutRange
set_option maxHeartbeats 8000000
set_option maxRecDepth 1000000
namespace Go.Proofs.YtjaalkocdbkdeaaGreatDoor
open Lx Go.Proofs.Tryz
open Go.RowKit
open Tr
def zV:Code->List Code
 |.loop c=>c::zV c
 |.seq a b=>zV a++zV b
 |.block _ c=>zV c
 |.scope c=>zV c
 |.cond _ a b=>zV a++zV b
 |_=>[]
noncomputable def ajx:Code:=(((Tryz.f26.body.map zV).getD [])[4]?).getD .skip
theorem aiR {F:Nat->Prop} {w W w2:World} {g:Lx.Gr} {a a':Option Addr} {c c' mb:Nat} {U V:List ByteArray} {D0 D2:Nat->Prop} {P2:List Lx.Pd} {b0:Nat} (h:DG F w (.slice a' g.levels.length c') (.slice a g.rules.length c) g) (hf:Lx.Fit g) (hmb:w.heap.size+1+1=mb) (hWs:W.heap.size=w.heap.size+5) (hB:Below w.heap.size w W) (kG:aj W w.heap.size #[.slice a' g.levels.length c',.slice a g.rules.length c] 86) (CB:∀g,¬mb<=g->D0 g) (hD2:∀g,D0 g->D2 g) (b2:∀b,¬mb<=b->w2.heap[b]?=W.heap[b]?) (hs2:W.heap.size<=w2.heap.size) (EL:P2.length<=1+0*10000000) (hbn:b0+((g.rules.drop 0).flatMap gD).length<=5000) (hM2:fP D2 F w2 mb U V b0 [] P2) (nA:Hid (bI g=P2++iB U V b0 (g.rules.drop 0))) (_HLU:Hid (b0<=2003)) (HT:Hid (aD g=U)) (HN:Hid (bg g=V)) (_htl:U.length<=2002) (_hnl:V.length<=2002)
  {K0:Act->World->Prop} {R0:Ending->World->Prop} {c0 c2 c4 c5 c6 c7 c8 c9 c10 c13 c14 c15 c16 c17 c18 c19 c20 c21 EU c23 c24 c25 c26 c27 c28 c29 MI c31 c32 c33 c34 c35 c36 c37 c38 c39 c40 EY c42 c43 c44 c45 c46 c47 c48 c49 c50 c51 MC c53 MH c55 IV SC c58 c59 c60 c61 c62 c63 c64 c65 c66 c67 c68 c69 c70 SE c72 c73 SF c75 c76 c77 c78 c79 c80 c81 c82 c83 c84 c85 c86 c87 c88 c89 c90 c91 c92 c93 c94 c95 c96 c97 c98 c99 aas aat aau aav aaw c105 aax c107 aay c109 aaz aaA aaB aaC aaD aaE c116 c117 aaF c119 aaG aaH aaI aaJ c124 aaK aaL c127 aaM aaN c130 c131 aaO aaP aaQ aaR aaS aaT c138 c139 aaU c141 aaV c143 aks c145 c146 akt c148 aku akv akw c152 akx c154 aky c156 c157 akz c159 c160 akA c162 akB c164 akC akD c167 c168 akE akF c171 akG c173 akH c175 akI akJ akK akL akM akN c182 c183 akO akP akQ akR akS akT akU akV akW c193 c194 akX c196 akY c198 akZ ak0 c201 ak1 c203 ak2 ak3 c206 ak4 c208 ak5 c210 ak6 c212 c213 ak7 ak8 ak9 ala c218 alb alc ald c222 ale alf alg c226 c227 c228 c229 alh ali c232 c233 c234 alj c236 alk alm aln alo alp alq alr als alu alv alx aly alz alA alB alC alD alE aaW aaX aaY aaZ aa0 aa1 aa2 aa3 aa4 aa5 aa6 aa7 aa8 aa9 abb abd abe abf abg abh abj abk abl abm abn abo abp abq abr abt abu abv abw abx aby abz abA abB abC abD abE abF abG abH abI abJ abK abL abM abN abO abP abQ abR abS abT abU abV abW abX abY abZ ab0 ab1:Value}
  (Zt:∀(v13 v14 v15 v16 ab2 v145 v146 ab3 v148 ab4 ab5 ab6 v152 ab7 v154 ab8 ab9 v157 acd v159 v160 ace v162 acf v164 acg ach v167 v168 aci acj v171 acn v173 aco v175 acp acr acs acu acv acw v182 v183 acy acz acA acB acC acD acE acF acG v193 v194 acH v196 acI v198 acJ acK v201 acL v203 acM acN v206 acO v208 acP v210 acQ v212 acR acS acT acU acV v218 acW acX acY v222 acZ ac0 ac1 v226 v227 v228 v229 ac2 ac3 v232 v233 v234 ac4 v236 ac5 ac6 ac7 ac8 ac9 ada adb ade adf adg adh adi adj adk adl adn ado adp:Value)(b bq:Nat)(Hq:List Lx.It)(D:Nat->Prop)(P:List Lx.Pd)(wy:World),fP D F wy mb U V bq Hq P->(∀g,D0 g->D g)->Kp D0 w2 wy->Hid (bI g=P)->K0 ⟨List.toArray (c0::.pointer (some ⟨w.heap.size,0,none⟩)::c2::.pointer (some ⟨mb,0,none⟩)::c4::c5::c6::c7::c8::c9::c10::.int .i64 (b:Int)::.int .i64 (g.rules.length:Int)::v13::v14::v15::v16::c17::c18::c19::c20::c21::EU::c23::c24::c25::c26::c27::c28::c29::MI::c31::c32::c33::c34::c35::c36::c37::c38::c39::c40::EY::c42::c43::c44::c45::c46::c47::c48::c49::c50::c51::MC::c53::MH::c55::IV::SC::c58::c59::c60::c61::c62::c63::c64::c65::c66::c67::c68::c69::c70::SE::c72::c73::SF::c75::c76::c77::c78::c79::c80::c81::c82::c83::c84::c85::c86::c87::c88::c89::c90::c91::c92::c93::c94::c95::c96::c97::c98::c99::aas::aat::aau::aav::aaw::c105::aax::c107::aay::c109::aaz::aaA::aaB::aaC::aaD::aaE::c116::c117::aaF::c119::aaG::aaH::aaI::aaJ::c124::aaK::aaL::c127::aaM::aaN::c130::c131::aaO::aaP::aaQ::aaR::aaS::aaT::c138::c139::aaU::c141::aaV::c143::ab2::v145::v146::ab3::v148::ab4::ab5::ab6::v152::ab7::v154::ab8::ab9::v157::acd::v159::v160::ace::v162::acf::v164::acg::ach::v167::v168::aci::acj::v171::acn::v173::aco::v175::acp::acr::acs::acu::acv::acw::v182::v183::acy::acz::acA::acB::acC::acD::acE::acF::acG::v193::v194::acH::v196::acI::v198::acJ::acK::v201::acL::v203::acM::acN::v206::acO::v208::acP::v210::acQ::v212::acR::acS::acT::acU::acV::v218::acW::acX::acY::v222::acZ::ac0::ac1::v226::v227::v228::v229::ac2::ac3::v232::v233::v234::ac4::v236::ac5::ac6::ac7::ac8::ac9::ada::adb::ade::adf::adg::adh::adi::adj::adk::adl::adn::ado::adp::aaW::aaX::aaY::aaZ::aa0::aa1::aa2::aa3::aa4::aa5::aa6::aa7::aa8::aa9::abb::abd::abe::abf::abg::abh::abj::abk::abl::abm::abn::abo::abp::abq::abr::abt::abu::abv::abw::abx::aby::abz::abA::abB::abC::abD::abE::abF::abG::abH::abI::abJ::abK::abL::abM::abN::abO::abP::abQ::abR::abS::abT::abU::abV::abW::abX::abY::abZ::ab0::ab1::[]),[]⟩ wy) :
  Code.wp prog (Code.loop ajx) (Exit.inBlock 8 (Exit.then K0 (bodyPost prog Tryz.f26 R0))) ⟨List.toArray (c0::.pointer (some ⟨w.heap.size,0,none⟩)::c2::.pointer (some ⟨mb,0,none⟩)::c4::c5::c6::c7::c8::c9::c10::.int .i64 (b0:Int)::.int .i64 0::c13::c14::c15::c16::c17::c18::c19::c20::c21::EU::c23::c24::c25::c26::c27::c28::c29::MI::c31::c32::c33::c34::c35::c36::c37::c38::c39::c40::EY::c42::c43::c44::c45::c46::c47::c48::c49::c50::c51::MC::c53::MH::c55::IV::SC::c58::c59::c60::c61::c62::c63::c64::c65::c66::c67::c68::c69::c70::SE::c72::c73::SF::c75::c76::c77::c78::c79::c80::c81::c82::c83::c84::c85::c86::c87::c88::c89::c90::c91::c92::c93::c94::c95::c96::c97::c98::c99::aas::aat::aau::aav::aaw::c105::aax::c107::aay::c109::aaz::aaA::aaB::aaC::aaD::aaE::c116::c117::aaF::c119::aaG::aaH::aaI::aaJ::c124::aaK::aaL::c127::aaM::aaN::c130::c131::aaO::aaP::aaQ::aaR::aaS::aaT::c138::c139::aaU::c141::aaV::c143::aks::c145::c146::akt::c148::aku::akv::akw::c152::akx::c154::aky::c156::c157::akz::c159::c160::akA::c162::akB::c164::akC::akD::c167::c168::akE::akF::c171::akG::c173::akH::c175::akI::akJ::akK::akL::akM::akN::c182::c183::akO::akP::akQ::akR::akS::akT::akU::akV::akW::c193::c194::akX::c196::akY::c198::akZ::ak0::c201::ak1::c203::ak2::ak3::c206::ak4::c208::ak5::c210::ak6::c212::c213::ak7::ak8::ak9::ala::c218::alb::alc::ald::c222::ale::alf::alg::c226::c227::c228::c229::alh::ali::c232::c233::c234::alj::c236::alk::alm::aln::alo::alp::alq::alr::als::alu::alv::alx::aly::alz::alA::alB::alC::alD::alE::aaW::aaX::aaY::aaZ::aa0::aa1::aa2::aa3::aa4::aa5::aa6::aa7::aa8::aa9::abb::abd::abe::abf::abg::abh::abj::abk::abl::abm::abn::abo::abp::abq::abr::abt::abu::abv::abw::abx::aby::abz::abA::abB::abC::abD::abE::abF::abG::abH::abI::abJ::abK::abL::abM::abN::abO::abP::abQ::abR::abS::abT::abU::abV::abW::abX::abY::abZ::ab0::ab1::[]),[]⟩ w2:=by
 have hmr:=hf.rules;obtain⟨i3,hi3,Cv,Cw,hz32⟩:=info_parts Tryz.info3
 conv=>arg 2;arg 1;whnf
 go_loopg [11,12] g.rules.length (fun k at_ i wr=>∃(j b bq:Nat)(Hq:List Lx.It)(D:Nat->Prop)(P:List Lx.Pd),j+k=g.rules.length/\i=.int .i64 j/\at_=.int .i64 (b:Int)/\fP D F wr mb U V bq Hq P/\(∀g,D0 g->D g)/\Kp D0 w2 wr/\P.length<=1+j*10000000/\b+((g.rules.drop j).flatMap gD).length<=5000/\Hid (bI g=P++iB U V b (g.rules.drop j)))
 case atStart=>exact⟨0,b0,_,_,D2,P2,by omega,rfl,rfl,hM2,hD2,Kp.refl _ _,EL,hbn,nA⟩
 case round=>
  clear hM2 hD2 EL hbn nA D2 P2;revert wr;intro wy hrel;obtain⟨j,b,bq,Hq,D,P,hk,rfl,rfl,nY,Bl,wQ,lV,hbn,HP⟩:=hrel;have Fw:∀b,¬mb<=b->wy.heap[b]?=W.heap[b]?:=fun b hb=>(wQ.block b (CB b hb)).trans (b2 b hb)
  have hsy:=wQ.size;have DC:aj wy w.heap.size _ 86:=(Fw _ (by omega)).trans kG;have g1:wy.cell? ⟨w.heap.size,1,none⟩=some (.slice a g.rules.length c):=DC.cell 1
  by_cases hlt:j<g.rules.length
  ·have hdy:DG F wy _ _ g:=(h.below hB).move (w':=wy) (fun b hb=>Fw b (by have:=h.lt b hb;omega)) (by omega)
   obtain⟨gb,cap,va,hv,hF,hA,d0,d1,d2⟩:=hdy.rule hlt;cases hv;obtain⟨sa,sc,hva,-⟩:=ay.len hA;subst hva;have hj:j<=2001:=by have:=hf.rules;omega
   have hrm:g.rules[j]∈g.rules:=List.getElem_mem hlt;have hhl:=hf.jH hrm;have hris:=hf.rise hrm;have Hr:∀x,x∈cu 9 g.rules[j].alts->qE U V (aR 9 g.rules[j].alts) x:=fun x hx=>by have:=hf.sym hrm hx;rw[HT.out,HN.out]at this;exact this
   have alF:∀x,x∈cu 9 g.rules[j].alts->x.kind≠2->qz U V x:=fun x hx hk=>by have:=hf.plain hrm hx hk;rw[HT.out,HN.out]at this;exact this
   have alG:∀a,a∈g.rules[j].alts->a.2.1≠aL->0<=bA U a.2.1:=fun a ha hn=>by have:=hf.prec hrm ha hn;rw[HT.out]at this;exact this
   have QS:=hf.alts hrm;have hisz:=fun{x:Lx.It}(hx:x∈cu 9 g.rules[j].alts)=>hf.its hrm hx
   have hdp:=hf.dp _ hrm;have amC:=hf.Zm hrm U V b;have hp2:=HP.out;rw[List.drop_eq_getElem_cons hlt,List.flatMap_cons,List.length_append,zJ]at hbn;rw[List.drop_eq_getElem_cons hlt,iB]at hp2;have H6:Hid _:=hp2;have hdr:(g.rules.drop (j+1)).length=g.rules.length - (j+1):=by simp
   clear hp2 HP hrm hdy d2;generalize g.rules[j]=x at *;have ny:gb<mb:=by have:=h.lt gb hF;omega
   have hL:∀b,F b->b<mb:=fun b hb=>by have:=h.lt b hb;omega
   go_wp2_with fail;refine(Ow 9 F wy _ _ hA (by omega) (fun b hb=>by have:=hL b hb;omega) (by omega)).mono ?_;rintro e w3⟨u,rfl,DF,hb3⟩;have iU:=nY.more hb3;obtain⟨D3,LY⟩:∃D3,D3=More D wy w3:=⟨_,rfl⟩;rw[<-LY]at iU;have hD3:∀g,D g->D3 g:=fun g hg=>by rw[LY];exact .inl hg
   have Ni:∀g,u.ownBlock=some g->D3 g:=fun g hg=>by
    obtain⟨ps,p1,p2,p3⟩:=DF;rw[LY];exact .inr ⟨(p2.lt g hg).1,(p2.lt g hg).2⟩
   have hK3:Kp D0 w2 w3:=wQ.trans (Kp.below hb3 nY.lt) Bl;clear LY;obtain⟨ha,hc,tH,-⟩:=DF.len;subst tH;obtain⟨⟨vT3,vN3,vP3,vH3,vL3,z1,-⟩,-⟩:=id iU;have c5:w3.cell? ⟨mb,5,none⟩=some vH3:=z1.cell 5;have c6:w3.cell? ⟨mb,6,none⟩=some vL3:=z1.cell 6;have cf:∀i,w3.frozen? ⟨mb,i,none⟩=false:=z1.frozen;obtain⟨qp,hK4⟩:=iU.reset DF Ni hris;clear iU DF nY z1;generalize hHe:aR 9 x.alts=H at *;have HHE:Hid (aR 9 x.alts=H):=hHe;clear hHe;go_wp2_with fail;obtain⟨w4,hw4⟩:∃w4,w4=(w3.setCell ⟨mb,5,none⟩ (.slice ha H.length hc)).setCell ⟨mb,6,none⟩ (.slice none 0 0):=⟨_,rfl⟩;rw[<-hw4]at qp hK4;rw[<-hw4];clear hw4 c5 c6 cf;have alH:Kp D0 w2 w4:=hK3.trans hK4 (fun g hg=>hD3 g (Bl g hg));have adq:∀g,D0 g->D3 g:=fun g hg=>hD3 g (Bl g hg)
   clear hK3 hK4 Bl wQ hb3 hD3;obtain⟨i3,hi3,Cv,Cw,hz32⟩:=info_parts Tryz.info3
   go_loopg [13] H.length (fun k i wr=>∃(m:Nat),m+k=H.length/\i=.int .i64 m/\Ba D3 F wr mb U V H (oG b m) P/\Kp D3 w4 wr)
   case atStart=>exact⟨0,by omega,rfl,qp,Kp.refl _ _⟩
   case round=>
    clear qp;obtain⟨m,hkm,rfl,aO,hKr⟩:=hrel;obtain⟨⟨vTr,vNr,vPr,vHr,vLr,z1,z2,z3,z4,z5,z6,y1,y2,y3,y4,y5⟩,-⟩:=id aO;obtain⟨hra,hrc,tH,-⟩:=z4.len;subst tH;obtain⟨Fx,Fy,AX,hlm⟩:=aF z5;subst AX;have hls:(oG b m).length=m:=zP b m;rw[hls]at hlm;unfold maxLen at hlm;have m5:wr.cell? ⟨mb,5,none⟩=some (.slice hra H.length hrc):=z1.cell 5;have m6:wr.cell? ⟨mb,6,none⟩=some (.slice Fx (oG b m).length Fy):=z1.cell 6;rw[hls]at m6 z1 y5;have z5':wr.ownsRow 0 3 1 (.slice Fx m Fy) m (gK (oG b m)):=by have:=z5;unfold IR at this;rw[hls]at this;exact this
    clear hls z5;have jE:=z1.lt;have uQ:(Value.slice Fx m Fy).ownBlock≠some mb:=fun e=>(y5 mb e).2.1 rfl
    by_cases bJ:m<H.length
    ·have hb1:Below wr.heap.size wr (wr.alloc (.cells #[.int .i64 ((b:Int)+1+(m:Int))] 3)):=(Below.refl _ _).alloc (zL0) _
     go_wp2_with (at_builtin;go_loud (refine wpList_append_own_at _ rfl _ _ 43 rfl 0 3 i3 _ 1 8 underlying43 hi3 Cv Cw hz32 rfl (by decide) (.slice Fx m Fy) _ _ rfl (z5'.alloc _) ⟨_,0,none⟩ 1 1 [.int .i64 ((b:Int)+1+(m:Int))] rfl rfl (bC (aj.new _ _ 3)) (by simp[Value.oneCell']) (by unfold maxLen;omega) (by omega) (by simp) ?_;intro v5 w5 hown5 aU _ j6;obtain⟨dU,dV,hv5,-⟩:=aF hown5;subst hv5;have lT:=(z1.alloc (.cells #[.int .i64 ((b:Int)+1+(m:Int))] 3)).grown aU (fun e=>uQ e.symm);have IV:w5.cell? ⟨mb,6,none⟩=some (.slice Fx m Fy):=lT.cell 6;have f56:∀i,w5.frozen? ⟨mb,i,none⟩=false:=lT.frozen))
     have uj:(Value.slice dU (m+1) dV).ownBlock=(Value.slice Fx m Fy).ownBlock\/∃g,(Value.slice dU (m+1) dV).ownBlock=some g/\wr.heap.size<=g:=by
      rcases j6 with h'|h'
      ·exact .inl h'
      ·exact .inr ⟨_,h',by simp⟩
     have hown6:w5.ownsRow 0 3 1 (.slice dU (m+1) dV) ((oG b m).length+1) (gK (oG b m)++[.int .i64 ((b+1+m:Nat):Int)]):=by
      rw[zP];have e1:((b+1+m:Nat):Int)=(b:Int)+1+(m:Int):=by omega
      rw[e1];exact hown5
     have Jp:=pushed (i:=6) (s:=b+1+m) z1 uQ hb1 hown6 aU uj;obtain⟨kP,nX⟩:=aO.push z1 Jp;have oL:Ba D3 F (w5.setCell ⟨mb,6,none⟩ (.slice dU (m+1) dV)) mb U V H (oG b (m+1)) P:=by
      have e2:oG b (m+1)=oG b m++[b+1+m]:=by unfold oG;rw[List.range_succ,List.map_append];rfl
      rw[e2];exact kP
     have wC:=hKr.trans nX (fun _ h=>h);go_wp2_with fail;go_roundg (H.length - (m+1))
     case measure=>omega
     case rel=>exact⟨m+1,by omega,by go_num,oL,wC⟩
    ·have:m=H.length:=by omega
     subst this;obtain⟨D4,DI,hD4⟩:=aO.done (by omega);have wP:Kp D0 w2 wr:=alH.trans hKr adq;have adr:∀g,D0 g->D4 g:=fun g hg=>hD4 g (adq g hg)
     clear aO z1 z2 z3 z4 z6 y1 y2 y3 y4 y5 z5' uQ m6 hKr hD4;go_wp2_with fail;obtain⟨w6,tL⟩:∃w6,w6=wr:=⟨_,rfl⟩;rw[<-tL]at DI wP;rw[<-tL];clear tL m5 jE;have Rv:∀y,y∈H->y∈cu 9 x.alts:=fun y hy=>by rw[<-HHE.out]at hy;exact(List.mem_filter.1 hy).1
     go_loopg [14] x.alts.length (fun k i wr=>∃(m:Nat)(D5:Nat->Prop),m+k=x.alts.length/\i=.int .i64 m/\fP D5 F wr mb U V b H (P++(x.alts.take m).map (jY U V b H))/\(∀g,D0 g->D5 g)/\Kp D0 w2 wr)
     case atStart=>exact⟨0,D4,by omega,rfl,by simpa using DI,adr,wP⟩
     case round=>
      clear DI wP adr;obtain⟨m,D5,hkm,rfl,aO,hD5,hKr⟩:=hrel;have br:∀b,¬mb<=b->wr.heap[b]?=wy.heap[b]?:=fun b hb=>((hKr.block b (CB b hb)).trans (b2 b hb)).trans (Fw b hb).symm
      have jb:aj wr w.heap.size _ 86:=(br _ (by omega)).trans DC;have SG:wr.cell? ⟨w.heap.size,1,none⟩=some (.slice (some ⟨gb,0,none⟩) g.rules.length c):=jb.cell 1;have Fg:wr.cell? ⟨gb,j*3+1,none⟩=some (.slice sa x.alts.length sc):=(World.cell?_of_block (w:=wy) (br gb (by omega))).trans d1;have jE:=aO.lm
      by_cases bJ:m<x.alts.length
      ·have hAr:ay YR 9 F wr (.slice sa x.alts.length sc) x.alts:=ay.move (fun b hb=>br b (by have:=hL b hb;omega)) (fun _ h=>h) hA
       obtain⟨gA,amD,vi,hv,hgA,hi,hcc⟩:=Seq.at hAr (fun _=>rfl) bJ;cases hv;have Nj:=List.getElem_mem bJ;have hal:=QS.2 _ Nj;have ads:∀y,y∈x.alts[m].1->qE U V H y:=fun y hy=>Hr y (BM.2 ⟨_,Nj,y,hy,.inl rfl⟩)
       have hpA:=alG _ Nj;have htk:(x.alts.take (m+1)).map (jY U V b H)=(x.alts.take m).map (jY U V b H)++[jY U V b H x.alts[m]]:=by rw[List.take_succ_eq_append_getElem bJ,List.map_append];rfl
       have bY:Hid _:=htk;have hPb:(P++(x.alts.take m).map (jY U V b H)).length<=1000000000000:=by rw[List.length_append,List.length_map,List.length_take];have:=QS.1;omega
       clear htk hAr Nj;generalize x.alts[m]=y at hi hcc hal ads hpA bY;obtain⟨its,prec,pa⟩:=y;have hi':bM YR 8 F wr vi its:=hi;obtain⟨ia,ic,iK,-⟩:=Seq.len hi;subst iK;have c0:wr.cell? ⟨gA,m*3,none⟩=some (.slice ia its.length ic):=hcc 0 (by decide);have c1:wr.cell? ⟨gA,m*3+1,none⟩=some (.string prec):=hcc 1 (by decide);have c2:wr.cell? ⟨gA,m*3+2,none⟩=some (.int .i64 (pa:Int)):=hcc 2 (by decide);have lgA:gA<mb:=hL gA hgA;have hsr:=hKr.size;clear hcc hi;go_wp2_with fail;refine(Ws aO.rd its _ hi' (show its.length<=10000 by have:its.length<=2001:=hal;omega) prec pa ads).mono ?_;rintro e w7⟨u,rfl,hu,jc⟩;have alI:=aO.lm;have oL:=aO.more jc;have wC:Kp D0 w2 w7:=hKr.trans (Kp.below jc aO.lt) hD5;obtain⟨ua,uc,hvu,-⟩:=aF hu;subst hvu;have b7:∀b,¬mb<=b->w7.heap[b]?=wr.heap[b]?:=fun b hb=>jc.block b (by omega)
       have kG7:aj w7 w.heap.size _ 86:=(b7 _ (by omega)).trans jb;have g71:w7.cell? ⟨w.heap.size,1,none⟩=some (.slice (some ⟨gb,0,none⟩) g.rules.length c):=kG7.cell 1;have d71:w7.cell? ⟨gb,j*3+1,none⟩=some (.slice (some ⟨gA,0,none⟩) x.alts.length sc):=(World.cell?_of_block (w:=wr) (b7 gb (by omega))).trans Fg;have SE:w7.cell? ⟨gA,m*3+1,none⟩=some (.string prec):=(World.cell?_of_block (w:=wr) (b7 gA (by omega))).trans c1;have Ni:∀g,(Value.slice ua (ig U V b H its).length uc).ownBlock=some g->More D5 wr w7 g:=fun g hg=>.inr (hu.lt g hg)
       have hPU:jY U V b H (its,prec,pa)=⟨b,ig U V b H its,Es U prec (ig U V b H its)⟩:=rfl;rw[hPU]at bY;clear hPU;have hu0:IR 0 w7 _ _:=dm hu (Nat.zero_le _);have q7:=X7 oL b _ _ hu0 (fun g hg=>⟨Ni g hg,Nat.lt_of_lt_of_le alI (hu.lt g hg).1⟩) prec hpA hPb;have alJ:Hid _:=bY;generalize ig U V b H its=rr at q7 bY alJ hu Ni hu0;go_wp2_with fail;refine q7.mono ?_;rintro e w8⟨rfl,DI,wP⟩;have Jg:fP (More D5 wr w7) F w8 mb U V b H (P++(x.alts.take (m+1)).map (jY U V b H)):=by rw[bY.out,<-List.append_assoc];exact DI
       have zx:Kp D0 w2 w8:=wC.trans wP (fun g hg=>.inl (hD5 g hg));go_wp2_with fail;go_roundg (x.alts.length - (m+1))
       case measure=>omega
       case rel=>exact⟨m+1,_,by omega,by go_num,Jg,fun g hg=>.inl (hD5 g hg),zx⟩
      ·have:m=x.alts.length:=by omega
       subst this;rw[List.take_length]at aO;have LZ:(P++x.alts.map (jY U V b H)).length<=30000000000+0*4003:=by rw[List.length_append,List.length_map];have:=QS.1;omega
       have Bn:Hid (P++pO U V b x=(P++x.alts.map (jY U V b H))++l6 U V b H 0 (H.drop 0)):=by
        show _=_;unfold pO;rw[HHE.out,List.drop_zero,List.append_assoc]
       generalize P++x.alts.map (jY U V b H)=P6 at aO LZ Bn;go_wp2_with fail;clear SG Fg jb br jE;obtain⟨w9,SH⟩:∃w9,w9=wr:=⟨_,rfl⟩;rw[<-SH]at aO hKr;rw[<-SH];clear SH
       go_loopg [16] H.length (fun k i wr=>∃(m:Nat)(D6:Nat->Prop)(P6:List Lx.Pd),m+k=H.length/\i=.int .i64 m/\fP D6 F wr mb U V b H P6/\(∀g,D0 g->D6 g)/\Kp D0 w2 wr/\P6.length<=30000000000+m*4003/\Hid (P++pO U V b x=P6++l6 U V b H m (H.drop m)))
       case atStart=>exact⟨0,D5,P6,by omega,rfl,aO,hD5,hKr,LZ,Bn⟩
       case round=>
        clear aO hD5 hKr LZ Bn D5 P6;obtain⟨m,D6,P6,hkm,rfl,aO,hD6,hKr,LZ,Bn⟩:=hrel;obtain⟨⟨vTr,vNr,vPr,vHr,vLr,z1,z2,z3,z4,z5,-⟩,-⟩:=id aO;obtain⟨hra,hrc,tH,-⟩:=z4.len;subst tH;have m5:wr.cell? ⟨mb,5,none⟩=some (.slice hra H.length hrc):=z1.cell 5;have m6:wr.cell? ⟨mb,6,none⟩=some vLr:=z1.cell 6;have jE:=z1.lt
        by_cases bJ:m<H.length
        ·obtain⟨gH,ajM,vaH,tH,Iz,ze⟩:=z4.at bJ
         cases tH;obtain⟨gL,Cb,AX,lL,zf⟩:=z5.at (j:=m) (by rw[zP];exact bJ);have Qa:wr.cell? ⟨gL,m,none⟩=some (.int .i64 ((b+1+m:Nat):Int)):=by
          rw[zf];have:=Xl (b:=b) bJ;rw[List.getElem?_eq_getElem (by rw[zP];exact bJ)]at this;rw[Option.some.inj this]
         rw[AX,zP]at m6;have hym:=Rv H[m] (List.getElem_mem bJ);have hyp:=alF _ hym;have Hw:=hisz hym;have adt:H[m].kind=2->∀a,a∈H[m].alts->a.1.length<=10000/\∀y,y∈a.1->qE U V H y:=fun _ a ha=>⟨by have:=Hw.2 a ha;omega,fun y hy=>Hr y (KE hdp hym ha hy)⟩
         have hpp:=Bn.out;rw[List.drop_eq_getElem_cons bJ,l6,<-List.append_assoc]at hpp;have rH:Hid _:=hpp;have amE:=NN (T:=U) (N:=V) (b:=b) (H:=H) (x:=H[m]) (n:=2001) Hw.1 (by omega);have alK:∀r,r∈Lx.partsOf U V b H H[m]->r.length<=10000:=by
          intro r hr;unfold Lx.partsOf at hr
          split at hr
          ·obtain⟨a,ha,rfl⟩:=List.mem_map.1 hr
           have:=Hw.2 a ha;unfold ig;rw[List.length_map];omega
          ·rw[List.mem_singleton.1 hr];simp
         have alL:=Vy U.length (b+1+m) H[m].mark (Lx.partsOf U V b H H[m]);have lgH:gH<wr.heap.size:=z4.blk gH rfl;clear hpp Bn zf z1 z2 z3 z4 z5 AX hym;generalize H[m]=y at *;obtain⟨ya,yc,hvy,-⟩:=ay.len Iz;subst hvy;have x0:wr.cell? ⟨gH,m*5,none⟩=some (.int .i64 (y.kind:Int)):=ze 0 (by decide);have x1:wr.cell? ⟨gH,m*5+1,none⟩=some (.string y.name):=ze 1 (by decide);have x2:wr.cell? ⟨gH,m*5+2,none⟩=some (.int .u8 (y.mark:Int)):=ze 2 (by decide);have x3:wr.cell? ⟨gH,m*5+3,none⟩=some (.slice ya y.alts.length yc):=ze 3 (by decide);have x4:wr.cell? ⟨gH,m*5+4,none⟩=some (.int .i64 (y.place:Int)):=ze 4 (by decide);have hbd:Below wr.heap.size wr wr.drew:=(Below.refl _ wr).drew;have hMd:=aO.more hbd;have hAd:ay YR 9 F wr.drew (.slice ya y.alts.length yc) y.alts:=ay.move (fun _ _=>rfl) (fun _ h=>h) Iz;have q0:=afl hMd y _ hAd hyp adt (by have:=Hw.1;omega) (b+1+m) (by omega) alK;unfold CX at q0;have hKd:Kp D0 wr wr.drew:=⟨rfl,rfl,rfl,zL0,fun _ _=>rfl⟩;have SI:∀g,D0 g->More D6 wr wr.drew g:=fun g hg=>.inl (hD6 g hg)
         clear ze Iz hAd hyp adt Hw aO hMd;generalize iO U.length (b+1+m) y.mark (Lx.partsOf U V b H y)=hp at q0 alL rH;generalize b+1+m=sym at q0 Qa;generalize More D6 wr wr.drew=Dd at q0 SI;go_wp2_with fail
         go_region_law (refine jK rfl 61 #[.pointer (some ⟨mb,0,none⟩),.agg #[.int .i64 (y.kind:Int),.string y.name,.int .u8 (y.mark:Int),.slice ya y.alts.length yc,.int .i64 (y.place:Int)],.int .i64 (sym:Int)] (by go_simp) q0 ?_;rintro e w9⟨rfl,D9,Jg,hD9,zx⟩;refine⟨_,rfl,?_⟩)
         all_goals
          have hKn:Kp D0 w2 w9:=(hKr.trans hKd (fun _ h=>h)).trans zx SI;have hDn:∀g,D0 g->D9 g:=fun g hg=>hD9 g (SI g hg)
          have hPn:(P6++hp).length<=30000000000+(m+1)*4003:=by rw[List.length_append];omega
          go_wp2_with fail;go_roundg (H.length - (m+1))
          case measure=>omega
          case rel=>exact⟨m+1,D9,P6++hp,by omega,by go_num,Jg,hDn,hKn,hPn,rH⟩
        ·have:m=H.length:=by omega
         subst this;have hpp:=Bn.out;rw[List.drop_length,l6,List.append_nil]at hpp;have Jq:Hid (bI g=P6++iB U V (b+1+H.length) (g.rules.drop (j+1))):=by
          show _=_;rw[<-hpp,H6.out,List.append_assoc]
         have Qv:P6.length<=1+(j+1)*10000000:=by rw[<-hpp,List.length_append];omega
         clear hpp Bn z1 z2 z3 z4 z5 m6;go_wp2_with fail;rw[show ((b:Int)+1+(H.length:Int))=((b+1+H.length:Nat):Int) from by omega];go_roundg (g.rules.length - (j+1))
         case measure=>omega
         case rel=>exact⟨j+1,b+1+H.length,_,_,D6,P6,by omega,by go_num,rfl,aO,hD6,hKr,Qv,by omega,Jq⟩
  ·have:j=g.rules.length:=by omega
   subst this;have hpp:=HP.out;rw[List.drop_length,iB,List.append_nil]at hpp;have Jq:Hid (bI g=P):=hpp;have HEX:Hid _:=Zt;clear hpp HP hbn lV hk Zt;go_wp2_with fail;exact HEX.out _ _ _ _ _ _ _ _ _ _ _ _ _ _ _ _ _ _ _ _ _ _ _ _ _ _ _ _ _ _ _ _ _ _ _ _ _ _ _ _ _ _ _ _ _ _ _ _ _ _ _ _ _ _ _ _ _ _ _ _ _ _ _ _ _ _ _ _ _ _ _ _ _ _ _ _ _ _ _ _ _ _ _ _ _ _ _ _ _ _ _ _ _ _ _ _ _ _ _ _ _ _ _ _ _ _ _ _ _ _ _ _ _ _ _ _ _ _ _ _ _ nY Bl wQ Jq
end Go.Proofs.YtjaalkocdbkdeaaGreatDoor
