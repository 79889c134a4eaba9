import Derived.Test.YtlcppnabbicmoaaGreatDoorME30
import Derived.Deep.RegionWith
import Derived.Deep.CutRange
set_option maxHeartbeats 8000000
set_option maxRecDepth 1000000
namespace Go.Proofs.YtlcppnabbicmoaaGreatDoor
open Go.RowKit
open Tr
def loopsOf:Code->List Code
 | .loop c=>c::loopsOf c
 | .seq a b=>loopsOf a++loopsOf b
 | .block _ c=>loopsOf c
 | .scope c=>loopsOf c
 | .cond _ a b=>loopsOf a++loopsOf b
 | _=>[]
noncomputable def loopC:Code:=(((Tryz.f29.body.map loopsOf).getD [])[4]?).getD .skip
theorem docOf_C {F:Nat->Prop} {w W w2:World} {g:Lx.Gr} {a a':Option Addr} {c c' mb:Nat} {U V:List ByteArray} {D0 D2:Nat->Prop} {P2:List Lx.Pd} {b0:Nat} (h:DG F w (.slice a' g.levels.length c') (.slice a g.rules.length c) g) (hf:Lx.Fit g) (hmb:w.heap.size+1+1=mb) (hWs:W.heap.size=w.heap.size+5) (hB:Below w.heap.size w W) (kG:Blk W w.heap.size #[.slice a' g.levels.length c',.slice a g.rules.length c] 49) (hD0g:∀ g,¬ mb<=g->D0 g) (hD2:∀ g,D0 g->D2 g) (b2:∀ b,¬ mb<=b->w2.heap[b]?=W.heap[b]?) (hs2:W.heap.size<=w2.heap.size) (hP2l:P2.length<=1+0*10000000) (hbn:b0+((g.rules.drop 0).flatMap Lx.namesR).length<=5000) (hM2:Mk2 D2 F w2 mb U V b0 [] P2) (HP2:Hid (Lx.prodG g=P2++Lx.rulesPd U V b0 (g.rules.drop 0))) (_HLU:Hid (b0<=2003)) (HT:Hid (Lx.tokG g=U)) (HN:Hid (Lx.namG g=V)) (_htl:U.length<=2002) (_hnl:V.length<=2002)
  {K0:Act->World->Prop} {R0:Ending->World->Prop} {c0 c2 c4 c5 c6 c7 c8 c9 c10 c13 c14 c15 c16 c17 c18 c19 c20 c21 c22 c23 c24 c25 c26 c27 c28 c29 c30 c31 c32 c33 c34 c35 c36 c37 c38 c39 c40 c41 c42 c43 c44 c45 c46 c47 c48 c49 c50 c51 c52 c53 c54 c55 c56 c57 c58 c59 c60 c61 c62 c63 c64 c65 c66 c67 c68 c69 c70 c71 c72 c73 c74 c75 c76 c77 c78 c79 c80 c81 c82 c83 c84 c85 c86 c87 c88 c89 c90 c91 c92 c93 c94 c95 c96 c97 c98 c99 c100 c101 c102 c103 c104 c105 c106 c107 c108 c109 c110 c111 c112 c113 c114 c115 c116 c117 c118 c119 c120 c121 c122 c123 c124 c125 c126 c127 c128 c129 c130 c131 c132 c133 c134 c135 c136 c137 c138 c139 c140 c141 c142 c143 c144 c145 c146 c147 c148 c149 c150 c151 c152 c153 c154 c155 c156 c157 c158 c159 c160 c161 c162 c163 c164 c165 c166 c167 c168 c169 c170 c171 c172 c173 c174 c175 c176 c177 c178 c179 c180 c181 c182 c183 c184 c185 c186 c187 c188 c189 c190 c191 c192 c193 c194 c195 c196 c197 c198 c199 c200 c201 c202 c203 c204 c205 c206 c207 c208 c209 c210 c211 c212 c213 c214 c215 c216 c217 c218 c219 c220 c221 c222 c223 c224 c225 c226 c227 c228 c229 c230 c231 c232 c233 c234 c235 c236 c237 c238 c239 c240 c241 c242 c243 c244 c245 c246 c247 c248 c249 c250 c251 c252 c253 c254 c255 c256 c257 c258 c259 c260 c261 c262 c263 c264 c265 c266 c267 c268 c269 c270 c271 c272 c273 c274 c275 c276 c277 c278 c279 c280 c281 c282 c283 c284 c285 c286 c287 c288 c289 c290 c291 c292 c293 c294 c295 c296 c297 c298 c299 c300 c301 c302 c303 c304 c305 c306 c307 c308 c309 c310 c311 c312 c313 c314 c315 c316 c317 c318:Value}
  (hexit:∀ (v13 v14 v15 v16 v144 v145 v146 v147 v148 v149 v150 v151 v152 v153 v154 v155 v156 v157 v158 v159 v160 v161 v162 v163 v164 v165 v166 v167 v168 v169 v170 v171 v172 v173 v174 v175 v176 v177 v178 v179 v180 v181 v182 v183 v184 v185 v186 v187 v188 v189 v190 v191 v192 v193 v194 v195 v196 v197 v198 v199 v200 v201 v202 v203 v204 v205 v206 v207 v208 v209 v210 v211 v212 v213 v214 v215 v216 v217 v218 v219 v220 v221 v222 v223 v224 v225 v226 v227 v228 v229 v230 v231 v232 v233 v234 v235 v236 v237 v238 v239 v240 v241 v242 v243 v244 v245 v246 v247 v248 v249 v250 v251 v252 v253 v254:Value) (b bq:Nat) (Hq:List Lx.It) (D:Nat->Prop) (P:List Lx.Pd) (wy:World),Mk2 D F wy mb U V bq Hq P->(∀ g,D0 g->D g)->Kp D0 w2 wy->Hid (Lx.prodG g=P)->K0 ⟨List.toArray (c0::.pointer (some ⟨w.heap.size,0,none⟩)::c2::.pointer (some ⟨mb,0,none⟩)::c4::c5::c6::c7::c8::c9::c10::.int .i64 (b:Int)::.int .i64 (g.rules.length:Int)::v13::v14::v15::v16::c17::c18::c19::c20::c21::c22::c23::c24::c25::c26::c27::c28::c29::c30::c31::c32::c33::c34::c35::c36::c37::c38::c39::c40::c41::c42::c43::c44::c45::c46::c47::c48::c49::c50::c51::c52::c53::c54::c55::c56::c57::c58::c59::c60::c61::c62::c63::c64::c65::c66::c67::c68::c69::c70::c71::c72::c73::c74::c75::c76::c77::c78::c79::c80::c81::c82::c83::c84::c85::c86::c87::c88::c89::c90::c91::c92::c93::c94::c95::c96::c97::c98::c99::c100::c101::c102::c103::c104::c105::c106::c107::c108::c109::c110::c111::c112::c113::c114::c115::c116::c117::c118::c119::c120::c121::c122::c123::c124::c125::c126::c127::c128::c129::c130::c131::c132::c133::c134::c135::c136::c137::c138::c139::c140::c141::c142::c143::v144::v145::v146::v147::v148::v149::v150::v151::v152::v153::v154::v155::v156::v157::v158::v159::v160::v161::v162::v163::v164::v165::v166::v167::v168::v169::v170::v171::v172::v173::v174::v175::v176::v177::v178::v179::v180::v181::v182::v183::v184::v185::v186::v187::v188::v189::v190::v191::v192::v193::v194::v195::v196::v197::v198::v199::v200::v201::v202::v203::v204::v205::v206::v207::v208::v209::v210::v211::v212::v213::v214::v215::v216::v217::v218::v219::v220::v221::v222::v223::v224::v225::v226::v227::v228::v229::v230::v231::v232::v233::v234::v235::v236::v237::v238::v239::v240::v241::v242::v243::v244::v245::v246::v247::v248::v249::v250::v251::v252::v253::v254::c255::c256::c257::c258::c259::c260::c261::c262::c263::c264::c265::c266::c267::c268::c269::c270::c271::c272::c273::c274::c275::c276::c277::c278::c279::c280::c281::c282::c283::c284::c285::c286::c287::c288::c289::c290::c291::c292::c293::c294::c295::c296::c297::c298::c299::c300::c301::c302::c303::c304::c305::c306::c307::c308::c309::c310::c311::c312::c313::c314::c315::c316::c317::c318::[]),[]⟩ wy) :
  Code.wp Tryz.prog (Code.loop loopC) (Exit.inBlock 8 (Exit.then K0 (bodyPost Tryz.prog Tryz.f29 R0))) ⟨List.toArray (c0::.pointer (some ⟨w.heap.size,0,none⟩)::c2::.pointer (some ⟨mb,0,none⟩)::c4::c5::c6::c7::c8::c9::c10::.int .i64 (b0:Int)::.int .i64 0::c13::c14::c15::c16::c17::c18::c19::c20::c21::c22::c23::c24::c25::c26::c27::c28::c29::c30::c31::c32::c33::c34::c35::c36::c37::c38::c39::c40::c41::c42::c43::c44::c45::c46::c47::c48::c49::c50::c51::c52::c53::c54::c55::c56::c57::c58::c59::c60::c61::c62::c63::c64::c65::c66::c67::c68::c69::c70::c71::c72::c73::c74::c75::c76::c77::c78::c79::c80::c81::c82::c83::c84::c85::c86::c87::c88::c89::c90::c91::c92::c93::c94::c95::c96::c97::c98::c99::c100::c101::c102::c103::c104::c105::c106::c107::c108::c109::c110::c111::c112::c113::c114::c115::c116::c117::c118::c119::c120::c121::c122::c123::c124::c125::c126::c127::c128::c129::c130::c131::c132::c133::c134::c135::c136::c137::c138::c139::c140::c141::c142::c143::c144::c145::c146::c147::c148::c149::c150::c151::c152::c153::c154::c155::c156::c157::c158::c159::c160::c161::c162::c163::c164::c165::c166::c167::c168::c169::c170::c171::c172::c173::c174::c175::c176::c177::c178::c179::c180::c181::c182::c183::c184::c185::c186::c187::c188::c189::c190::c191::c192::c193::c194::c195::c196::c197::c198::c199::c200::c201::c202::c203::c204::c205::c206::c207::c208::c209::c210::c211::c212::c213::c214::c215::c216::c217::c218::c219::c220::c221::c222::c223::c224::c225::c226::c227::c228::c229::c230::c231::c232::c233::c234::c235::c236::c237::c238::c239::c240::c241::c242::c243::c244::c245::c246::c247::c248::c249::c250::c251::c252::c253::c254::c255::c256::c257::c258::c259::c260::c261::c262::c263::c264::c265::c266::c267::c268::c269::c270::c271::c272::c273::c274::c275::c276::c277::c278::c279::c280::c281::c282::c283::c284::c285::c286::c287::c288::c289::c290::c291::c292::c293::c294::c295::c296::c297::c298::c299::c300::c301::c302::c303::c304::c305::c306::c307::c308::c309::c310::c311::c312::c313::c314::c315::c316::c317::c318::[]),[]⟩ w2:=by
 have hmr:=hf.rules;obtain⟨i3,hi3,hz30,hz31,hz32⟩:=info_parts Tryz.info3
 conv=>arg 2;arg 1;whnf
 go_loopg [11,12] g.rules.length (fun k at_ i wr=>∃ (j b bq:Nat) (Hq:List Lx.It) (D:Nat->Prop) (P:List Lx.Pd),j+k=g.rules.length/\i=.int .i64 j/\at_=.int .i64 (b:Int)/\Mk2 D F wr mb U V bq Hq P/\(∀ g,D0 g->D g)/\Kp D0 w2 wr/\P.length<=1+j*10000000/\b+((g.rules.drop j).flatMap Lx.namesR).length<=5000/\Hid (Lx.prodG g=P++Lx.rulesPd U V b (g.rules.drop j)))
 case atStart=>exact⟨0,b0,_,_,D2,P2,by omega,rfl,rfl,hM2,hD2,Kp.refl _ _,hP2l,hbn,HP2⟩
 case round =>
  clear hM2 hD2 hP2l hbn HP2 D2 P2;revert wr;intro wy hrel;obtain⟨j,b,bq,Hq,D,P,hk,rfl,rfl,hMy,hDy,hKy,hPl,hbn,HP⟩:=hrel;have by_:∀ b,¬ mb<=b->wy.heap[b]?=W.heap[b]?:=fun b hb=>(hKy.block b (hD0g b hb)).trans (b2 b hb)
  have hsy:=hKy.size;have kGy:Blk wy w.heap.size _ 49:=(by_ _ (by omega)).trans kG;have g1:wy.cell? ⟨w.heap.size,1,none⟩=some (.slice a g.rules.length c):=kGy.cell 1
  by_cases hlt:j<g.rules.length
  ·have hdy:DG F wy _ _ g:=(h.below hB).move (w':=wy) (fun b hb=>by_ b (by have:=h.lt b hb;omega)) (by omega)
   obtain⟨gb,cap,va,hv,hF,hA,d0,d1,d2⟩:=hdy.rule hlt;cases hv;obtain⟨sa,sc,hva,-⟩:=AltsIn.len hA;subst hva;have hj:j<=2001:=by have:=hf.rules;omega
   have hrm:g.rules[j]∈g.rules:=List.getElem_mem hlt;have hhl:=hf.hlpL hrm;have hris:=hf.rise hrm;have hsym:∀ x,x∈Lx.itsA 9 g.rules[j].alts->Lx.SymOk U V (Lx.hlpA 9 g.rules[j].alts) x:=fun x hx=>by have:=hf.sym hrm hx;rw[HT.out,HN.out]at this;exact this
   have hpla:∀ x,x∈Lx.itsA 9 g.rules[j].alts->x.kind≠2->Lx.Plain1 U V x:=fun x hx hk=>by have:=hf.plain hrm hx hk;rw[HT.out,HN.out]at this;exact this
   have hprc:∀ a,a∈g.rules[j].alts->a.2.1≠Lx.noText->0<=Lx.fnd U a.2.1:=fun a ha hn=>by have:=hf.prec hrm ha hn;rw[HT.out]at this;exact this
   have hasz:=hf.alts hrm;have hisz:=fun {x:Lx.It} (hx:x∈Lx.itsA 9 g.rules[j].alts)=>hf.its hrm hx
   have hdp:=hf.dp _ hrm;have hrln:=hf.ruleL hrm U V b;have hp2:=HP.out;rw[List.drop_eq_getElem_cons hlt,List.flatMap_cons,List.length_append,Lx.namesR_len]at hbn;rw[List.drop_eq_getElem_cons hlt,Lx.rulesPd]at hp2;have HP1:Hid _:=hp2;have hdr:(g.rules.drop (j+1)).length=g.rules.length - (j+1):=by simp
   clear hp2 HP hrm hdy d2;generalize g.rules[j]=x at *;have lgb:gb<mb:=by have:=h.lt gb hF;omega
   have hL:∀ b,F b->b<mb:=fun b hb=>by have:=h.lt b hb;omega
   go_wp2_with fail;refine (helped_at 9 F wy _ _ hA (by omega) (fun b hb=>by have:=hL b hb;omega) (by omega)).mono ?_;rintro e w3 ⟨u,rfl,hHR,hb3⟩;have hM3:=hMy.more hb3;obtain⟨D3,hD3e⟩:∃ D3,D3=More D wy w3:=⟨_,rfl⟩;rw[<-hD3e]at hM3;have hD3:∀ g,D g->D3 g:=fun g hg=>by rw[hD3e];exact .inl hg
   have huD:∀ g,u.ownBlock=some g->D3 g:=fun g hg=>by
    obtain⟨ps,p1,p2,p3⟩:=hHR;rw[hD3e];exact .inr ⟨(p2.lt g hg).1,(p2.lt g hg).2⟩
   have hK3:Kp D0 w2 w3:=hKy.trans (Kp.below hb3 hMy.lt) hDy;clear hD3e;obtain⟨ha,hc,hvH,-⟩:=hHR.len;subst hvH;obtain⟨⟨vT3,vN3,vP3,vH3,vL3,z1,-⟩,-⟩:=id hM3;have c5:w3.cell? ⟨mb,5,none⟩=some vH3:=z1.cell 5;have c6:w3.cell? ⟨mb,6,none⟩=some vL3:=z1.cell 6;have cf:∀ i,w3.frozen? ⟨mb,i,none⟩=false:=z1.frozen;obtain⟨hM4,hK4⟩:=hM3.reset hHR huD hris;clear hM3 hHR hMy z1;generalize hHe:Lx.hlpA 9 x.alts=H at *;have HHE:Hid (Lx.hlpA 9 x.alts=H):=hHe;clear hHe;go_wp2_with fail;obtain⟨w4,hw4⟩:∃ w4,w4=(w3.setCell ⟨mb,5,none⟩ (.slice ha H.length hc)).setCell ⟨mb,6,none⟩ (.slice none 0 0):=⟨_,rfl⟩;rw[<-hw4]at hM4 hK4;rw[<-hw4];clear hw4 c5 c6 cf;have hK04:Kp D0 w2 w4:=hK3.trans hK4 (fun g hg=>hD3 g (hDy g hg));have hD03:∀ g,D0 g->D3 g:=fun g hg=>hD3 g (hDy g hg)
   clear hK3 hK4 hDy hKy hb3 hD3;obtain⟨i3,hi3,hz30,hz31,hz32⟩:=info_parts Tryz.info3
   go_loopg [13] H.length (fun k i wr=>∃ (m:Nat),m+k=H.length/\i=.int .i64 m/\Mk3 D3 F wr mb U V H (Lx.lsOf b m) P/\Kp D3 w4 wr)
   case atStart=>exact⟨0,by omega,rfl,hM4,Kp.refl _ _⟩
   case round =>
    clear hM4;obtain⟨m,hkm,rfl,hMr,hKr⟩:=hrel;obtain⟨⟨vTr,vNr,vPr,vHr,vLr,z1,z2,z3,z4,z5,z6,y1,y2,y3,y4,y5⟩,-⟩:=id hMr;obtain⟨hra,hrc,hvH,-⟩:=z4.len;subst hvH;obtain⟨lra,lrc,hvL,hlm⟩:=own_len z5;subst hvL;have hls:(Lx.lsOf b m).length=m:=Lx.lsOf_len b m;rw[hls]at hlm;unfold maxLen at hlm;have m5:wr.cell? ⟨mb,5,none⟩=some (.slice hra H.length hrc):=z1.cell 5;have m6:wr.cell? ⟨mb,6,none⟩=some (.slice lra (Lx.lsOf b m).length lrc):=z1.cell 6;rw[hls]at m6 z1 y5;have z5':wr.ownsRow 0 3 1 (.slice lra m lrc) m (intsV (Lx.lsOf b m)):=by have:=z5;unfold IR at this;rw[hls]at this;exact this
    clear hls z5;have lmr:=z1.lt;have hvm:(Value.slice lra m lrc).ownBlock≠some mb:=fun e=>(y5 mb e).2.1 rfl
    by_cases hltm:m<H.length
    ·have hb1:Below wr.heap.size wr (wr.alloc (.cells #[.int .i64 ((b:Int)+1+(m:Int))] 3)):=(Below.refl _ _).alloc (Nat.le_refl _) _
     go_wp2_with (at_builtin;go_loud (refine wpList_append_own_at _ rfl _ _ 24 rfl 0 3 i3 _ 1 8 Tryz.underlying24 hi3 hz30 hz31 hz32 rfl (by decide) (.slice lra m lrc) _ _ rfl (z5'.alloc _) ⟨_,0,none⟩ 1 1 [.int .i64 ((b:Int)+1+(m:Int))] rfl rfl (news_of (Blk.new _ _ 3)) (by simp[Value.oneCell']) (by unfold maxLen;omega) (by omega) (by simp) ?_;intro v5 w5 hown5 hgrow5 _ hat5;obtain⟨oa5,oc5,hv5,-⟩:=own_len hown5;subst hv5;have km5:=(z1.alloc (.cells #[.int .i64 ((b:Int)+1+(m:Int))] 3)).grown hgrow5 (fun e=>hvm e.symm);have c56:w5.cell? ⟨mb,6,none⟩=some (.slice lra m lrc):=km5.cell 6;have f56:∀ i,w5.frozen? ⟨mb,i,none⟩=false:=km5.frozen))
     have hat6:(Value.slice oa5 (m+1) oc5).ownBlock=(Value.slice lra m lrc).ownBlock∨∃ g,(Value.slice oa5 (m+1) oc5).ownBlock=some g/\wr.heap.size<=g:=by
      rcases hat5 with h' | h'
      ·exact .inl h'
      ·exact .inr ⟨_,h',by simp⟩
     have hown6:w5.ownsRow 0 3 1 (.slice oa5 (m+1) oc5) ((Lx.lsOf b m).length+1) (intsV (Lx.lsOf b m)++[.int .i64 ((b+1+m:Nat):Int)]):=by
      rw[Lx.lsOf_len];have e1:((b+1+m:Nat):Int)=(b:Int)+1+(m:Int):=by omega
      rw[e1];exact hown5
     have hpu:=pushed (i:=6) (s:=b+1+m) z1 hvm hb1 hown6 hgrow5 hat6;obtain⟨hM6,hK6⟩:=hMr.push z1 hpu;have hM7:Mk3 D3 F (w5.setCell ⟨mb,6,none⟩ (.slice oa5 (m+1) oc5)) mb U V H (Lx.lsOf b (m+1)) P:=by
      have e2:Lx.lsOf b (m+1)=Lx.lsOf b m++[b+1+m]:=by unfold Lx.lsOf;rw[List.range_succ,List.map_append];rfl
      rw[e2];exact hM6
     have hK7:=hKr.trans hK6 (fun _ h=>h);go_wp2_with fail;go_roundg (H.length - (m+1))
     case measure=>omega
     case rel=>exact⟨m+1,by omega,by go_num,hM7,hK7⟩
    ·have:m=H.length:=by omega
     subst this;obtain⟨D4,hM8,hD4⟩:=hMr.done (by omega);have hK8:Kp D0 w2 wr:=hK04.trans hKr hD03;have hD04:∀ g,D0 g->D4 g:=fun g hg=>hD4 g (hD03 g hg)
     clear hMr z1 z2 z3 z4 z6 y1 y2 y3 y4 y5 z5' hvm m6 hKr hD4;go_wp2_with fail;obtain⟨w6,hw6⟩:∃ w6,w6=wr:=⟨_,rfl⟩;rw[<-hw6]at hM8 hK8;rw[<-hw6];clear hw6 m5 lmr;have hHm:∀ y,y∈H->y∈Lx.itsA 9 x.alts:=fun y hy=>by rw[<-HHE.out]at hy;exact (List.mem_filter.1 hy).1
     go_loopg [14] x.alts.length (fun k i wr=>∃ (m:Nat) (D5:Nat->Prop),m+k=x.alts.length/\i=.int .i64 m/\Mk2 D5 F wr mb U V b H (P++(x.alts.take m).map (Lx.altPd U V b H))/\(∀ g,D0 g->D5 g)/\Kp D0 w2 wr)
     case atStart=>exact⟨0,D4,by omega,rfl,by simpa using hM8,hD04,hK8⟩
     case round =>
      clear hM8 hK8 hD04;obtain⟨m,D5,hkm,rfl,hMr,hD5,hKr⟩:=hrel;have br:∀ b,¬ mb<=b->wr.heap[b]?=wy.heap[b]?:=fun b hb=>((hKr.block b (hD0g b hb)).trans (b2 b hb)).trans (by_ b hb).symm
      have kGr:Blk wr w.heap.size _ 49:=(br _ (by omega)).trans kGy;have gr1:wr.cell? ⟨w.heap.size,1,none⟩=some (.slice (some ⟨gb,0,none⟩) g.rules.length c):=kGr.cell 1;have dr1:wr.cell? ⟨gb,j*3+1,none⟩=some (.slice sa x.alts.length sc):=(World.cell?_of_block (w:=wy) (br gb (by omega))).trans d1;have lmr:=hMr.lm
      by_cases hltm:m<x.alts.length
      ·have hAr:AltsIn YR 9 F wr (.slice sa x.alts.length sc) x.alts:=AltsIn.move (fun b hb=>br b (by have:=hL b hb;omega)) (fun _ h=>h) hA
       obtain⟨gA,capA,vi,hv,hgA,hi,hcc⟩:=Seq.at hAr (fun _=>rfl) hltm;cases hv;have ham:=List.getElem_mem hltm;have hal:=hasz.2 _ ham;have hokA:∀ y,y∈x.alts[m].1->Lx.SymOk U V H y:=fun y hy=>hsym y (Lx.mem_itsA.2 ⟨_,ham,y,hy,.inl rfl⟩)
       have hpA:=hprc _ ham;have htk:(x.alts.take (m+1)).map (Lx.altPd U V b H)=(x.alts.take m).map (Lx.altPd U V b H)++[Lx.altPd U V b H x.alts[m]]:=by rw[List.take_succ_eq_append_getElem hltm,List.map_append];rfl
       have HTK:Hid _:=htk;have hPb:(P++(x.alts.take m).map (Lx.altPd U V b H)).length<=1000000000000:=by rw[List.length_append,List.length_map,List.length_take];have:=hasz.1;omega
       clear htk hAr ham;generalize x.alts[m]=y at hi hcc hal hokA hpA HTK;obtain⟨its,prec,pa⟩:=y;have hi':ItemsIn YR 8 F wr vi its:=hi;obtain⟨ia,ic,hvi,-⟩:=Seq.len hi;subst hvi;have c0:wr.cell? ⟨gA,m*3,none⟩=some (.slice ia its.length ic):=hcc 0 (by decide);have c1:wr.cell? ⟨gA,m*3+1,none⟩=some (.string prec):=hcc 1 (by decide);have c2:wr.cell? ⟨gA,m*3+2,none⟩=some (.int .i64 (pa:Int)):=hcc 2 (by decide);have lgA:gA<mb:=hL gA hgA;have hsr:=hKr.size;clear hcc hi;go_wp2_with fail;refine (right_any hMr.rd its _ hi' (show its.length<=10000 by have:its.length<=2001:=hal;omega) prec pa hokA).mono ?_;rintro e w7 ⟨u,rfl,hu,hb7⟩;have lmr5:=hMr.lm;have hM7:=hMr.more hb7;have hK7:Kp D0 w2 w7:=hKr.trans (Kp.below hb7 hMr.lt) hD5;obtain⟨ua,uc,hvu,-⟩:=own_len hu;subst hvu;have b7:∀ b,¬ mb<=b->w7.heap[b]?=wr.heap[b]?:=fun b hb=>hb7.block b (by omega)
       have kG7:Blk w7 w.heap.size _ 49:=(b7 _ (by omega)).trans kGr;have g71:w7.cell? ⟨w.heap.size,1,none⟩=some (.slice (some ⟨gb,0,none⟩) g.rules.length c):=kG7.cell 1;have d71:w7.cell? ⟨gb,j*3+1,none⟩=some (.slice (some ⟨gA,0,none⟩) x.alts.length sc):=(World.cell?_of_block (w:=wr) (b7 gb (by omega))).trans dr1;have c71:w7.cell? ⟨gA,m*3+1,none⟩=some (.string prec):=(World.cell?_of_block (w:=wr) (b7 gA (by omega))).trans c1;have huD:∀ g,(Value.slice ua (Lx.rightOf U V b H its).length uc).ownBlock=some g->More D5 wr w7 g:=fun g hg=>.inr (hu.lt g hg)
       have hPU:Lx.altPd U V b H (its,prec,pa)=⟨b,Lx.rightOf U V b H its,Lx.precP U prec (Lx.rightOf U V b H its)⟩:=rfl;rw[hPU]at HTK;clear hPU;have hu0:IR 0 w7 _ _:=own_le hu (Nat.zero_le _);have q7:=put_any hM7 b _ _ hu0 (fun g hg=>⟨huD g hg,Nat.lt_of_lt_of_le lmr5 (hu.lt g hg).1⟩) prec hpA hPb;have HTK2:Hid _:=HTK;generalize Lx.rightOf U V b H its=rr at q7 HTK HTK2 hu huD hu0;go_wp2_with fail;refine q7.mono ?_;rintro e w8 ⟨rfl,hM8,hK8⟩;have hM9:Mk2 (More D5 wr w7) F w8 mb U V b H (P++(x.alts.take (m+1)).map (Lx.altPd U V b H)):=by rw[HTK.out,<-List.append_assoc];exact hM8
       have hK9:Kp D0 w2 w8:=hK7.trans hK8 (fun g hg=>.inl (hD5 g hg));go_wp2_with fail;go_roundg (x.alts.length - (m+1))
       case measure=>omega
       case rel=>exact⟨m+1,_,by omega,by go_num,hM9,fun g hg=>.inl (hD5 g hg),hK9⟩
      ·have:m=x.alts.length:=by omega
       subst this;rw[List.take_length]at hMr;have hP6l:(P++x.alts.map (Lx.altPd U V b H)).length<=30000000000+0*4003:=by rw[List.length_append,List.length_map];have:=hasz.1;omega
       have HP6:Hid (P++Lx.rulePd U V b x=(P++x.alts.map (Lx.altPd U V b H))++Lx.helpsPd U V b H 0 (H.drop 0)):=by
        show _=_;unfold Lx.rulePd;rw[HHE.out,List.drop_zero,List.append_assoc]
       generalize P++x.alts.map (Lx.altPd U V b H)=P6 at hMr hP6l HP6;go_wp2_with fail;clear gr1 dr1 kGr br lmr;obtain⟨w9,hw9⟩:∃ w9,w9=wr:=⟨_,rfl⟩;rw[<-hw9]at hMr hKr;rw[<-hw9];clear hw9
       go_loopg [16] H.length (fun k i wr=>∃ (m:Nat) (D6:Nat->Prop) (P6:List Lx.Pd),m+k=H.length/\i=.int .i64 m/\Mk2 D6 F wr mb U V b H P6/\(∀ g,D0 g->D6 g)/\Kp D0 w2 wr/\P6.length<=30000000000+m*4003/\Hid (P++Lx.rulePd U V b x=P6++Lx.helpsPd U V b H m (H.drop m)))
       case atStart=>exact⟨0,D5,P6,by omega,rfl,hMr,hD5,hKr,hP6l,HP6⟩
       case round =>
        clear hMr hD5 hKr hP6l HP6 D5 P6;obtain⟨m,D6,P6,hkm,rfl,hMr,hD6,hKr,hP6l,HP6⟩:=hrel;obtain⟨⟨vTr,vNr,vPr,vHr,vLr,z1,z2,z3,z4,z5,-⟩,-⟩:=id hMr;obtain⟨hra,hrc,hvH,-⟩:=z4.len;subst hvH;have m5:wr.cell? ⟨mb,5,none⟩=some (.slice hra H.length hrc):=z1.cell 5;have m6:wr.cell? ⟨mb,6,none⟩=some vLr:=z1.cell 6;have lmr:=z1.lt
        by_cases hltm:m<H.length
        ·obtain⟨gH,capH,vaH,hvH,hAH,hcH⟩:=z4.at hltm
         cases hvH;obtain⟨gL,capL,hvL,lL,hcL⟩:=z5.at (j:=m) (by rw[Lx.lsOf_len];exact hltm);have hcL2:wr.cell? ⟨gL,m,none⟩=some (.int .i64 ((b+1+m:Nat):Int)):=by
          rw[hcL];have:=Lx.lsOf_get (b:=b) hltm;rw[List.getElem?_eq_getElem (by rw[Lx.lsOf_len];exact hltm)]at this;rw[Option.some.inj this]
         rw[hvL,Lx.lsOf_len]at m6;have hym:=hHm H[m] (List.getElem_mem hltm);have hyp:=hpla _ hym;have hysz:=hisz hym;have hysy:H[m].kind=2->∀ a,a∈H[m].alts->a.1.length<=10000/\∀ y,y∈a.1->Lx.SymOk U V H y:=fun _ a ha=>⟨by have:=hysz.2 a ha;omega,fun y hy=>hsym y (Lx.its_sub hdp hym ha hy)⟩
         have hpp:=HP6.out;rw[List.drop_eq_getElem_cons hltm,Lx.helpsPd,<-List.append_assoc]at hpp;have HPP:Hid _:=hpp;have hptl:=Lx.partsOf_len (T:=U) (N:=V) (b:=b) (H:=H) (x:=H[m]) (n:=2001) hysz.1 (by omega);have hprl:∀ r,r∈Lx.partsOf U V b H H[m]->r.length<=10000:=by
          intro r hr;unfold Lx.partsOf at hr
          split at hr
          ·obtain⟨a,ha,rfl⟩:=List.mem_map.1 hr
           have:=hysz.2 a ha;unfold Lx.rightOf;rw[List.length_map];omega
          ·rw[List.mem_singleton.1 hr];simp
         have hhpl:=Lx.helpPd_len U.length (b+1+m) H[m].mark (Lx.partsOf U V b H H[m]);have lgH:gH<wr.heap.size:=z4.blk gH rfl;clear hpp HP6 hcL z1 z2 z3 z4 z5 hvL hym;generalize H[m]=y at *;obtain⟨ya,yc,hvy,-⟩:=AltsIn.len hAH;subst hvy;have x0:wr.cell? ⟨gH,m*5,none⟩=some (.int .i64 (y.kind:Int)):=hcH 0 (by decide);have x1:wr.cell? ⟨gH,m*5+1,none⟩=some (.string y.name):=hcH 1 (by decide);have x2:wr.cell? ⟨gH,m*5+2,none⟩=some (.int .u8 (y.mark:Int)):=hcH 2 (by decide);have x3:wr.cell? ⟨gH,m*5+3,none⟩=some (.slice ya y.alts.length yc):=hcH 3 (by decide);have x4:wr.cell? ⟨gH,m*5+4,none⟩=some (.int .i64 (y.place:Int)):=hcH 4 (by decide);have hbd:Below wr.heap.size wr wr.drew:=(Below.refl _ wr).drew;have hMd:=hMr.more hbd;have hAd:AltsIn YR 9 F wr.drew (.slice ya y.alts.length yc) y.alts:=AltsIn.move (fun _ _=>rfl) (fun _ h=>h) hAH;have q0:=helper_any hMd y _ hAd hyp hysy (by have:=hysz.1;omega) (b+1+m) (by omega) hprl;unfold itV at q0;have hKd:Kp D0 wr wr.drew:=⟨rfl,rfl,rfl,Nat.le_refl _,fun _ _=>rfl⟩;have hDd:∀ g,D0 g->More D6 wr wr.drew g:=fun g hg=>.inl (hD6 g hg)
         clear hcH hAH hAd hyp hysy hysz hMr hMd;generalize Lx.helpPd U.length (b+1+m) y.mark (Lx.partsOf U V b H y)=hp at q0 hhpl HPP;generalize b+1+m=sym at q0 hcL2;generalize More D6 wr wr.drew=Dd at q0 hDd;go_wp2_with fail
         go_region_law (refine step_call rfl 69 #[.pointer (some ⟨mb,0,none⟩),.agg #[.int .i64 (y.kind:Int),.string y.name,.int .u8 (y.mark:Int),.slice ya y.alts.length yc,.int .i64 (y.place:Int)],.int .i64 (sym:Int)] (by go_simp) q0 ?_;rintro e w9 ⟨rfl,D9,hM9,hD9,hK9⟩;refine⟨_,rfl,?_⟩)
         all_goals
          have hKn:Kp D0 w2 w9:=(hKr.trans hKd (fun _ h=>h)).trans hK9 hDd;have hDn:∀ g,D0 g->D9 g:=fun g hg=>hD9 g (hDd g hg)
          have hPn:(P6++hp).length<=30000000000+(m+1)*4003:=by rw[List.length_append];omega
          go_wp2_with fail;go_roundg (H.length - (m+1))
          case measure=>omega
          case rel=>exact⟨m+1,D9,P6++hp,by omega,by go_num,hM9,hDn,hKn,hPn,HPP⟩
        ·have:m=H.length:=by omega
         subst this;have hpp:=HP6.out;rw[List.drop_length,Lx.helpsPd,List.append_nil]at hpp;have HPX:Hid (Lx.prodG g=P6++Lx.rulesPd U V (b+1+H.length) (g.rules.drop (j+1))):=by
          show _=_;rw[<-hpp,HP1.out,List.append_assoc]
         have hPl2:P6.length<=1+(j+1)*10000000:=by rw[<-hpp,List.length_append];omega
         clear hpp HP6 z1 z2 z3 z4 z5 m6;go_wp2_with fail;rw[show ((b:Int)+1+(H.length:Int))=((b+1+H.length:Nat):Int) from by omega];go_roundg (g.rules.length - (j+1))
         case measure=>omega
         case rel=>exact⟨j+1,b+1+H.length,_,_,D6,P6,by omega,by go_num,rfl,hMr,hD6,hKr,hPl2,by omega,HPX⟩
  ·have:j=g.rules.length:=by omega
   subst this;have hpp:=HP.out;rw[List.drop_length,Lx.rulesPd,List.append_nil]at hpp;have HPX:Hid (Lx.prodG g=P):=hpp;have HEX:Hid _:=hexit;clear hpp HP hbn hPl hk hexit;go_wp2_with fail;exact HEX.out _ _ _ _ _ _ _ _ _ _ _ _ _ _ _ _ _ _ _ _ _ _ _ _ _ _ _ _ _ _ _ _ _ _ _ _ _ _ _ _ _ _ _ _ _ _ _ _ _ _ _ _ _ _ _ _ _ _ _ _ _ _ _ _ _ _ _ _ _ _ _ _ _ _ _ _ _ _ _ _ _ _ _ _ _ _ _ _ _ _ _ _ _ _ _ _ _ _ _ _ _ _ _ _ _ _ _ _ _ _ _ _ _ _ _ _ _ _ _ _ _ hMy hDy hKy HPX
end Go.Proofs.YtlcppnabbicmoaaGreatDoor
