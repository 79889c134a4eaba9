import Derived.Test.YtlcppnabbicmoaaGreatDoorME38
import Derived.BigQuiet
import Derived.Deep.RegionHeld3
set_option maxHeartbeats 8000000
set_option maxRecDepth 1000000
namespace Go.Proofs.YtlcppnabbicmoaaGreatDoor
open Go.RowKit
open Tr
theorem cell_below {w w':World}(h:Below w.heap.size w w'){a:Addr}{v:Value}(hc:w.cell? a=some v):w'.cell? a=some v:=(World.cell?_of_block (w:=w) (h.block a.block (World.block_lt_of_cell? w a hc))).trans hc
theorem ints_same (l:List Nat) (v v':Value) (w:World) (h:IR 0 w v l) (h':IR 0 w v' l) :
  Calls Tryz.prog 16 #[v,v'] w fun e w'=>e=.returned (.bool true)/\Below w.heap.size w w':=by
 obtain⟨a,c,rfl,hm⟩:=own_len h;obtain⟨a',c',rfl,-⟩:=own_len h';unfold maxLen at hm;go_enter Tryz.func16,Tryz.ntmps16;go_wp2_with fail
 go_loopg [5] l.length (fun k i wr=>∃ j:Nat,j+k=l.length/\i=.int .i64 j/\Below w.heap.size w wr)
 case atStart=>exact⟨0,by omega,rfl,Below.refl _ _⟩
 case round =>
  obtain⟨j,hk,rfl,hb⟩:=hrel
  by_cases hlt:j<l.length
  ·have h1:IR 0 wr _ l:=own_below h hb
   have h2:IR 0 wr _ l:=own_below h' hb;obtain⟨g,cap,hv,-,c1⟩:=h1.at hlt;obtain⟨g',cap',hv',-,c2⟩:=h2.at hlt;cases hv;cases hv';generalize l[j]=x at c1 c2;go_wp2_with fail
   go_region
   all_goals
    go_wp2_with fail;go_roundg (l.length - (j+1))
    case measure=>omega
    case rel=>exact⟨j+1,by omega,by go_num,hb.drew⟩
  ·go_wp2_with fail
   go_ret;exact⟨rfl,hb⟩
theorem PP.at {D:Nat->Prop}{w:World}{v:Value}{P:List Lx.Pd}(h:PP D w v P){j:Nat}(hj:j<P.length):∃ g cap u,v=.slice (some ⟨g,0,none⟩) P.length cap/\IR 0 w u P[j].right/\w.cell? ⟨g,j*3,none⟩=some (.int .i64 (P[j].left:Int))/\w.cell? ⟨g,j*3+1,none⟩=some u/\w.cell? ⟨g,j*3+2,none⟩=some (.int .i64 P[j].prec):=by
 obtain⟨ps,h1,h2,h3,-⟩:=h;have hs:Tr.Seq (fun _=>True) w 58 3 pdC (fun u q=>IR 0 w u q.right) v P:=⟨ps,h1,h2,fun _ _=>trivial,fun q hq=>(h3 q hq).1⟩;obtain⟨g,cap,u,k1,-,k3,k4⟩:=Seq.at hs (fun _=>rfl) hj;exact⟨g,cap,u,k1,k3,k4 0 (by decide),k4 1 (by decide),k4 2 (by decide)⟩
theorem PR.at {D:Nat->Prop}{w:World}{v:Value}{P:List Lx.Pd}(h:PR D w v P){j:Nat}(hj:j<P.length):∃ g cap u,v=.slice (some ⟨g,0,none⟩) P.length cap/\IR 0 w u P[j].right/\w.cell? ⟨g,j*3,none⟩=some (.int .i64 (P[j].left:Int))/\w.cell? ⟨g,j*3+1,none⟩=some u/\w.cell? ⟨g,j*3+2,none⟩=some (.int .i64 P[j].prec):=by
 obtain⟨ps,h1,h2,h3⟩:=h;have hs:Tr.Seq (fun _=>True) w 78 3 pdC (fun u q=>IR 0 w u q.right) v P:=⟨ps,h1,h2,fun _ _=>trivial,fun q hq=>(h3 q hq).1⟩;obtain⟨g,cap,u,k1,-,k3,k4⟩:=Seq.at hs (fun _=>rfl) hj;exact⟨g,cap,u,k1,k3,k4 0 (by decide),k4 1 (by decide),k4 2 (by decide)⟩
theorem PP.below {D:Nat->Prop}{w w':World}{v:Value}{P:List Lx.Pd}(h:PP D w v P)(hb:Below w.heap.size w w'):PP D w' v P:=by
 obtain⟨ps,h1,h2,h3,h4⟩:=h;exact⟨ps,h1,own_below h2 hb,fun q hq=>⟨own_below (h3 q hq).1 hb,(h3 q hq).2⟩,h4⟩
theorem PR.below {D:Nat->Prop}{w w':World}{v:Value}{P:List Lx.Pd}(h:PR D w v P)(hb:Below w.heap.size w w'):PR D w' v P:=by
 obtain⟨ps,h1,h2,h3⟩:=h;exact⟨ps,h1,own_below h2 hb,fun q hq=>⟨own_below (h3 q hq).1 hb,(h3 q hq).2⟩⟩
theorem same_any {w:World}{va vb:Value}{T N:List ByteArray}{P:List Lx.Pd}{Bs Ks:List Nat}(ha:PlP w va T N P Bs Ks)(hb:PlIn w vb T N P Bs Ks):Calls Tryz.prog 11 #[va,vb] w fun e w'=>e=.returned (.bool true)/\Below w.heap.size w w':=by
 obtain⟨a0,a1,a2,a3,a4,rfl,hT,hN,hP,hB,hK⟩:=ha;obtain⟨b0,b1,b2,b3,b4,rfl,hT',hN',hP',hB',hK'⟩:=hb;obtain⟨ta,tc,rfl,-⟩:=own_len hT;obtain⟨na,nc,rfl,-⟩:=own_len hN;obtain⟨pa,pc,rfl,hpm⟩:∃ a c,a2=.slice a P.length c/\P.length<=maxLen:=by obtain⟨ps,h1,h2,-⟩:=hP;exact own_len h2
 obtain⟨ba,bc,rfl,-⟩:=own_len hB;obtain⟨ka,kc,rfl,-⟩:=own_len hK;obtain⟨ta',tc',rfl,-⟩:=own_len hT';obtain⟨na',nc',rfl,-⟩:=own_len hN';obtain⟨pa',pc',rfl,-⟩:∃ a c,b2=.slice a P.length c/\P.length<=maxLen:=by obtain⟨ps,h1,h2,-⟩:=hP';exact own_len h2
 obtain⟨ba',bc',rfl,-⟩:=own_len hB';obtain⟨ka',kc',rfl,-⟩:=own_len hK';unfold maxLen at hpm;obtain⟨CA,hCA⟩:∃ CA:Array Value,CA=#[.slice ta T.length tc,.slice na N.length nc,.slice pa P.length pc,.slice ba Bs.length bc,.slice ka Ks.length kc]:=⟨_,rfl⟩;obtain⟨CB,hCB⟩:∃ CB:Array Value,CB=#[.slice ta' T.length tc',.slice na' N.length nc',.slice pa' P.length pc',.slice ba' Bs.length bc',.slice ka' Ks.length kc']:=⟨_,rfl⟩;obtain⟨W,hW⟩:∃ W,W=(w.alloc (.cells #[.slice ta T.length tc,.slice na N.length nc,.slice pa P.length pc,.slice ba Bs.length bc,.slice ka Ks.length kc] 26)).alloc (.cells #[.slice ta' T.length tc',.slice na' N.length nc',.slice pa' P.length pc',.slice ba' Bs.length bc',.slice ka' Ks.length kc'] 32):=⟨_,rfl⟩;have hbW:Below w.heap.size w W:=by rw[hW];exact ((Below.refl _ _).alloc (Nat.le_refl _) _).alloc (by simp) _
 have hsW:W.heap.size=w.heap.size+2:=by rw[hW];simp
 have kA:Blk W w.heap.size CA 26:=by rw[hW,hCA];exact (Blk.new w _ 26).alloc _
 have kB:Blk W (w.heap.size+1) CB 32:=by
  rw[hW,hCB];simpa using Blk.new (w.alloc (.cells #[.slice ta T.length tc,.slice na N.length nc,.slice pa P.length pc,.slice ba Bs.length bc,.slice ka Ks.length kc] 26)) #[.slice ta' T.length tc',.slice na' N.length nc',.slice pa' P.length pc',.slice ba' Bs.length bc',.slice ka' Ks.length kc'] 32
 have keep:∀ {x:World},Below W.heap.size W x->Blk x w.heap.size CA 26/\Blk x (w.heap.size+1) CB 32/\Below w.heap.size w x:=fun hx=>⟨(hx.block _ (by omega)).trans kA,(hx.block _ (by omega)).trans kB,hbW.trans (hx.mono (by omega))⟩
 have q1:=words_same T _ _ W (own_below hT hbW) (own_below hT' hbW);go_enter Tryz.func11,Tryz.ntmps11;go_wp2_with fail;rw[<-hW];clear hW;refine q1.mono ?_;rintro e w1 ⟨rfl,hb1⟩;clear q1;have kw1:=keep hb1;rw[hCA,hCB]at kw1;have caw1:=kw1.1.cell 1;have cbw1:=kw1.2.1.cell 1;simp at caw1 cbw1;have q2:=words_same N _ _ w1 (own_below hN kw1.2.2) (own_below hN' kw1.2.2);go_wp2_with fail;refine q2.mono ?_;rintro e w2 ⟨rfl,hb2'⟩;have hb2:Below W.heap.size W w2:=hb1.trans (hb2'.mono hb1.size);clear q2 caw1 cbw1 hb2';have kw2:=keep hb2;rw[hCA,hCB]at kw2;have caw2:=kw2.1.cell 3;have cbw2:=kw2.2.1.cell 3;simp at caw2 cbw2;have q3:=ints_same Bs _ _ w2 (own_below hB kw2.2.2) (own_below hB' kw2.2.2);go_wp2_with fail;refine q3.mono ?_;rintro e w3 ⟨rfl,hb3'⟩;have hb3:Below W.heap.size W w3:=hb2.trans (hb3'.mono hb2.size);clear q3 caw2 cbw2 hb3';have kw3:=keep hb3;rw[hCA,hCB]at kw3;have caw3:=kw3.1.cell 4;have cbw3:=kw3.2.1.cell 4;simp at caw3 cbw3;have q4:=ints_same Ks _ _ w3 (own_below hK kw3.2.2) (own_below hK' kw3.2.2);go_wp2_with fail;refine q4.mono ?_;rintro e w4 ⟨rfl,hb4'⟩;have hb4:Below W.heap.size W w4:=hb3.trans (hb4'.mono hb3.size);clear q4 caw3 cbw3 hb4';have kw4:=keep hb4;rw[hCA,hCB]at kw4;have caw4:=kw4.1.cell 2;have cbw4:=kw4.2.1.cell 2;simp at caw4 cbw4;clear kw1 kw2 kw3;go_wp2_with fail
 go_loopg [9] P.length (fun k i wr=>∃ j:Nat,j+k=P.length/\i=.int .i64 j/\Below W.heap.size W wr)
 case atStart=>exact⟨0,by omega,rfl,hb4⟩
 case round =>
  clear caw4 cbw4 kw4;obtain⟨j,hk,rfl,hbr⟩:=hrel;have kr:=keep hbr;rw[hCA,hCB]at kr;have car:=kr.1.cell 2;have cbr:=kr.2.1.cell 2;simp at car cbr
  by_cases hlt:j<P.length
  ·have hsr:=hbr.size
   obtain⟨g,cap,u,hv,hu,x0,x1,x2⟩:=(hP.below kr.2.2).at hlt;obtain⟨g',cap',u',hv',hu',y0,y1,y2⟩:=(hP'.below kr.2.2).at hlt;cases hv;cases hv';generalize P[j]=pd at hu hu' x0 x1 x2 y0 y1 y2;obtain⟨pl,pr,pp⟩:=pd;simp only at hu hu' x0 x1 x2 y0 y1 y2;obtain⟨ua,uc,rfl,-⟩:=own_len hu;obtain⟨ua',uc',rfl,-⟩:=own_len hu';have hbd:Below wr.heap.size wr wr.drew:=(Below.refl _ _).drew;have q5:=ints_same pr _ _ wr.drew (own_below hu hbd) (own_below hu' hbd);have dA:wr.drew.cell? ⟨w.heap.size,2,none⟩=some (.slice (some ⟨g,0,none⟩) P.length pc):=car;have dB:wr.drew.cell? ⟨w.heap.size+1,2,none⟩=some (.slice (some ⟨g',0,none⟩) P.length pc'):=cbr;have d1:wr.drew.cell? ⟨g,j*3+1,none⟩=some (.slice ua pr.length uc):=x1;have e1:wr.drew.cell? ⟨g',j*3+1,none⟩=some (.slice ua' pr.length uc'):=y1;have i1:(0:Int)<=(j:Int):=by omega
   have i2:(j:Int)<(P.length:Int):=by omega
   go_wp2_with fail
   go_region_held3 (fun w'=>w'.cell? ⟨w.heap.size,2,none⟩=some (.slice (some ⟨g,0,none⟩) P.length pc)/\w'.cell? ⟨w.heap.size+1,2,none⟩=some (.slice (some ⟨g',0,none⟩) P.length pc')/\w'.cell? ⟨g,j*3+1,none⟩=some (.slice ua pr.length uc)/\w'.cell? ⟨g',j*3+1,none⟩=some (.slice ua' pr.length uc')) (first | go_keep | assumption) ((go_at_call 16;refine q5.mono ?_;rintro e w5 ⟨rfl,hb5⟩;have S5:w5.cell? ⟨w.heap.size,2,none⟩=some (.slice (some ⟨g,0,none⟩) P.length pc)/\w5.cell? ⟨w.heap.size+1,2,none⟩=some (.slice (some ⟨g',0,none⟩) P.length pc')/\w5.cell? ⟨g,j*3+1,none⟩=some (.slice ua pr.length uc)/\w5.cell? ⟨g',j*3+1,none⟩=some (.slice ua' pr.length uc'):=⟨cell_below hb5 dA,cell_below hb5 dB,cell_below hb5 d1,cell_below hb5 e1⟩))
   have hb5r:Below wr.heap.size wr w5:=hbd.trans hb5;have hbW5:Below W.heap.size W w5:=hbr.trans (hb5r.mono hsr);have f0:w5.drew.cell? ⟨g,j*3,none⟩=some (.int .i64 (pl:Int)):=cell_below hb5r x0;have f2:w5.drew.cell? ⟨g,j*3+2,none⟩=some (.int .i64 pp):=cell_below hb5r x2;have g0:w5.drew.cell? ⟨g',j*3,none⟩=some (.int .i64 (pl:Int)):=cell_below hb5r y0;have g2:w5.drew.cell? ⟨g',j*3+2,none⟩=some (.int .i64 pp):=cell_below hb5r y2;have fA:w5.drew.cell? ⟨w.heap.size,2,none⟩=some (.slice (some ⟨g,0,none⟩) P.length pc):=cell_below hb5r car;have fB:w5.drew.cell? ⟨w.heap.size+1,2,none⟩=some (.slice (some ⟨g',0,none⟩) P.length pc'):=cell_below hb5r cbr;have hbW5d:Below W.heap.size W w5.drew:=hbW5.drew;clear S5 q5 dA dB d1 e1 x0 x1 x2 y0 y1 y2 car cbr hu hu' hb5;go_wp2_with fail
   go_region_held3 (fun w'=>w'.cell? ⟨w.heap.size,2,none⟩=some (.slice (some ⟨g,0,none⟩) P.length pc)/\w'.cell? ⟨w.heap.size+1,2,none⟩=some (.slice (some ⟨g',0,none⟩) P.length pc')/\w'.cell? ⟨g,j*3,none⟩=some (.int .i64 (pl:Int))/\w'.cell? ⟨g',j*3,none⟩=some (.int .i64 (pl:Int))/\w'.cell? ⟨g,j*3+2,none⟩=some (.int .i64 pp)/\w'.cell? ⟨g',j*3+2,none⟩=some (.int .i64 pp)) (first | go_keep | assumption) (fail)
   all_goals
    go_wp2_with fail;go_roundg (P.length - (j+1))
    case measure=>omega
    case rel=>exact⟨j+1,by omega,by go_num,hbW5d⟩
  ·go_wp2_with fail
   go_ret;exact⟨rfl,kr.2.2⟩
end Go.Proofs.YtlcppnabbicmoaaGreatDoor
