import Derived.Test.YtjaalkocdbkdeaaGreatDoorSA19
set_option maxHeartbeats 8000000
set_option maxRecDepth 1000000
namespace Go.Proofs.YtjaalkocdbkdeaaGreatDoor
open Lx Go.Proofs.Tryz
section
open Go.RowKit
open Lx (Tk)
open Tr
def aiZ(lo:Nat)(aG:Value)(w':World)(v:Value)(r:Lx.Rl):Prop:=∃va,v=.agg #[.string r.name,va,.int .i64 (r.place:Int)]/\ay YR 9 (Fp lo aG w') w' va r.alts
def ajr(v:Value):Prop:=∃n a l c p,v=.agg #[.string n,.slice a l c,.int .i64 p]
theorem RR.drew{s:ByteArray}{q:Nat}{w:World}{ts:List Tk}{nest:Int}{au:Value}{sg:List ByteArray}(h:RR s q w ts nest au sg):RR s q w.drew ts nest au sg:=h.move rfl fun _ _=>rfl
theorem Xk(s:ByteArray)(q:Nat)(w:World)(ts:List Tk)(au:Value)(sg:List ByteArray)(h:RR s q w ts 0 au sg):
  Calls prog 98 #[.pointer (some ⟨q,0,none⟩)] w (bO s q 0 (aiZ w.heap.size) ajr w au (dF ts)):=by
 have hp:=h.lt;have qd:=h.Ri;have kq:=h.blk;have c1:w.cell? ⟨q,1,none⟩=some (.int .i64 (Lx.pl ts:Int)):=kq.cell 1;have c2:w.cell? ⟨q,2,none⟩=some (.string (fw (Lx.hd ts))):=kq.cell 2;have hZ:=h.alloc (.cells #[.string ⟨#[]⟩,.slice none 0 0,.int .i64 0] 139);have kZ:=aj.new w #[.string ⟨#[]⟩,.slice none 0 0,.int .i64 0] 139;have MZ:=(Mv.refl q au w).alloc (.cells #[.string ⟨#[]⟩,.slice none 0 0,.int .i64 0] 139);have qK:au.ownBlock≠some w.heap.size:=h.fresh (zL0);have EX:au.ownBlock≠some (w.heap.size+1):=h.fresh (by omega);cases hn:Lx.isName (Lx.hd ts)
 ·have HN:Hid _:=hn
  have HE:Hid (dF ts=.error (2,Lx.pl ts)):=by
   show _=_;unfold dF cK;rw[if_neg (by rw[hn];simp)]
  clear hn;go_enter func98,ntmps98
  go_wp2_with (first
   | (go_at_call 134;refine(zI _ _ qd).mono ?_;rintro e w'⟨rfl,hw⟩;obtain rfl:=hw.symm;rw[Bw,HN.out]))
  refine(Kz hZ 2 (Lx.pl ts) (by decide)).mono ?_;rintro e w1⟨rfl,m1,hx1⟩;have kB1:=kZ.mv m1 (by omega) qK;have e0:w1.cell? ⟨w.heap.size,0,none⟩=some (.string ⟨#[]⟩):=kB1.cell 0;have e1:w1.cell? ⟨w.heap.size,1,none⟩=some (.slice none 0 0):=kB1.cell 1;have e2:w1.cell? ⟨w.heap.size,2,none⟩=some (.int .i64 0):=kB1.cell 2;have ff:∀i,w1.frozen? ⟨w.heap.size,i,none⟩=false:=kB1.frozen;have M1:=MZ.trans (Nx.refl _ _) m1;go_wp2_with fail;refine bodyPost_ret (v:=.agg #[.string ⟨#[]⟩,.slice none 0 0,.int .i64 0]) (by simp[results,results98,go_sem,e0,e1,e2]) rfl ?_;exact bO.no HE.out (((M1.new (zL0) _ _).new (zL0) _ _).new (zL0) _ _) (Nx.refl _ _) (((hx1.other _ _ (by omega) qK).other _ _ (by omega) qK).other _ _ (by omega) qK) ⟨_,_,_,_,_,rfl⟩
 ·have HN:Hid _:=hn
  have HK:Hid (Lx.known (Lx.hd ts)=true):=Ue hn;have yZ:Hid (Lx.hd ts≠aL):=by show _≠_;intro e;rw[e]at hn;revert hn;decide
  have HR1:Hid (cK Lx.isName ts=.ok (Lx.hd ts,ts.tail)):=by
   show _=_;unfold cK;rw[if_pos hn]
  have hrf:=nE HK.out;clear hn;rw[hrf]at c2 qd;clear hrf;have hX:=(hZ.alloc (.cells #[.string (Lx.hd ts),.slice none 0 0,.int .i64 (Lx.pl ts:Int)] 139)).drew;have kB0:=(kZ.alloc (.cells #[.string (Lx.hd ts),.slice none 0 0,.int .i64 (Lx.pl ts:Int)] 139)).drew;have xG:=aj.new (w.alloc (.cells #[.string ⟨#[]⟩,.slice none 0 0,.int .i64 0] 139)) #[.string (Lx.hd ts),.slice none 0 0,.int .i64 (Lx.pl ts:Int)] 139;rw[show (w.alloc (.cells #[.string ⟨#[]⟩,.slice none 0 0,.int .i64 0] 139)).heap.size=w.heap.size+1 by simp]at xG;have xG:=xG.drew;have M0:=(MZ.alloc (.cells #[.string (Lx.hd ts),.slice none 0 0,.int .i64 (Lx.pl ts:Int)] 139)).drew;go_enter func98,ntmps98
  go_wp2_with (first
   | (go_at_call 134;refine(zI _ _ qd).mono ?_;rintro e w'⟨rfl,hw⟩;obtain rfl:=hw.symm;rw[HN.out]))
  go_region
  go_wp2_with fail;refine(oO hX HK.out yZ.out).mono ?_;rintro e w1⟨rfl,sg1,m1,x1,h1⟩;have aZ:=x1.keep (b:=w.heap.size) kB0.lt qK;have CY:=x1.keep (b:=w.heap.size+1) xG.lt EX;have kB1:=kB0.mv m1 (by omega) qK;have rP:=xG.mv m1 (by omega) EX;have M1:=M0.trans (Nx.refl _ _) m1;have X1:=(Nx.refl au w).trans M0.size x1;go_wp2_with fail;refine(KC h1 kD (by decide) (by decide)).mono ?_;intro e w2 he;cases hr2:gF kD ts.tail with
  |error x=>
   obtain⟨n,a⟩:=x;obtain⟨v2,sg2,sl2,rfl,m2,x2,h2,rfl⟩:=he.err hr2;have HE:Hid (dF ts=.error (n,a)):=by show _=_;unfold dF;simp only[HR1.out,hr2]
   clear hr2 he;have lM:=x2.keep (b:=w.heap.size) kB1.lt aZ;have CZ:=x2.keep (b:=w.heap.size+1) rP.lt CY;have kB2:=kB1.mv m2 (by omega) aZ;have qO:=rP.mv m2 (by omega) CY;have M2:=M1.trans X1 m2;have X2:=X1.trans M1.size x2;go_wp2_with fail;refine(ahj true s q _ 0 n a _ _ h2).mono ?_;rintro e w3⟨v3,rfl,⟨va,vk,vc,rfl⟩,m3,h3⟩;have jA:=qO.mv m3 (by omega) CZ;have kB3:=kB2.mv m3 (by omega) lM;have M3:=M2.trans X2 m3;have X3:=X2;have o9:=CZ;have kJ:=lM;have c31:w3.cell? ⟨w.heap.size+1,1,none⟩=some (.slice none 0 0):=jA.cell 1;have Rq:∀i,w3.frozen? ⟨w.heap.size+1,i,none⟩=false:=jA.frozen;have h3':=h3.other (b:=w.heap.size+1) 1 (.slice va vk vc) (by omega) o9;have EA:=jA.set 1 (.slice va vk vc);have Am:aj (w3.setCell ⟨w.heap.size+1,1,none⟩ (.slice va vk vc)) w.heap.size #[.string ⟨#[]⟩,.slice none 0 0,.int .i64 0] 139:=kB3.other (by omega) _;have AU:=M3.new (b:=w.heap.size+1) (by omega) 1 (.slice va vk vc);go_wp2_with fail;refine(KD h3' _).mono ?_;rintro e w4⟨rfl,hw⟩;obtain rfl:=hw.symm;have gG:=EA;have bf:=Am;have M4:=AU;have X4:=X3;have h4:=h3';have lN:=kJ;have d0:(w3.setCell ⟨w.heap.size+1,1,none⟩ (.slice va vk vc)).cell? ⟨w.heap.size+1,0,none⟩=some (.string (Lx.hd ts)):=gG.cell 0;have d1:(w3.setCell ⟨w.heap.size+1,1,none⟩ (.slice va vk vc)).cell? ⟨w.heap.size+1,1,none⟩=some (.slice va vk vc):=gG.cell 1;have d2:(w3.setCell ⟨w.heap.size+1,1,none⟩ (.slice va vk vc)).cell? ⟨w.heap.size+1,2,none⟩=some (.int .i64 (Lx.pl ts:Int)):=gG.cell 2;have e0:(w3.setCell ⟨w.heap.size+1,1,none⟩ (.slice va vk vc)).cell? ⟨w.heap.size,0,none⟩=some (.string ⟨#[]⟩):=bf.cell 0
   have e1:(w3.setCell ⟨w.heap.size+1,1,none⟩ (.slice va vk vc)).cell? ⟨w.heap.size,1,none⟩=some (.slice none 0 0):=bf.cell 1;have e2:(w3.setCell ⟨w.heap.size+1,1,none⟩ (.slice va vk vc)).cell? ⟨w.heap.size,2,none⟩=some (.int .i64 0):=bf.cell 2;have ff:∀i,(w3.setCell ⟨w.heap.size+1,1,none⟩ (.slice va vk vc)).frozen? ⟨w.heap.size,i,none⟩=false:=bf.frozen;go_wp2_with fail;refine bodyPost_ret (v:=.agg #[.string (Lx.hd ts),.slice va vk vc,.int .i64 (Lx.pl ts:Int)]) (by simp[results,results98,go_sem,e0,e1,e2]) rfl ?_;exact bO.no HE.out (((M4.new (zL0) _ _).new (zL0) _ _).new (zL0) _ _) X4 (((h4.other _ _ (by omega) lN).other _ _ (by omega) lN).other _ _ (by omega) lN) ⟨_,_,_,_,_,rfl⟩
  |ok x=>
   obtain⟨u2,bL⟩:=x;obtain⟨v2,sg2,sl2,rfl,m2,x2,h2,rfl⟩:=he.ok hr2;have HR2:Hid _:=hr2;clear hr2 he;have lM:=x2.keep (b:=w.heap.size) kB1.lt aZ;have CZ:=x2.keep (b:=w.heap.size+1) rP.lt CY;have kB2:=kB1.mv m2 (by omega) aZ;have qO:=rP.mv m2 (by omega) CY;have M2:=M1.trans X1 m2;have X2:=X1.trans M1.size x2;go_wp2_with fail;refine(Xj 8 (zL0) s q w2 bL 0 sg2 sl2 rfl h2).mono ?_;intro e w3 he;cases hr3:iP 8 bL with
   |error x=>
    obtain⟨n,a⟩:=x;obtain⟨v3,kI,qM,rfl,m3,x3,h3,va,vk,vc,rfl⟩:=he.err hr3;have HE:Hid (dF ts=.error (n,a)):=by show _=_;unfold dF;simp only[HR1.out,HR2.out,hr3]
    clear hr3 he;have kJ:=x3.keep (b:=w.heap.size) kB2.lt lM;have o9:=x3.keep (b:=w.heap.size+1) qO.lt CZ;have kB3:=kB2.mv m3 (by omega) lM;have jA:=qO.mv m3 (by omega) CZ;have M3:=M2.trans X2 m3;have X3:=X2.trans M2.size x3;have c31:w3.cell? ⟨w.heap.size+1,1,none⟩=some (.slice none 0 0):=jA.cell 1;have Rq:∀i,w3.frozen? ⟨w.heap.size+1,i,none⟩=false:=jA.frozen;have h3':=h3.other (b:=w.heap.size+1) 1 (.slice va vk vc) (by omega) o9;have EA:=jA.set 1 (.slice va vk vc);have Am:aj (w3.setCell ⟨w.heap.size+1,1,none⟩ (.slice va vk vc)) w.heap.size #[.string ⟨#[]⟩,.slice none 0 0,.int .i64 0] 139:=kB3.other (by omega) _;have AU:=M3.new (b:=w.heap.size+1) (by omega) 1 (.slice va vk vc);go_wp2_with fail;refine(KD h3' _).mono ?_;rintro e w4⟨rfl,hw⟩;obtain rfl:=hw.symm;have gG:=EA;have bf:=Am;have M4:=AU;have X4:=X3;have h4:=h3';have lN:=kJ;have d0:(w3.setCell ⟨w.heap.size+1,1,none⟩ (.slice va vk vc)).cell? ⟨w.heap.size+1,0,none⟩=some (.string (Lx.hd ts)):=gG.cell 0;have d1:(w3.setCell ⟨w.heap.size+1,1,none⟩ (.slice va vk vc)).cell? ⟨w.heap.size+1,1,none⟩=some (.slice va vk vc):=gG.cell 1;have d2:(w3.setCell ⟨w.heap.size+1,1,none⟩ (.slice va vk vc)).cell? ⟨w.heap.size+1,2,none⟩=some (.int .i64 (Lx.pl ts:Int)):=gG.cell 2;have e0:(w3.setCell ⟨w.heap.size+1,1,none⟩ (.slice va vk vc)).cell? ⟨w.heap.size,0,none⟩=some (.string ⟨#[]⟩):=bf.cell 0;have e1:(w3.setCell ⟨w.heap.size+1,1,none⟩ (.slice va vk vc)).cell? ⟨w.heap.size,1,none⟩=some (.slice none 0 0):=bf.cell 1;have e2:(w3.setCell ⟨w.heap.size+1,1,none⟩ (.slice va vk vc)).cell? ⟨w.heap.size,2,none⟩=some (.int .i64 0):=bf.cell 2
    have ff:∀i,(w3.setCell ⟨w.heap.size+1,1,none⟩ (.slice va vk vc)).frozen? ⟨w.heap.size,i,none⟩=false:=bf.frozen;go_wp2_with fail;refine bodyPost_ret (v:=.agg #[.string (Lx.hd ts),.slice va vk vc,.int .i64 (Lx.pl ts:Int)]) (by simp[results,results98,go_sem,e0,e1,e2]) rfl ?_;exact bO.no HE.out (((M4.new (zL0) _ _).new (zL0) _ _).new (zL0) _ _) X4 (((h4.other _ _ (by omega) lN).other _ _ (by omega) lN).other _ _ (by omega) lN) ⟨_,_,_,_,_,rfl⟩
   |ok x=>
    obtain⟨l,eF⟩:=x;obtain⟨v3,kI,qM,rfl,m3,x3,h3,hv⟩:=he.ok hr3;obtain⟨va,vk,vc,rfl⟩:=ay.form hv;have HR3:Hid _:=hr3;clear hr3 he;have kJ:=x3.keep (b:=w.heap.size) kB2.lt lM;have o9:=x3.keep (b:=w.heap.size+1) qO.lt CZ;have kB3:=kB2.mv m3 (by omega) lM;have jA:=qO.mv m3 (by omega) CZ;have M3:=M2.trans X2 m3;have X3:=X2.trans M2.size x3;have l2:=qO.lt;have c31:w3.cell? ⟨w.heap.size+1,1,none⟩=some (.slice none 0 0):=jA.cell 1;have Rq:∀i,w3.frozen? ⟨w.heap.size+1,i,none⟩=false:=jA.frozen;have h3':=h3.other (b:=w.heap.size+1) 1 (.slice va vk vc) (by omega) o9;have EA:=jA.set 1 (.slice va vk vc);have Am:aj (w3.setCell ⟨w.heap.size+1,1,none⟩ (.slice va vk vc)) w.heap.size #[.string ⟨#[]⟩,.slice none 0 0,.int .i64 0] 139:=kB3.other (by omega) _;have AU:=M3.new (b:=w.heap.size+1) (by omega) 1 (.slice va vk vc);go_wp2_with fail;refine(KC h3' iq (by decide) (by decide)).mono ?_;intro e w4 he;cases hr4:gF iq eF with
    |error x=>
     obtain⟨n,a⟩:=x;obtain⟨v4,AL,Rk,rfl,m4,x4,h4,rfl⟩:=he.err hr4;have HE:Hid (dF ts=.error (n,a)):=by show _=_;unfold dF;simp only[HR1.out,HR2.out,HR3.out,hr4]
     clear hr4 he;have lN:=x4.keep (b:=w.heap.size) Am.lt kJ;have bf:=Am.mv m4 (by omega) kJ;have gG:=EA.mv m4 (by omega) o9;have M4:=AU.trans X3 m4;have X4:=X3.trans AU.size x4;have d0:w4.cell? ⟨w.heap.size+1,0,none⟩=some (.string (Lx.hd ts)):=gG.cell 0;have d1:w4.cell? ⟨w.heap.size+1,1,none⟩=some (.slice va vk vc):=gG.cell 1;have d2:w4.cell? ⟨w.heap.size+1,2,none⟩=some (.int .i64 (Lx.pl ts:Int)):=gG.cell 2;have e0:w4.cell? ⟨w.heap.size,0,none⟩=some (.string ⟨#[]⟩):=bf.cell 0;have e1:w4.cell? ⟨w.heap.size,1,none⟩=some (.slice none 0 0):=bf.cell 1;have e2:w4.cell? ⟨w.heap.size,2,none⟩=some (.int .i64 0):=bf.cell 2;have ff:∀i,w4.frozen? ⟨w.heap.size,i,none⟩=false:=bf.frozen;go_wp2_with fail;refine bodyPost_ret (v:=.agg #[.string (Lx.hd ts),.slice va vk vc,.int .i64 (Lx.pl ts:Int)]) (by simp[results,results98,go_sem,e0,e1,e2]) rfl ?_;exact bO.no HE.out (((M4.new (zL0) _ _).new (zL0) _ _).new (zL0) _ _) X4 (((h4.other _ _ (by omega) lN).other _ _ (by omega) lN).other _ _ (by omega) lN) ⟨_,_,_,_,_,rfl⟩
    |ok x=>
     obtain⟨u4,fO⟩:=x;obtain⟨v4,AL,Rk,rfl,m4,x4,h4,rfl⟩:=he.ok hr4;have HP:Hid (dF ts=.ok (⟨Lx.hd ts,l,Lx.pl ts⟩,fO)):=by show _=_;unfold dF;simp only[HR1.out,HR2.out,HR3.out,hr4]
     clear hr4 he;have lN:=x4.keep (b:=w.heap.size) Am.lt kJ;have bf:=Am.mv m4 (by omega) kJ;have gG:=EA.mv m4 (by omega) o9;have M4:=AU.trans X3 m4;have X4:=X3.trans AU.size x4;have d0:w4.cell? ⟨w.heap.size+1,0,none⟩=some (.string (Lx.hd ts)):=gG.cell 0;have d1:w4.cell? ⟨w.heap.size+1,1,none⟩=some (.slice va vk vc):=gG.cell 1;have d2:w4.cell? ⟨w.heap.size+1,2,none⟩=some (.int .i64 (Lx.pl ts:Int)):=gG.cell 2;have e0:w4.cell? ⟨w.heap.size,0,none⟩=some (.string ⟨#[]⟩):=bf.cell 0;have e1:w4.cell? ⟨w.heap.size,1,none⟩=some (.slice none 0 0):=bf.cell 1;have e2:w4.cell? ⟨w.heap.size,2,none⟩=some (.int .i64 0):=bf.cell 2;have ff:∀i,w4.frozen? ⟨w.heap.size,i,none⟩=false:=bf.frozen;go_wp2_with fail;refine bodyPost_ret (v:=.agg #[.string (Lx.hd ts),.slice va vk vc,.int .i64 (Lx.pl ts:Int)]) (by simp[results,results98,go_sem,e0,e1,e2]) rfl ?_;refine bO.yes HP.out (((M4.new (zL0) _ _).new (zL0) _ _).new (zL0) _ _) X4 (((h4.other _ _ (by omega) lN).other _ _ (by omega) lN).other _ _ (by omega) lN) ⟨_,rfl,?_⟩;have sS:(w3.setCell ⟨w.heap.size+1,1,none⟩ (.slice va vk vc)).heap.size=w3.heap.size:=by simp[World.setCell]
     have s4:=m4.size;refine ay.move (fun b hb=>?_) (fun b hb=>⟨by have:=hb.1;omega,by have:=hb.2.1;simp[World.setCell];rw[sS]at s4;omega,x4.keep (by rw[sS];exact hb.2.1) hb.2.2⟩) hv;have hb1:=hb.1;have hbb:b≠w.heap.size:=by omega
     have hbc:b≠w.heap.size+1:=by omega
     rw[zS0 hbb,zS0 hbb,zS0 hbb,m4.block b (by rw[sS];exact hb.2.1) (by omega) hb.2.2,zS0 hbc]
end
section
open Go.RowKit
open Lx (Tk)
open Tr
theorem Tryz.info3:(prog.info? 3).map (fun i=>(i.zero,i.size,i.bytes))=some (some (.int .i64 0),1,8):=by kernel_rfl
theorem wT{w:World}{base e size:Nat}{v:Value}{n:Nat}{xs:List Value}(h:w.ownsRow base e size v n xs):∃a c,v=.slice a n c:=by
 rcases h.2 with h0|⟨g,cap,cur,hv,_⟩
 ·exact⟨none,0,by rw[h0.1,h0.2]⟩
 ·exact⟨_,_,hv⟩
def K5(lo:Nat)(w:World)(aG vT vA:Value)(acc:List Tk):Prop :=
 w.ownsRow lo 9 1 vT acc.length (acc.map fun t=>.string t.1)/\w.ownsRow lo 3 1 vA acc.length (acc.map fun t=>.int .i64 (t.2:Int)) /\
 (∀g,vT.ownBlock=some g->vA.ownBlock≠some g)/\(∀g,vT.ownBlock=some g->aG.ownBlock≠some g)/\(∀g,vA.ownBlock=some g->aG.ownBlock≠some g)
def aiq(lo:Nat)(aG:Value)(w':World)(v:Value)(lv:Lx.Lv):Prop:=∃vT vA,v=.agg #[.int .i64 (lv.kind:Int),vT,vA]/\K5 lo w' aG vT vA lv.tokens
def ai0(v:Value):Prop:=∃k a l c a' l' c',v=.agg #[.int .i64 k,.slice a l c,.slice a' l' c']
def LC(ts aA acc:List Tk):Prop:=(acc=[]/\aA=ts.tail)\/(acc≠[]/\∃f,aA.length<=f/\gJ ts=Ev (fF (Lx.hd ts)).toNat (iM f aA acc))
theorem LC.err{ts aA acc:List Tk}{e:Nat×Nat}(h:LC ts aA acc)(hne:0<aA.length)(hs:acc=[]\/¬Lx.hd aA=iq)(he:cK Lx.isToken aA=.error e):gJ ts=.error e:=by
 rcases h with ⟨rfl,rfl⟩|⟨h0,f,hf,h⟩
 ·unfold gJ;rw[he]
 ·obtain⟨f',rfl⟩:∃f',f=f'+1:=⟨f-1,by omega⟩
  rw[h,iM,if_neg (hs.resolve_left h0),he];rfl
theorem LC.ok{ts aA aB acc:List Tk}{b:ByteArray}(h:LC ts aA acc)(hne:0<aA.length)(hl:aB.length+1<=aA.length)(hs:acc=[]\/¬Lx.hd aA=iq)(he:cK Lx.isToken aA=.ok (b,aB)):LC ts aB (acc++[(b,Lx.pl aA)]):=by
 refine .inr ⟨by simp,?_⟩;rcases h with ⟨rfl,rfl⟩|⟨h0,f,hf,h⟩
 ·exact⟨aB.length,zL0,J6 he⟩
 ·obtain⟨f',rfl⟩:∃f',f=f'+1:=⟨f-1,by omega⟩
  exact⟨f',by omega,by rw[h,iM,if_neg (hs.resolve_left h0),he]⟩
theorem LC.done{ts aA acc:List Tk}(h:LC ts aA acc)(hne:0<aA.length)(h0:acc≠[])(hs:Lx.hd aA=iq):gJ ts=.ok (⟨(fF (Lx.hd ts)).toNat,acc⟩,aA.tail):=by
 rcases h with ⟨h1,_⟩|⟨_,f,hf,h⟩
 ·exact absurd h1 h0
 ·obtain⟨f',rfl⟩:∃f',f=f'+1:=⟨f-1,by omega⟩
  rw[h,iM,if_pos hs];rfl
theorem Oz(s:ByteArray)(q:Nat)(w:World)(ts:List Tk)(au:Value)(sg:List ByteArray)(kk:Nat)(h:RR s q w ts 0 au sg)(hk:Lx.known (Lx.hd ts)=true)(hn:Lx.hd ts≠aL)(hkk:kk=(fF (Lx.hd ts)).toNat):
  Calls prog 97 #[.pointer (some ⟨q,0,none⟩),.int .i64 (kk:Int)] w (bO s q 0 (aiq w.heap.size) ai0 w au (gJ ts)):=by
 obtain⟨i0,hi,hz0,hz1,hz2⟩:=info_parts Tryz.info3;obtain⟨j0,hj,hy0,hy1,hy2⟩:=info_parts Tryz.BU;have hp:=h.lt;have hcnt:=h.cnt;have HK:Hid _:=hk;have yZ:Hid _:=hn;have HKK:Hid _:=hkk;have amm:=h.wf.mD;clear hk hn hkk;have h0:=(h.alloc (.cells #[.int .i64 0,.slice none 0 0,.slice none 0 0] 147)).alloc (.cells #[.int .i64 (kk:Int),.slice none 0 0,.slice none 0 0] 147);have kB0:=(aj.new w #[.int .i64 0,.slice none 0 0,.slice none 0 0] 147).alloc (.cells #[.int .i64 (kk:Int),.slice none 0 0,.slice none 0 0] 147);have xG:=aj.new (w.alloc (.cells #[.int .i64 0,.slice none 0 0,.slice none 0 0] 147)) #[.int .i64 (kk:Int),.slice none 0 0,.slice none 0 0] 147;rw[show (w.alloc (.cells #[.int .i64 0,.slice none 0 0,.slice none 0 0] 147)).heap.size=w.heap.size+1 by simp]at xG;have M0:=((Mv.refl q au w).alloc (.cells #[.int .i64 0,.slice none 0 0,.slice none 0 0] 147)).alloc (.cells #[.int .i64 (kk:Int),.slice none 0 0,.slice none 0 0] 147);have qK:au.ownBlock≠some w.heap.size:=h.fresh (zL0);have EX:au.ownBlock≠some (w.heap.size+1):=h.fresh (by omega);go_enter func97,ntmps97;go_wp2_with fail;refine(oO h0 HK.out yZ.out).mono ?_;rintro e w1⟨rfl,sg1,m1,x1,h1⟩;have aZ:=x1.keep (b:=w.heap.size) kB0.lt qK;have CY:=x1.keep (b:=w.heap.size+1) xG.lt EX;have kB1:=kB0.mv m1 (by omega) qK;have rP:=xG.mv m1 (by omega) EX;have M1:=M0.trans (Nx.refl _ _) m1;have X1:=(Nx.refl au w).trans M0.size x1;go_wp2_with fail
 go_loopg [] (ts.tail.length+1) (fun k wr=>(∃(aA acc:List Tk)(vT vA bH:Value)(fZ:List ByteArray),aA.length+1=k/\acc.length+aA.length<=ts.length/\RR s q wr aA 0 bH fZ/\aj wr (w.heap.size+1) #[.int .i64 (kk:Int),vT,vA] 147/\aj wr w.heap.size #[.int .i64 0,.slice none 0 0,.slice none 0 0] 147/\bH.ownBlock≠some w.heap.size/\bH.ownBlock≠some (w.heap.size+1) /\
   K5 (w.heap.size+2) wr bH vT vA acc/\Mv q au w wr/\Nx au w bH/\Hid (LC ts aA acc)) \/
  (∃(n a:Nat)(bH:Value)(fZ:List ByteArray)(tk:Nat)(ta:Option Addr)(tc:Nat)(aa:Option Addr)(ak ac:Nat),k=0/\RX s q wr 0 n a bH fZ/\aj wr (w.heap.size+1) #[.int .i64 (kk:Int),.slice ta (tk+1) tc,.slice aa ak ac] 147/\aj wr w.heap.size #[.int .i64 0,.slice none 0 0,.slice none 0 0] 147/\bH.ownBlock≠some w.heap.size /\
   Mv q au w wr/\Nx au w bH/\Hid (gJ ts=.error (n,a))))
 case atStart=>exact .inl ⟨ts.tail,[],_,_,sg1,_,rfl,by simp,h1,rP,kB1,aZ,CY,⟨World.ownsRow_nil _ _ _ _,World.ownsRow_nil _ _ _ _,fun g hg=>by simp[Value.ownBlock]at hg,fun g hg=>by simp[Value.ownBlock]at hg,fun g hg=>by simp[Value.ownBlock]at hg⟩,M1,X1,.inl ⟨rfl,rfl⟩⟩
 case round=>
  clear h1 kB1 rP M1 X1 aZ CY m1 x1 h0 kB0 xG M0 qK EX;rcases hrel with ⟨aA,acc,vT,vA,bH,fZ,hk,hacc,hr,kX,kB,fB,fX,hrows,M,X,hlc⟩|⟨n,a,bH,fZ,tk,ta,tc,aa,ak,ac,hk,hx,kX,kB,fB,M,X,HE⟩
  ·obtain⟨oT,oA,Iu,sT,sA⟩:=hrows
   obtain⟨ta,tc,rfl⟩:=wT oT;obtain⟨aa,ac,rfl⟩:=wT oA;have hne:=hr.wf.ne;have htl:=hr.wf.mD;have szr:=M.size;have lX:=kX.lt;have oAD:=aC (w':=(wr.alloc (.cells #[.int .i64 (Lx.pl aA:Int)] 3)).drew) (oA.alloc (.cells #[.int .i64 (Lx.pl aA:Int)] 3)) fun _ _=>rfl
   have c1:wr.cell? ⟨q,1,none⟩=some (.int .i64 (Lx.pl aA:Int)):=hr.blk.cell 1;have c2:wr.cell? ⟨q,2,none⟩=some (.string (fw (Lx.hd aA))):=hr.blk.cell 2;have c4:wr.cell? ⟨q,4,none⟩=some (.int .i64 0):=hr.blk.cell 4;have x1:wr.cell? ⟨w.heap.size+1,1,none⟩=some (.slice ta acc.length tc):=kX.cell 1;have x2:wr.cell? ⟨w.heap.size+1,2,none⟩=some (.slice aa acc.length ac):=kX.cell 2
   by_cases ha:acc=[]
   ·have hl0:((acc.length:Int) == 0)=true:=by rw[ha];rfl
    have vO:Hid (acc=[]\/¬Lx.hd aA=iq):=.inl ha;clear ha;go_wp2_with fail
    go_region_law (first
     | (refine step_append_lies _ rfl (.tmp 30) (.tmp 35) 43 rfl (w.heap.size+2) 3 i0 _ 1 8 underlying43 hi hz0 hz1 hz2 rfl (by decide) (.slice aa acc.length ac) acc.length (acc.map fun t=>.int .i64 (t.2:Int)) (by simp[Act.eval]) oAD ⟨wr.heap.size,0,none⟩ 1 1 [.int .i64 (Lx.pl aA:Int)] (by simp[Act.eval]) rfl (bC (aj.new wr _ 3).drew) (by simp[Value.oneCell']) (by decide) (by unfold maxLen;omega) (by omega) (by simp;omega) _ rfl ?_;intro g2 cap2 w2 GZ hgrow2 xq hlt2;have qO:=((kX.alloc _).drew).grown hgrow2 (fun e=>by have:=(oA.lt _ e.symm).1;omega);have EU:w2.cell? ⟨w.heap.size+1,2,none⟩=some (.slice aa acc.length ac):=qO.cell 2;have f22:∀i,w2.frozen? ⟨w.heap.size+1,i,none⟩=false:=qO.frozen))
    all_goals
     have kB2:=(kB.alloc (.cells #[.int .i64 (Lx.pl aA:Int)] 3)).drew.grown hgrow2 (fun e=>by have:=(oA.lt _ e.symm).1;omega);have M2:=(M.alloc (.cells #[.int .i64 (Lx.pl aA:Int)] 3)).drew.grown hgrow2 (fun k hk=>.inl (by have:=(oA.lt _ hk).1;omega));have s2:wr.heap.size+1<=w2.heap.size:=by have:=hgrow2.size;simpa using this
     have h2:=(hr.alloc (.cells #[.int .i64 (Lx.pl aA:Int)] 3)).drew.move (hgrow2.block q (by simp;omega) (fun e=>by have:=(oA.lt _ e.symm).1;omega)) (fun g hg=>hgrow2.block g (by have:=hr.dQ g hg;simp;omega) (fun e=>sA g e.symm hg));have h2':=h2.other (b:=w.heap.size+1) 2 (Value.slice (some ⟨g2,0,none⟩) (acc.length+1) cap2) (by omega) fX;have yG:=qO.set 2 (Value.slice (some ⟨g2,0,none⟩) (acc.length+1) cap2);have sM:aj (w2.setCell ⟨w.heap.size+1,2,none⟩ (Value.slice (some ⟨g2,0,none⟩) (acc.length+1) cap2)) w.heap.size #[.int .i64 0,.slice none 0 0,.slice none 0 0] 147:=kB2.other (by omega) _;have y7:=M2.new (b:=w.heap.size+1) (by omega) 2 (Value.slice (some ⟨g2,0,none⟩) (acc.length+1) cap2);have pu:=aC (w':=w2.setCell ⟨w.heap.size+1,2,none⟩ (Value.slice (some ⟨g2,0,none⟩) (acc.length+1) cap2)) GZ (fun g hg=>zS0 (fun e=>by have:=(GZ.lt g hg).1;have e':g=w.heap.size+1:=e;omega));have pz:=aC (w':=w2.setCell ⟨w.heap.size+1,2,none⟩ (Value.slice (some ⟨g2,0,none⟩) (acc.length+1) cap2)) oT (fun g hg=>by
      have:=oT.lt g hg;have hgx:g≠w.heap.size+1:=by omega
      rw[zS0 hgx,hgrow2.block g (by simp;omega) (fun e=>Iu g hg e.symm)];exact Below.heap_alloc _ _ _ this.2)
     have y8:∀g,(Value.slice (some ⟨g2,0,none⟩) (acc.length+1) cap2).ownBlock=some g->bH.ownBlock≠some g:=fun g hg e=>by
      have e':g2=g:=by simpa [Value.ownBlock]using hg
      rcases xq with h1|h1
      ·exact sA g (by rw[h1,e']) e
      ·have:=hr.dQ g e;simp at h1;omega
     have G5:∀g,(Value.slice ta acc.length tc).ownBlock=some g->g2≠g:=fun g hg e=>by
      rcases xq with h1|h1
      ·exact Iu g hg (by rw[h1,e])
      ·have:=(oT.lt g hg).2;simp at h1;omega
     go_wp2_with fail;refine(Ou h2').mono ?_;intro e w3 he;cases hpw:cK Lx.isToken aA with
     |error x=>
      obtain⟨n,a⟩:=x;obtain⟨v3,kI,qM,rfl,m3,x3,h3,rfl⟩:=he.err hpw;have HE:Hid (gJ ts=.error (n,a)):=hlc.out.err hne vO.out hpw;clear hpw he;have x23:=x3;have jA:=yG.mv m3 (by omega) fX;have kB3:=sM.mv m3 (by omega) fB;have o9:=x3.keep (b:=w.heap.size+1) yG.lt fX;have kJ:=x3.keep (b:=w.heap.size) sM.lt fB;have M3:=y7.trans X m3;have X3:=X.trans y7.size x3;have lQ:=aC pz (fun g hg=>m3.block g (pz.lt g hg).2 (fun e=>by have:=(pz.lt g hg).1;omega) (sT g hg));have y9:=aC pu (fun g hg=>m3.block g (pu.lt g hg).2 (fun e=>by have:=(pu.lt g hg).1;omega) (y8 g hg));have vU:∀g,(Value.slice ta acc.length tc).ownBlock=some g->kI.ownBlock≠some g:=fun g hg=>x3.keep (pz.lt g hg).2 (sT g hg)
      have Iw:∀g,(Value.slice (some ⟨g2,0,none⟩) (acc.length+1) cap2).ownBlock=some g->kI.ownBlock≠some g:=fun g hg=>x3.keep (pu.lt g hg).2 (y8 g hg)
      have c31:w3.cell? ⟨w.heap.size+1,1,none⟩=some (.slice ta acc.length tc):=jA.cell 1;have Rs:=jA.lt
      go_wp2_with (first
       | (at_builtin;refine wpList_append_lies _ rfl _ _ 41 rfl (w.heap.size+2) 9 j0 _ 1 16 underlying41 hj hy0 hy1 hy2 rfl (by decide) (.slice ta acc.length tc) acc.length (acc.map fun t=>.string t.1) rfl (lQ.alloc _) ⟨w3.heap.size,0,none⟩ 1 1 [.string ⟨#[]⟩] rfl rfl (bC (aj.new w3 _ 9)) (by simp[Value.oneCell']) (by decide) (by unfold maxLen;omega) (by omega) (by simp;omega) _ rfl ?_;intro g4 cap4 w4 C8 bV ni xg;have gG:=(jA.alloc _).grown bV (fun e=>by have:=(lQ.lt _ e.symm).1;omega);have EY:w4.cell? ⟨w.heap.size+1,1,none⟩=some (.slice ta acc.length tc):=gG.cell 1;have f41:∀i,w4.frozen? ⟨w.heap.size+1,i,none⟩=false:=gG.frozen))
      have bf:=(kB3.alloc (.cells #[.string ⟨#[]⟩] 9)).grown bV (fun e=>by have:=(lQ.lt _ e.symm).1;omega);have M4:=(M3.alloc (.cells #[.string ⟨#[]⟩] 9)).grown bV (fun k hk=>.inl (by have:=(lQ.lt _ hk).1;omega));have Rt:w3.heap.size+1<=w4.heap.size:=by have:=bV.size;simpa using this
      have h4:=(h3.alloc (.cells #[.string ⟨#[]⟩] 9)).move (bV.block q (by simp;omega) (fun e=>by have:=(lQ.lt _ e.symm).1;omega)) (fun g hg=>bV.block g (by have:=h3.dQ g hg;simp;omega) (fun e=>vU g e.symm hg));have h4':=h4.other (b:=w.heap.size+1) 1 (.slice (some ⟨g4,0,none⟩) (acc.length+1) cap4) (by omega) o9;have Co:=gG.set 1 (.slice (some ⟨g4,0,none⟩) (acc.length+1) cap4);have Cq:aj (w4.setCell ⟨w.heap.size+1,1,none⟩ (.slice (some ⟨g4,0,none⟩) (acc.length+1) cap4)) w.heap.size #[.int .i64 0,.slice none 0 0,.slice none 0 0] 147:=bf.other (by omega) _;have C9:=M4.new (b:=w.heap.size+1) (by omega) 1 (.slice (some ⟨g4,0,none⟩) (acc.length+1) cap4);go_roundg 0
      case measure=>omega
      case rel=>exact .inr ⟨n,a,kI,qM,acc.length,_,_,_,_,_,rfl,h4',Co,Cq,kJ,C9,X3,HE⟩
     |ok x=>
      obtain⟨b,eF⟩:=x;obtain⟨v3,kI,qM,rfl,m3,x3,h3,rfl⟩:=he.ok hpw;have hl3:eF.length+1=aA.length:=by rw[(mW hpw).1];exact htl
      have Ru:Hid (LC ts eF (acc++[(b,Lx.pl aA)])):=hlc.out.ok hne (by omega) vO.out hpw;clear hpw he;have x23:=x3;have jA:=yG.mv m3 (by omega) fX;have kB3:=sM.mv m3 (by omega) fB;have o9:=x3.keep (b:=w.heap.size+1) yG.lt fX;have kJ:=x3.keep (b:=w.heap.size) sM.lt fB;have M3:=y7.trans X m3;have X3:=X.trans y7.size x3;have lQ:=aC pz (fun g hg=>m3.block g (pz.lt g hg).2 (fun e=>by have:=(pz.lt g hg).1;omega) (sT g hg));have y9:=aC pu (fun g hg=>m3.block g (pu.lt g hg).2 (fun e=>by have:=(pu.lt g hg).1;omega) (y8 g hg));have vU:∀g,(Value.slice ta acc.length tc).ownBlock=some g->kI.ownBlock≠some g:=fun g hg=>x3.keep (pz.lt g hg).2 (sT g hg)
      have Iw:∀g,(Value.slice (some ⟨g2,0,none⟩) (acc.length+1) cap2).ownBlock=some g->kI.ownBlock≠some g:=fun g hg=>x3.keep (pu.lt g hg).2 (y8 g hg)
      have c31:w3.cell? ⟨w.heap.size+1,1,none⟩=some (.slice ta acc.length tc):=jA.cell 1;have Rs:=jA.lt
      go_wp2_with (first
       | (at_builtin;refine wpList_append_lies _ rfl _ _ 41 rfl (w.heap.size+2) 9 j0 _ 1 16 underlying41 hj hy0 hy1 hy2 rfl (by decide) (.slice ta acc.length tc) acc.length (acc.map fun t=>.string t.1) rfl (lQ.alloc _) ⟨w3.heap.size,0,none⟩ 1 1 [.string b] rfl rfl (bC (aj.new w3 _ 9)) (by simp[Value.oneCell']) (by decide) (by unfold maxLen;omega) (by omega) (by simp;omega) _ rfl ?_;intro g4 cap4 w4 C8 bV ni xg;have gG:=(jA.alloc _).grown bV (fun e=>by have:=(lQ.lt _ e.symm).1;omega);have EY:w4.cell? ⟨w.heap.size+1,1,none⟩=some (.slice ta acc.length tc):=gG.cell 1;have f41:∀i,w4.frozen? ⟨w.heap.size+1,i,none⟩=false:=gG.frozen))
      have bf:=(kB3.alloc (.cells #[.string b] 9)).grown bV (fun e=>by have:=(lQ.lt _ e.symm).1;omega);have M4:=(M3.alloc (.cells #[.string b] 9)).grown bV (fun k hk=>.inl (by have:=(lQ.lt _ hk).1;omega));have Rt:w3.heap.size+1<=w4.heap.size:=by have:=bV.size;simpa using this
      have h4:=(h3.alloc (.cells #[.string b] 9)).move (bV.block q (by simp;omega) (fun e=>by have:=(lQ.lt _ e.symm).1;omega)) (fun g hg=>bV.block g (by have:=h3.dQ g hg;simp;omega) (fun e=>vU g e.symm hg));have h4':=h4.other (b:=w.heap.size+1) 1 (.slice (some ⟨g4,0,none⟩) (acc.length+1) cap4) (by omega) o9;have Co:=gG.set 1 (.slice (some ⟨g4,0,none⟩) (acc.length+1) cap4);have Cq:aj (w4.setCell ⟨w.heap.size+1,1,none⟩ (.slice (some ⟨g4,0,none⟩) (acc.length+1) cap4)) w.heap.size #[.int .i64 0,.slice none 0 0,.slice none 0 0] 147:=bf.other (by omega) _;have C9:=M4.new (b:=w.heap.size+1) (by omega) 1 (.slice (some ⟨g4,0,none⟩) (acc.length+1) cap4);go_roundg (eF.length+1)
      case measure=>omega
      case rel=>
       refine .inl ⟨eF,acc++[(b,Lx.pl aA)],_,_,kI,qM,rfl,by simp;omega,h4',Co,Cq,kJ,o9,⟨?_,?_,?_,?_,?_⟩,C9,X3,Ru⟩
       ·rw[List.map_append,List.length_append]
        exact aC C8 (fun g hg=>zS0 (fun e=>by have:=(C8.lt g hg).1;have e':g=w.heap.size+1:=e;omega))
       ·rw[List.map_append,List.length_append]
        refine aC y9 (fun g hg=>?_);have hg2:g2=g:=by simpa [Value.ownBlock]using hg
        have:=y9.lt g hg;have hgx:g≠w.heap.size+1:=by omega
        rw[zS0 hgx,bV.block g (by simp;omega) (fun e=>G5 g e.symm hg2)];exact Below.heap_alloc _ _ _ this.2
       ·intro g hg e
        have e4:g4=g:=by simpa [Value.ownBlock]using hg
        have e2:g2=g:=by simpa [Value.ownBlock]using e
        rcases ni with h1|h1
        ·exact G5 g (by rw[h1,e4]) e2
        ·have:=(y9.lt g2 rfl).2;simp at h1;omega
       ·intro g hg e
        have e4:g4=g:=by simpa [Value.ownBlock]using hg
        rcases ni with h1|h1
        ·exact vU g (by rw[h1,e4]) e
        ·have:=h3.dQ g e;simp at h1;omega
       ·exact Iw
   ·have hl0:((acc.length:Int) == 0)=false:=beq_eq_false_iff_ne.2 (by have:=List.length_pos_iff.2 ha;omega)
    have HA:Hid (acc≠[]):=ha;clear ha
    by_cases hs:Lx.hd aA=iq
    ·have t59:((fw (Lx.hd aA)).toList == [59])=true:=by rw[hs,nE (by decide),ByteArray.toList_eq];rfl
     have HP:Hid (gJ ts=.ok (⟨kk,acc⟩,aA.tail)):=by show _=_;rw[HKK.out];exact hlc.out.done hne HA.out hs
     have HM:Hid (gF iq aA=.ok ((),aA.tail)):=if_pos hs;clear hs;go_wp2_with fail;refine(KC hr iq (by decide) (by decide)).mono ?_;intro e w9 he;obtain⟨v9,sg9,sl9,rfl,m9,x9,h9,rfl⟩:=he.ok HM.out;clear he;have Da:=x9.keep (b:=w.heap.size) kB.lt fB;have jD:=kB.mv m9 (by omega) fB;have Db:=kX.mv m9 (by omega) fX;have M9:=M.trans X m9;have X9:=X.trans M.size x9;have e0:w9.cell? ⟨w.heap.size,0,none⟩=some (.int .i64 0):=jD.cell 0;have e1:w9.cell? ⟨w.heap.size,1,none⟩=some (.slice none 0 0):=jD.cell 1;have e2:w9.cell? ⟨w.heap.size,2,none⟩=some (.slice none 0 0):=jD.cell 2;have d0:w9.cell? ⟨w.heap.size+1,0,none⟩=some (.int .i64 (kk:Int)):=Db.cell 0;have d1:w9.cell? ⟨w.heap.size+1,1,none⟩=some (.slice ta acc.length tc):=Db.cell 1;have d2:w9.cell? ⟨w.heap.size+1,2,none⟩=some (.slice aa acc.length ac):=Db.cell 2;have ff:∀i,w9.frozen? ⟨w.heap.size,i,none⟩=false:=jD.frozen;go_wp2_with fail;refine bodyPost_ret (v:=.agg #[.int .i64 (kk:Int),(.slice ta acc.length tc),(.slice aa acc.length ac)]) (by simp[results,results97,go_sem,e0,e1,e2]) rfl ?_;refine bO.yes HP.out (((M9.new (zL0) _ _).new (zL0) _ _).new (zL0) _ _) X9 (((h9.other _ _ (by omega) Da).other _ _ (by omega) Da).other _ _ (by omega) Da) ⟨_,_,rfl,?_,?_,Iu,fun g hg=>x9.keep (oT.lt g hg).2 (sT g hg),fun g hg=>x9.keep (oA.lt g hg).2 (sA g hg)⟩
     ·refine dm (aC oT (fun g hg=>?_)) (by omega:w.heap.size<=w.heap.size+2)
      have:=oT.lt g hg;have hgx:g≠w.heap.size:=by omega
      rw[zS0 hgx,zS0 hgx,zS0 hgx,m9.block g this.2 (by omega) (sT g hg)]
     ·refine dm (aC oA (fun g hg=>?_)) (by omega:w.heap.size<=w.heap.size+2)
      have:=oA.lt g hg;have hgx:g≠w.heap.size:=by omega
      rw[zS0 hgx,zS0 hgx,zS0 hgx,m9.block g this.2 (by omega) (sA g hg)]
    ·have t59:((fw (Lx.hd aA)).toList == [59])=false:=by
      refine lC (l:=[59]) ?_;exact fun e=>hs ((rZ (b:=iq) (by decide) (by decide)).1 e)
     have vO:Hid (acc=[]\/¬Lx.hd aA=iq):=.inr hs;clear hs;go_wp2_with fail
     go_region_law (first
      | (refine step_append_lies _ rfl (.tmp 30) (.tmp 35) 43 rfl (w.heap.size+2) 3 i0 _ 1 8 underlying43 hi hz0 hz1 hz2 rfl (by decide) (.slice aa acc.length ac) acc.length (acc.map fun t=>.int .i64 (t.2:Int)) (by simp[Act.eval]) oAD ⟨wr.heap.size,0,none⟩ 1 1 [.int .i64 (Lx.pl aA:Int)] (by simp[Act.eval]) rfl (bC (aj.new wr _ 3).drew) (by simp[Value.oneCell']) (by decide) (by unfold maxLen;omega) (by omega) (by simp;omega) _ rfl ?_;intro g2 cap2 w2 GZ hgrow2 xq hlt2;have qO:=((kX.alloc _).drew).grown hgrow2 (fun e=>by have:=(oA.lt _ e.symm).1;omega);have EU:w2.cell? ⟨w.heap.size+1,2,none⟩=some (.slice aa acc.length ac):=qO.cell 2;have f22:∀i,w2.frozen? ⟨w.heap.size+1,i,none⟩=false:=qO.frozen))
     all_goals
      have kB2:=(kB.alloc (.cells #[.int .i64 (Lx.pl aA:Int)] 3)).drew.grown hgrow2 (fun e=>by have:=(oA.lt _ e.symm).1;omega);have M2:=(M.alloc (.cells #[.int .i64 (Lx.pl aA:Int)] 3)).drew.grown hgrow2 (fun k hk=>.inl (by have:=(oA.lt _ hk).1;omega));have s2:wr.heap.size+1<=w2.heap.size:=by have:=hgrow2.size;simpa using this
      have h2:=(hr.alloc (.cells #[.int .i64 (Lx.pl aA:Int)] 3)).drew.move (hgrow2.block q (by simp;omega) (fun e=>by have:=(oA.lt _ e.symm).1;omega)) (fun g hg=>hgrow2.block g (by have:=hr.dQ g hg;simp;omega) (fun e=>sA g e.symm hg));have h2':=h2.other (b:=w.heap.size+1) 2 (Value.slice (some ⟨g2,0,none⟩) (acc.length+1) cap2) (by omega) fX;have yG:=qO.set 2 (Value.slice (some ⟨g2,0,none⟩) (acc.length+1) cap2);have sM:aj (w2.setCell ⟨w.heap.size+1,2,none⟩ (Value.slice (some ⟨g2,0,none⟩) (acc.length+1) cap2)) w.heap.size #[.int .i64 0,.slice none 0 0,.slice none 0 0] 147:=kB2.other (by omega) _;have y7:=M2.new (b:=w.heap.size+1) (by omega) 2 (Value.slice (some ⟨g2,0,none⟩) (acc.length+1) cap2);have pu:=aC (w':=w2.setCell ⟨w.heap.size+1,2,none⟩ (Value.slice (some ⟨g2,0,none⟩) (acc.length+1) cap2)) GZ (fun g hg=>zS0 (fun e=>by have:=(GZ.lt g hg).1;have e':g=w.heap.size+1:=e;omega));have pz:=aC (w':=w2.setCell ⟨w.heap.size+1,2,none⟩ (Value.slice (some ⟨g2,0,none⟩) (acc.length+1) cap2)) oT (fun g hg=>by
       have:=oT.lt g hg;have hgx:g≠w.heap.size+1:=by omega
       rw[zS0 hgx,hgrow2.block g (by simp;omega) (fun e=>Iu g hg e.symm)];exact Below.heap_alloc _ _ _ this.2)
      have y8:∀g,(Value.slice (some ⟨g2,0,none⟩) (acc.length+1) cap2).ownBlock=some g->bH.ownBlock≠some g:=fun g hg e=>by
       have e':g2=g:=by simpa [Value.ownBlock]using hg
       rcases xq with h1|h1
       ·exact sA g (by rw[h1,e']) e
       ·have:=hr.dQ g e;simp at h1;omega
      have G5:∀g,(Value.slice ta acc.length tc).ownBlock=some g->g2≠g:=fun g hg e=>by
       rcases xq with h1|h1
       ·exact Iu g hg (by rw[h1,e])
       ·have:=(oT.lt g hg).2;simp at h1;omega
      go_wp2_with fail;refine(Ou h2').mono ?_;intro e w3 he;cases hpw:cK Lx.isToken aA with
      |error x=>
       obtain⟨n,a⟩:=x;obtain⟨v3,kI,qM,rfl,m3,x3,h3,rfl⟩:=he.err hpw;have HE:Hid (gJ ts=.error (n,a)):=hlc.out.err hne vO.out hpw;clear hpw he;have x23:=x3;have jA:=yG.mv m3 (by omega) fX;have kB3:=sM.mv m3 (by omega) fB;have o9:=x3.keep (b:=w.heap.size+1) yG.lt fX;have kJ:=x3.keep (b:=w.heap.size) sM.lt fB;have M3:=y7.trans X m3;have X3:=X.trans y7.size x3;have lQ:=aC pz (fun g hg=>m3.block g (pz.lt g hg).2 (fun e=>by have:=(pz.lt g hg).1;omega) (sT g hg));have y9:=aC pu (fun g hg=>m3.block g (pu.lt g hg).2 (fun e=>by have:=(pu.lt g hg).1;omega) (y8 g hg));have vU:∀g,(Value.slice ta acc.length tc).ownBlock=some g->kI.ownBlock≠some g:=fun g hg=>x3.keep (pz.lt g hg).2 (sT g hg)
       have Iw:∀g,(Value.slice (some ⟨g2,0,none⟩) (acc.length+1) cap2).ownBlock=some g->kI.ownBlock≠some g:=fun g hg=>x3.keep (pu.lt g hg).2 (y8 g hg)
       have c31:w3.cell? ⟨w.heap.size+1,1,none⟩=some (.slice ta acc.length tc):=jA.cell 1;have Rs:=jA.lt
       go_wp2_with (first
        | (at_builtin;refine wpList_append_lies _ rfl _ _ 41 rfl (w.heap.size+2) 9 j0 _ 1 16 underlying41 hj hy0 hy1 hy2 rfl (by decide) (.slice ta acc.length tc) acc.length (acc.map fun t=>.string t.1) rfl (lQ.alloc _) ⟨w3.heap.size,0,none⟩ 1 1 [.string ⟨#[]⟩] rfl rfl (bC (aj.new w3 _ 9)) (by simp[Value.oneCell']) (by decide) (by unfold maxLen;omega) (by omega) (by simp;omega) _ rfl ?_;intro g4 cap4 w4 C8 bV ni xg;have gG:=(jA.alloc _).grown bV (fun e=>by have:=(lQ.lt _ e.symm).1;omega);have EY:w4.cell? ⟨w.heap.size+1,1,none⟩=some (.slice ta acc.length tc):=gG.cell 1;have f41:∀i,w4.frozen? ⟨w.heap.size+1,i,none⟩=false:=gG.frozen))
       have bf:=(kB3.alloc (.cells #[.string ⟨#[]⟩] 9)).grown bV (fun e=>by have:=(lQ.lt _ e.symm).1;omega);have M4:=(M3.alloc (.cells #[.string ⟨#[]⟩] 9)).grown bV (fun k hk=>.inl (by have:=(lQ.lt _ hk).1;omega));have Rt:w3.heap.size+1<=w4.heap.size:=by have:=bV.size;simpa using this
       have h4:=(h3.alloc (.cells #[.string ⟨#[]⟩] 9)).move (bV.block q (by simp;omega) (fun e=>by have:=(lQ.lt _ e.symm).1;omega)) (fun g hg=>bV.block g (by have:=h3.dQ g hg;simp;omega) (fun e=>vU g e.symm hg));have h4':=h4.other (b:=w.heap.size+1) 1 (.slice (some ⟨g4,0,none⟩) (acc.length+1) cap4) (by omega) o9;have Co:=gG.set 1 (.slice (some ⟨g4,0,none⟩) (acc.length+1) cap4);have Cq:aj (w4.setCell ⟨w.heap.size+1,1,none⟩ (.slice (some ⟨g4,0,none⟩) (acc.length+1) cap4)) w.heap.size #[.int .i64 0,.slice none 0 0,.slice none 0 0] 147:=bf.other (by omega) _;have C9:=M4.new (b:=w.heap.size+1) (by omega) 1 (.slice (some ⟨g4,0,none⟩) (acc.length+1) cap4);go_roundg 0
       case measure=>omega
       case rel=>exact .inr ⟨n,a,kI,qM,acc.length,_,_,_,_,_,rfl,h4',Co,Cq,kJ,C9,X3,HE⟩
      |ok x=>
       obtain⟨b,eF⟩:=x;obtain⟨v3,kI,qM,rfl,m3,x3,h3,rfl⟩:=he.ok hpw;have hl3:eF.length+1=aA.length:=by rw[(mW hpw).1];exact htl
       have Ru:Hid (LC ts eF (acc++[(b,Lx.pl aA)])):=hlc.out.ok hne (by omega) vO.out hpw;clear hpw he;have x23:=x3;have jA:=yG.mv m3 (by omega) fX;have kB3:=sM.mv m3 (by omega) fB;have o9:=x3.keep (b:=w.heap.size+1) yG.lt fX;have kJ:=x3.keep (b:=w.heap.size) sM.lt fB;have M3:=y7.trans X m3;have X3:=X.trans y7.size x3;have lQ:=aC pz (fun g hg=>m3.block g (pz.lt g hg).2 (fun e=>by have:=(pz.lt g hg).1;omega) (sT g hg));have y9:=aC pu (fun g hg=>m3.block g (pu.lt g hg).2 (fun e=>by have:=(pu.lt g hg).1;omega) (y8 g hg));have vU:∀g,(Value.slice ta acc.length tc).ownBlock=some g->kI.ownBlock≠some g:=fun g hg=>x3.keep (pz.lt g hg).2 (sT g hg)
       have Iw:∀g,(Value.slice (some ⟨g2,0,none⟩) (acc.length+1) cap2).ownBlock=some g->kI.ownBlock≠some g:=fun g hg=>x3.keep (pu.lt g hg).2 (y8 g hg)
       have c31:w3.cell? ⟨w.heap.size+1,1,none⟩=some (.slice ta acc.length tc):=jA.cell 1;have Rs:=jA.lt
       go_wp2_with (first
        | (at_builtin;refine wpList_append_lies _ rfl _ _ 41 rfl (w.heap.size+2) 9 j0 _ 1 16 underlying41 hj hy0 hy1 hy2 rfl (by decide) (.slice ta acc.length tc) acc.length (acc.map fun t=>.string t.1) rfl (lQ.alloc _) ⟨w3.heap.size,0,none⟩ 1 1 [.string b] rfl rfl (bC (aj.new w3 _ 9)) (by simp[Value.oneCell']) (by decide) (by unfold maxLen;omega) (by omega) (by simp;omega) _ rfl ?_;intro g4 cap4 w4 C8 bV ni xg;have gG:=(jA.alloc _).grown bV (fun e=>by have:=(lQ.lt _ e.symm).1;omega);have EY:w4.cell? ⟨w.heap.size+1,1,none⟩=some (.slice ta acc.length tc):=gG.cell 1;have f41:∀i,w4.frozen? ⟨w.heap.size+1,i,none⟩=false:=gG.frozen))
       have bf:=(kB3.alloc (.cells #[.string b] 9)).grown bV (fun e=>by have:=(lQ.lt _ e.symm).1;omega);have M4:=(M3.alloc (.cells #[.string b] 9)).grown bV (fun k hk=>.inl (by have:=(lQ.lt _ hk).1;omega));have Rt:w3.heap.size+1<=w4.heap.size:=by have:=bV.size;simpa using this
       have h4:=(h3.alloc (.cells #[.string b] 9)).move (bV.block q (by simp;omega) (fun e=>by have:=(lQ.lt _ e.symm).1;omega)) (fun g hg=>bV.block g (by have:=h3.dQ g hg;simp;omega) (fun e=>vU g e.symm hg));have h4':=h4.other (b:=w.heap.size+1) 1 (.slice (some ⟨g4,0,none⟩) (acc.length+1) cap4) (by omega) o9;have Co:=gG.set 1 (.slice (some ⟨g4,0,none⟩) (acc.length+1) cap4);have Cq:aj (w4.setCell ⟨w.heap.size+1,1,none⟩ (.slice (some ⟨g4,0,none⟩) (acc.length+1) cap4)) w.heap.size #[.int .i64 0,.slice none 0 0,.slice none 0 0] 147:=bf.other (by omega) _;have C9:=M4.new (b:=w.heap.size+1) (by omega) 1 (.slice (some ⟨g4,0,none⟩) (acc.length+1) cap4);go_roundg (eF.length+1)
       case measure=>omega
       case rel=>
        refine .inl ⟨eF,acc++[(b,Lx.pl aA)],_,_,kI,qM,rfl,by simp;omega,h4',Co,Cq,kJ,o9,⟨?_,?_,?_,?_,?_⟩,C9,X3,Ru⟩
        ·rw[List.map_append,List.length_append]
         exact aC C8 (fun g hg=>zS0 (fun e=>by have:=(C8.lt g hg).1;have e':g=w.heap.size+1:=e;omega))
        ·rw[List.map_append,List.length_append]
         refine aC y9 (fun g hg=>?_);have hg2:g2=g:=by simpa [Value.ownBlock]using hg
         have:=y9.lt g hg;have hgx:g≠w.heap.size+1:=by omega
         rw[zS0 hgx,bV.block g (by simp;omega) (fun e=>G5 g e.symm hg2)];exact Below.heap_alloc _ _ _ this.2
        ·intro g hg e
         have e4:g4=g:=by simpa [Value.ownBlock]using hg
         have e2:g2=g:=by simpa [Value.ownBlock]using e
         rcases ni with h1|h1
         ·exact G5 g (by rw[h1,e4]) e2
         ·have:=(y9.lt g2 rfl).2;simp at h1;omega
        ·intro g hg e
         have e4:g4=g:=by simpa [Value.ownBlock]using hg
         rcases ni with h1|h1
         ·exact vU g (by rw[h1,e4]) e
         ·have:=h3.dQ g e;simp at h1;omega
        ·exact Iw
  ·have hn0:((n:Int) == 0)=false:=beq_eq_false_iff_ne.2 (by have:=hx.pos;omega)
   have hl0:(((tk+1:Nat):Int) == 0)=false:=zB0 (by omega);have hl0':(((tk:Int)+1) == 0)=false:=zB0 (by omega);obtain⟨ii,WW,rM⟩:=hx.blk;have c4:wr.cell? ⟨q,4,none⟩=some (.int .i64 (n:Int)):=rM.cell 4;have x1:wr.cell? ⟨w.heap.size+1,1,none⟩=some (.slice ta (tk+1) tc):=kX.cell 1;go_wp2_with fail;refine(KD hx _).mono ?_;rintro e w9⟨rfl,hw⟩;obtain rfl:=hw;have jD:=kB;have Db:=kX;have M9:=M;have X9:=X;have h9:=hx;have Da:=fB;have e0:w9.cell? ⟨w.heap.size,0,none⟩=some (.int .i64 0):=jD.cell 0;have e1:w9.cell? ⟨w.heap.size,1,none⟩=some (.slice none 0 0):=jD.cell 1;have e2:w9.cell? ⟨w.heap.size,2,none⟩=some (.slice none 0 0):=jD.cell 2;have d0:w9.cell? ⟨w.heap.size+1,0,none⟩=some (.int .i64 (kk:Int)):=Db.cell 0;have d1:w9.cell? ⟨w.heap.size+1,1,none⟩=some (.slice ta (tk+1) tc):=Db.cell 1;have d2:w9.cell? ⟨w.heap.size+1,2,none⟩=some (.slice aa ak ac):=Db.cell 2;have ff:∀i,w9.frozen? ⟨w.heap.size,i,none⟩=false:=jD.frozen;go_wp2_with fail;refine bodyPost_ret (v:=.agg #[.int .i64 (kk:Int),(.slice ta (tk+1) tc),(.slice aa ak ac)]) (by simp[results,results97,go_sem,e0,e1,e2]) rfl ?_;exact bO.no HE.out (((M9.new (zL0) _ _).new (zL0) _ _).new (zL0) _ _) X9 (((h9.other _ _ (by omega) Da).other _ _ (by omega) Da).other _ _ (by omega) Da) ⟨_,_,_,_,_,_,_,rfl⟩
end
end Go.Proofs.YtjaalkocdbkdeaaGreatDoor
