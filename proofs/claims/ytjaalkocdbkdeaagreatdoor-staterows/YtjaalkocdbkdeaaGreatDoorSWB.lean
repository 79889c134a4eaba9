import Derived.Test.YtjaalkocdbkdeaaGreatDoorSWA
set_option maxHeartbeats 8000000
set_option maxRecDepth 1000000
namespace Go.Proofs.YtjaalkocdbkdeaaGreatDoor
open Lx Go.Proofs.Tryz
section
open Go.RowKit
open Tr
theorem viable_any{w0 w:World}{ta na pa ba ka ra:Option Addr}{nT tc nN nc pc nb bc nk kc rc st:Nat}{P:List Lx.Pd}{row:List Int}(hP:PR (fun _=>True) w0 (.slice pa P.length pc) P)(hR:RowZ w0 (.slice ra row.length rc) row)(hw:Below w0.heap.size w0 w)(hx:aj w w0.heap.size #[.slice ta nT tc,.slice na nN nc,.slice pa P.length pc,.slice ba nb bc,.slice ka nk kc,.slice ra row.length rc,.slice none 0 0] 60)(hp:Lx.mR P (nT+nN) st)(hm:row.length<=1048576)(hN:0<nN):Calls Tryz.prog 16 #[.pointer (some ⟨w0.heap.size,0,none⟩)] w (ViaE w0 P row nT):=by
 have hsz:=hp.M6;have hpl:=hp.len;obtain⟨gP,Ao,u0,hvp,-⟩:=hP.atS hp.pos;cases hvp;have x0:w.cell? ⟨w0.heap.size,0,none⟩=some (.slice ta nT tc):=hx.cell 0;have x1:w.cell? ⟨w0.heap.size,1,none⟩=some (.slice na nN nc):=hx.cell 1;have x2:w.cell? ⟨w0.heap.size,2,none⟩=some (.slice (some ⟨gP,0,none⟩) P.length pc):=hx.cell 2;have x3:w.cell? ⟨w0.heap.size,3,none⟩=some (.slice ba nb bc):=hx.cell 3;have x4:w.cell? ⟨w0.heap.size,4,none⟩=some (.slice ka nk kc):=hx.cell 4;have q1:Calls Tryz.prog 27 #[.agg #[.slice ta nT tc,.slice na nN nc,.slice (some ⟨gP,0,none⟩) P.length pc,.slice ba nb bc,.slice ka nk kc]] w fun e w'=>e=.returned (.int .i64 ((nT+nN:Nat):Int))/\Below w.heap.size w w':=agO hp.M6
 have hsw:=hw.size;go_enter Tryz.func16,Tryz.ntmps16;go_upto_region 2 with (go_at_call 27;refine q1.mono ?_;rintro e w1⟨rfl,hb1⟩)
 have hb01:Below w0.heap.size w0 w1:=hw.trans (hb1.mono hsw);have hx1:aj w1 w0.heap.size _ 60:=(hb1.block _ hx.lt).trans hx;clear x0 x1 x2 x3 x4 q1;have y5:w1.cell? ⟨w0.heap.size,5,none⟩=some (.slice ra row.length rc):=hx1.cell 5;have hwr:IntKind.i64.wrap ((row.length:Int)+1)=((row.length+1:Nat):Int):=by rw[IntKind.wrap_i64];omega
 generalize hszd:nT+nN=sz at *;generalize hnd:row.length+1=n at *;obtain⟨i48,hi48,hz0,hz1,hz2⟩:=info_parts Tryz.info48;go_wp2_with fail
 go_loopg [5] sz (fun m iv wr=>∃(s:Nat)(vB:Value)(rbs:List Nat),s+m=sz/\iv=.int .i64 (s:Int)/\VM w0 wr #[.slice ta nT tc,.slice na nN nc,.slice (some ⟨gP,0,none⟩) P.length pc,.slice ba nb bc,.slice ka nk kc,.slice ra row.length rc,vB] vB n rbs (List.replicate s (List.replicate n false)))
 case atStart=>exact⟨0,_,[],by omega,rfl,hb01,hx1,Beg.nil _ _ _⟩
 case round=>
  clear y5;obtain⟨s,vB,rbs,hks,rfl,hV⟩:=hrel;have hrl:rbs.length=s:=by rw[hV.beg.len,List.length_replicate]
  subst hrl;obtain⟨va,vc,hvB,-⟩:=aF hV.beg.top;subst hvB;have y6:wr.cell? ⟨w0.heap.size,6,none⟩=some (.slice va rbs.length vc):=hV.box.cell 6;have hlx:=hV.box.lt
  by_cases hlt:rbs.length<sz
  ·have hmk:∀wx:World,(Instr.makeSlice 48 (.int .i64 (n:Int)) (.int .i64 (n:Int))).run Tryz.prog wx=.ok (.slice (some ⟨wx.heap.size,0,none⟩) n n) (wx.alloc (.cells (bF (List.replicate n false)) 4)):=fun wx=>make_boolsM (by omega) wx
   have i1:(rbs.length:Int)<(sz:Int):=by omega
   obtain⟨W1,hW1⟩:∃V,V=((wr.alloc (.cells (bF (List.replicate n false)) 4)).alloc (.cells #[.slice (some ⟨wr.heap.size,0,none⟩) n n] 48)).drew:=⟨_,rfl⟩;have hbW:Below wr.heap.size wr W1:=by rw[hW1];exact(((Below.refl _ _).alloc (Nat.le_refl _) _).alloc (by simp) _).drew
   have IW:W1.heap.size=wr.heap.size+2:=by rw[hW1];simp
   have kA:aj W1 wr.heap.size (bF (List.replicate n false)) 4:=by rw[hW1];exact((aj.new wr _ 4).alloc _).drew
   have kB:aj W1 (wr.heap.size+1) #[.slice (some ⟨wr.heap.size,0,none⟩) n n] 48:=by
    rw[hW1];have:=(aj.new (wr.alloc (.cells (bF (List.replicate n false)) 4)) #[.slice (some ⟨wr.heap.size,0,none⟩) n n] 48).drew;simpa using this
   have oA:aJ 48 1 (begC n) (w0.heap.size+1) W1 (.slice va rbs.length vc) rbs:=aJ.below hV.beg.top hbW;have kX:aj W1 w0.heap.size _ 60:=(hbW.block _ hlx).trans hV.box;go_upto_region 6 with fail
   go_region_law (go_loud (refine step_append_lies _ rfl (.tmp 34) (.tmp 37) 58 rfl (w0.heap.size+1) 48 i48 _ 1 24 Tryz.underlying58' hi48 hz0 hz1 hz2 rfl (by decide) (.slice va rbs.length vc) rbs.length (rbs.flatMap (begC n)) (by simp[Act.eval]) (by rw[hW1]at oA;exact oA) ⟨wr.heap.size+1,0,none⟩ 1 1 [.slice (some ⟨wr.heap.size,0,none⟩) n n] (by simp[Act.eval]) rfl (by rw[hW1]at kB;exact bC kB) (by simp[Value.oneCell']) (by decide) (by unfold maxLen;omega) (by omega) (by simp;omega) _ rfl ?_;intro g5 cap5 w5 hown5 aU j6 Ew;have BQ:W1.grownBy w5 (Value.slice va rbs.length vc).ownBlock:=(by rw[hW1];exact aU);have kX5:aj w5 w0.heap.size _ 60:=kX.grown BQ (fun e=>own_ne oA kX (by decide) _ e.symm rfl);have IV:w5.cell? ⟨w0.heap.size,6,none⟩=some (.slice va rbs.length vc):=kX5.cell 6;have f56:w5.frozen? ⟨w0.heap.size,6,none⟩=false:=kX5.frozen 6))
   all_goals
    have hV5:=hV.push hbW kA (List.length_replicate) BQ hown5 kX5;have hV6:VM w0 (w5.setCell ⟨w0.heap.size,6,none⟩ (.slice (some ⟨g5,0,none⟩) (rbs.length+1) cap5)) #[.slice ta nT tc,.slice na nN nc,.slice (some ⟨gP,0,none⟩) P.length pc,.slice ba nb bc,.slice ka nk kc,.slice ra row.length rc,.slice (some ⟨g5,0,none⟩) (rbs.length+1) cap5] (.slice (some ⟨g5,0,none⟩) (rbs.length+1) cap5) n (rbs++[wr.heap.size]) (List.replicate (rbs.length+1) (List.replicate n false)):=by rw[List.replicate_succ'];exact hV5
    clear hV5 hown5 aU BQ kX5 IV f56;go_wp2_with fail;go_roundg (sz - (rbs.length+1))
    case measure=>omega
    case rel=>exact⟨rbs.length+1,_,_,by omega,by go_num,hV6⟩
  ·have hrs:rbs.length=sz:=by omega
   have hnl:(List.replicate rbs.length (List.replicate n false)).length=sz:=by rw[List.length_replicate];exact hrs
   have hS0:=Lx.SndB.none P row nT rbs.length n;rw[hrs]at hV y6 hS0|-;generalize List.replicate sz (List.replicate n false)=bm0 at hV hS0;have hbl0:bm0.length=sz:=by have:=hV.beg.len;omega
   obtain⟨gB,bcap,rr,hvB,-⟩:=hV.cell (s:=0) (i:=0) (by omega) (by omega);rw[hbl0]at hvB;cases hvB;obtain⟨cs,hcs⟩:∃cs:Array Value,cs=#[.slice ta nT tc,.slice na nN nc,.slice (some ⟨gP,0,none⟩) P.length pc,.slice ba nb bc,.slice ka nk kc,.slice ra row.length rc,.slice (some ⟨gB,0,none⟩) sz vc]:=⟨_,rfl⟩;rw[<-hcs]at hV;have HC:Hid (∀wx:World,aj wx w0.heap.size cs 60->wx.cell? ⟨w0.heap.size,0,none⟩=some (.slice ta nT tc)/\wx.cell? ⟨w0.heap.size,2,none⟩=some (.slice (some ⟨gP,0,none⟩) P.length pc)/\wx.cell? ⟨w0.heap.size,5,none⟩=some (.slice ra row.length rc)/\wx.cell? ⟨w0.heap.size,6,none⟩=some (.slice (some ⟨gB,0,none⟩) sz vc)):=fun wx h=>by
    subst hcs;exact⟨h.cell 0,h.cell 2,h.cell 5,h.cell 6⟩
   have i1:¬(sz:Int)<(sz:Int):=by omega
   clear hcs y6 hlt hlx hnl;clear hx hx1 hb1 hb01 hw hsw;go_wp2_with fail;clear i1
   go_loopg [6] (Lx.cntM bm0+1) (fun m mv wr=>∃(bm:List (List Bool))(more:Bool),Lx.cntM bm+more.toNat=m/\mv=.bool more/\bm.length=sz/\VM w0 wr cs (.slice (some ⟨gB,0,none⟩) sz vc) n rbs bm/\Hid (Lx.SndB P row nT bm/\(more=false->∀k i,k<P.length->i<=row.length->Lx.ClsA P row nT bm k i)))
   case atStart=>exact⟨bm0,true,rfl,rfl,hbl0,hV,hS0,fun e=>by cases e⟩
   case round=>
    clear hV hS0 hbl0;revert wr;intro wy hrel;obtain⟨bmA,more,Bj,rfl,hblA,hVA,HA⟩:=hrel;cases more with
    |false=>
     have hns:nT<sz:=by omega
     obtain⟨r,c1,c2,-,-⟩:=hVA.at hblA hns (i:=0) (by omega);obtain⟨b0,b2,b5,b6⟩:=HC.out wy hVA.box;have i1:(0:Int)<=(nT:Int):=by omega
     have i2:(nT:Int)<(sz:Int):=by omega
     have i3:(0:Int)<(n:Int):=by omega
     go_upto_region 30 with fail
     go_quiet (fail)
     go_wp2_with fail;go_ret;exact⟨_,rfl,(hVA.drewN _).bel,fun h=>HA.out.1 nT 0 h,fun h=>Lx.via_closed (HA.out.2 (by simp)) h⟩
    |true=>
     have Ik:Hid (Lx.Pas P row nT bmA bmA false 0 0):=Lx.Pas.first HA.out.1;clear HA;go_wp2_with fail
     go_loopg [6,7] P.length (fun m mv kv wr=>∃(k:Nat)(bm:List (List Bool))(more:Bool),k+m=P.length/\kv=.int .i64 (k:Int)/\mv=.bool more/\bm.length=sz/\VM w0 wr cs (.slice (some ⟨gB,0,none⟩) sz vc) n rbs bm/\Hid (Lx.Pas P row nT bmA bm more k 0))
     case atStart=>exact⟨0,bmA,false,by omega,rfl,rfl,hblA,hVA,Ik⟩
     case round=>
      clear Ik hVA;revert wr;intro wz hrel;obtain⟨k,bmK,moreK,hkk,rfl,rfl,hblK,hVK,HK⟩:=hrel;obtain⟨b0,b2,b5,b6⟩:=HC.out wz hVK.box
      by_cases hlt:k<P.length
      ·obtain⟨gP',pcap',u,hvp,hu,cl,cr,-⟩:=hP.atS hlt
       cases hvp;obtain⟨ua,uc,rfl,hum⟩:∃a c,u=Value.slice a P[k].right.length c/\P[k].right.length<=maxLen:=aF hu;have hA:P[k]?.map Lx.Pd.left=some P[k].left:=by rw[List.getElem?_eq_getElem hlt];rfl
       have hAl:P[k].left<sz:=hp.lft _ (List.getElem_mem hlt);have hrr:Lx.qD P k=P[k].right:=Ep hlt;have hrl:P[k].right.length<=2002:=hp.rgt _ (List.getElem_mem hlt);have hsy:∀s∈P[k].right,s<sz:=fun s hs=>(hp.sym _ (List.getElem_mem hlt) s hs).1
       have HSy:Hid (∀s∈P[k].right,s<sz):=hsy;have HRr:Hid (Lx.qD P k=P[k].right):=hrr;have HAl:Hid (P[k]?.map Lx.Pd.left=some P[k].left):=hA;clear hA hrr hsy;generalize P[k].left=A at cl hAl HAl;generalize P[k].right=r at hu cr hum HRr hrl HSy;have dl:=jS hVK.bel cl;have dr:=jS hVK.bel cr;have i1:(0:Int)<=(k:Int):=by omega
       have i2:(k:Int)<(P.length:Int):=by omega
       go_wp2_with fail;clear dl dr b0 b2 b5 b6
       go_loopg [6,10] n (fun m mv iv wr=>∃(i:Nat)(bm:List (List Bool))(more:Bool),i+m=n/\iv=.int .i64 (i:Int)/\mv=.bool more/\bm.length=sz/\VM w0 wr cs (.slice (some ⟨gB,0,none⟩) sz vc) n rbs bm/\Hid (Lx.Pas P row nT bmA bm more k i))
       case atStart=>exact⟨0,bmK,moreK,by omega,rfl,rfl,hblK,hVK,HK⟩
       case round=>
        clear HK hVK hblK;revert wr;intro wi hrel;obtain⟨i,bmI,moreI,hki,rfl,rfl,hblI,hVI,HI⟩:=hrel;obtain⟨b0,b2,b5,b6⟩:=HC.out wi hVI.box
        by_cases hlti:i<n
        ·obtain⟨q,c1,c2,-,-⟩:=hVI.at hblI hAl hlti
         have j1:(0:Int)<=(i:Int):=by omega
         have j2:(i:Int)<(n:Int):=by omega
         have j3:(0:Int)<=(A:Int):=by omega
         have j4:(A:Int)<(sz:Int):=by omega
         cases jw:Lx.bAt bmI A i with
         |true=>
          rw[jw]at c2;have HI2:Hid (Lx.Pas P row nT bmA bmI moreI k (i+1)):=HI.out.nextI (Lx.ClsA.has HAl.out jw);clear jw HI;go_wp2_with fail;go_roundg (n - (i+1))
          case measure=>omega
          case rel=>exact⟨i+1,bmI,moreI,by omega,by go_num,rfl,hblI,hVI,HI2⟩
         |false=>
          rw[jw]at c2;have HbA:Hid (Lx.bAt bmI A i=false):=jw;clear jw;have HD0:Hid (∀d',d'<0->¬Lx.OkD P row nT bmI k i d'):=fun d' h=>absurd h (Nat.not_lt_zero _)
          go_wp2_with fail;clear c1 c2 b0 b2 b5 b6
          go_loopg [6,11] (r.length+1) (fun m mv dv wr=>∃(d:Nat),d+m=r.length+1/\dv=.int .i64 (d:Int)/\mv=.bool moreI/\VM w0 wr cs (.slice (some ⟨gB,0,none⟩) sz vc) n rbs bmI/\Hid (∀d',d'<d->¬Lx.OkD P row nT bmI k i d'))
          case atStart=>exact⟨0,by omega,rfl,rfl,hVI,HD0⟩
          case round=>
           clear HD0 hVI;revert wr;intro wd hrel;obtain⟨d,hkd,rfl,rfl,hVD,HD⟩:=hrel;obtain⟨b0,b2,b5,b6⟩:=HC.out wd hVD.box;obtain⟨e,he⟩:∃e,e=i+d:=⟨_,rfl⟩;have hwe:IntKind.i64.wrap ((i:Int)+(d:Int))=(e:Int):=by rw[IntKind.wrap_i64];omega
           have HE:Hid (e=i+d):=he;clear he;have hwn:IntKind.i64.wrap ((n:Int) - 1)=(row.length:Int):=by rw[IntKind.wrap_i64];omega
           by_cases hd1:d<=r.length
           case neg=>
            have m1:((d:Int)<=(r.length:Int))=False:=eq_false (by omega);have HI2:Hid (Lx.Pas P row nT bmA bmI moreI k (i+1)):=HI.out.nextI (Lx.ClsA.all HD.out (.inl (by rw[HRr.out];omega)));clear HD HI hwn;go_wp2_with fail;go_roundg (n - (i+1))
            case measure=>omega
            case rel=>exact⟨i+1,bmI,moreI,by omega,by go_num,rfl,hblI,hVD,HI2⟩
           case pos=>
            by_cases hd2:e<n
            case neg=>
             have m1:((d:Int)<=(r.length:Int))=True:=eq_true (by omega);have m2:((e:Int)<(n:Int))=False:=eq_false (by omega);have HI2:Hid (Lx.Pas P row nT bmA bmI moreI k (i+1)):=HI.out.nextI (Lx.ClsA.all HD.out (.inr (by have:=HE.out;omega)));clear HD HI hwn;go_wp2_with fail;go_roundg (n - (i+1))
             case measure=>omega
             case rel=>exact⟨i+1,bmI,moreI,by omega,by go_num,rfl,hblI,hVD,HI2⟩
            case pos=>
             have m1:((d:Int)<=(r.length:Int))=True:=eq_true (by omega);have m2:((e:Int)<(n:Int))=True:=eq_true (by omega);have HSt:Hid (e<n/\e=i+d/\d<=r.length):=⟨hd2,HE.out,hd1⟩;have H4:(e=row.length)\/(¬e=row.length/\r.length<=d)\/(∃(gU:Nat)(B:Nat),¬e=row.length/\d<r.length/\B<nT/\r[d]?=some B/\ua=some ⟨gU,0,none⟩/\wd.cell? ⟨gU,d,none⟩=some (.int .i64 (B:Int)))\/(∃(gU:Nat)(B q:Nat),¬e=row.length/\d<r.length/\nT<=B/\B<sz/\r[d]?=some B/\ua=some ⟨gU,0,none⟩/\wd.cell? ⟨gU,d,none⟩=some (.int .i64 (B:Int))/\wd.cell? ⟨gB,B,none⟩=some (.slice (some ⟨q,0,none⟩) n n)/\wd.cell? ⟨q,e,none⟩=some (.bool (Lx.bAt bmI B e))):=by
              by_cases h1:e=row.length
              ·exact .inl h1
              ·by_cases h2:d<r.length
               ·obtain⟨gU,ZJ,hvu,-,cU⟩:=hu.at h2
                cases hvu;have cU':=jS hVD.bel cU
                by_cases h3:r[d]<nT
                ·exact .inr (.inr (.inl ⟨gU,r[d],h1,h2,h3,List.getElem?_eq_getElem h2,rfl,cU'⟩))
                ·obtain⟨q,k1,k2,-,-⟩:=hVD.at hblI (HSy.out r[d] (List.getElem_mem h2)) hd2
                 exact .inr (.inr (.inr ⟨gU,r[d],q,h1,h2,by omega,HSy.out r[d] (List.getElem_mem h2),List.getElem?_eq_getElem h2,rfl,cU',k1,k2⟩))
               ·exact .inr (.inl ⟨h1,by omega⟩)
             clear hd1 hd2;rcases H4 with h|h|h|h
             case' inl=>
              have HJ0:Hid (Lx.OkJ P row nT bmI k i d true 0):=Lx.OkJ.fin (by have:=HE.out;omega);subst h;go_upto_region 22 with fail
              go_quiet (fail)
             case' inr.inl=>
              obtain⟨h1,h2⟩:=h;have n1:((e:Int) == (row.length:Int))=false:=beq_eq_false_iff_ne.2 (by omega);have n2:¬(e:Int)=(row.length:Int):=by omega
              have n2':¬e=row.length:=by omega
              have n2'':(e == row.length)=false:=beq_eq_false_iff_ne.2 (by omega);have n3:((d:Int)<(r.length:Int))=False:=eq_false (by omega);have HJ0:Hid (Lx.OkJ P row nT bmI k i d false 0):=Lx.OkJ.far (by have:=HE.out;omega) (by rw[HRr.out];exact h2);clear h1 h2;go_upto_region 22 with fail
              go_quiet (fail)
             case' inr.inr.inl=>
              obtain⟨gU,B,h1,h2,h3,h4,rfl,cU⟩:=h;have n1:((e:Int) == (row.length:Int))=false:=beq_eq_false_iff_ne.2 (by omega);have n2:¬(e:Int)=(row.length:Int):=by omega
              have n2':¬e=row.length:=by omega
              have n2'':(e == row.length)=false:=beq_eq_false_iff_ne.2 (by omega);have n3:(d:Int)<(r.length:Int):=by omega
              have n4:(0:Int)<=(d:Int):=by omega
              have n5:((nT:Int)<=(B:Int))=False:=eq_false (by omega);have HJ0:Hid (Lx.OkJ P row nT bmI k i d false 0):=Lx.OkJ.tok (by have:=HE.out;omega) (by rw[HRr.out];exact h4) h3;clear h1 h2 h3 h4;go_upto_region 22 with fail
              go_quiet (fail)
             case' inr.inr.inr=>
              obtain⟨gU,B,q,h1,h2,h3,h3',h4,rfl,cU,c1,c2⟩:=h;have n1:((e:Int) == (row.length:Int))=false:=beq_eq_false_iff_ne.2 (by omega);have n2:¬(e:Int)=(row.length:Int):=by omega
              have n2':¬e=row.length:=by omega
              have n2'':(e == row.length)=false:=beq_eq_false_iff_ne.2 (by omega);have n3:(d:Int)<(r.length:Int):=by omega
              have n4:(0:Int)<=(d:Int):=by omega
              have n5:(nT:Int)<=(B:Int):=by omega
              have n6:(0:Int)<=(B:Int):=by omega
              have n7:(B:Int)<(sz:Int):=by omega
              have n8:(0:Int)<=(e:Int):=by omega
              have n9:(e:Int)<(n:Int):=by have:=HSt.out;omega
              have HJ0:Hid (Lx.OkJ P row nT bmI k i d (Lx.bAt bmI B e) 0):=by rw[HE.out];exact Lx.OkJ.sub (by have:=HE.out;omega) (by rw[HRr.out];exact h4) h3
              clear h1 h2 h3 h3' h4;generalize Lx.bAt bmI B e=bv at c2 HJ0;go_upto_region 22 with fail
              go_quiet (fail)
             all_goals
              have hVQ:=hVD.drewN nq;obtain⟨wj,hwj⟩:∃V,V=wd.drewN nq:=⟨_,rfl⟩;rw[<-hwj]at hVQ|-;clear hwj hVD b0 b2 b5 b6 m1 m2;go_wp2_with fail
              go_loopg [12,13] d (fun m ov jv wr=>∃(j:Nat)(b:Bool),j+m=d/\jv=.int .i64 (j:Int)/\ov=.bool b/\VM w0 wr cs (.slice (some ⟨gB,0,none⟩) sz vc) n rbs bmI/\Hid (Lx.OkJ P row nT bmI k i d b j))
              case atStart=>exact⟨0,_,by omega,rfl,rfl,hVQ,HJ0⟩
              case round=>
               clear hVQ HJ0;revert wr;intro wq hrel;obtain⟨j,b,hkj,rfl,rfl,hVJ,HJ⟩:=hrel;obtain⟨b0,b2,b5,b6⟩:=HC.out wq hVJ.box;have hst:=HSt.out;cases b with
               |false=>
                have HD2:Hid (∀d',d'<d+1->¬Lx.OkD P row nT bmI k i d'):=Lx.OkD.next HD.out (HJ.out.no rfl);clear HJ HD b0 b2 b5 b6
                by_cases hj:j<d
                ·have m1:((j:Int)<(d:Int))=True:=eq_true (by omega)
                 clear hst;go_wp2_with fail;go_roundg (r.length+1 - (d+1))
                 case measure=>have:=HSt.out;omega
                 case rel=>exact⟨d+1,by have:=HSt.out;omega,by go_num,rfl,hVJ,HD2⟩
                ·have m1:((j:Int)<(d:Int))=False:=eq_false (by omega)
                 clear hst;go_wp2_with fail;go_roundg (r.length+1 - (d+1))
                 case measure=>have:=HSt.out;omega
                 case rel=>exact⟨d+1,by have:=HSt.out;omega,by go_num,rfl,hVJ,HD2⟩
               |true=>
                by_cases hj:j<d
                ·obtain⟨a9,c9,hv9,-,hcell⟩:=id hR
                 cases hv9;obtain⟨gR,oR,hra,-,cR⟩:=hcell (i+j) (by omega);subst hra;obtain⟨gU,ZJ,hvu,-,cU⟩:=hu.at (j:=j) (by omega);cases hvu;have HJ2:=HJ.out.step hj (by rw[HRr.out];exact List.getElem?_eq_getElem (by omega)) (List.getElem?_eq_getElem (by omega));have dR:=jS hVJ.bel cR;have dU:=jS hVJ.bel cU;clear cR cU hcell;generalize row[i+j]=z at dR HJ2;generalize r[j]=nn at dU HJ2;obtain⟨q,hq⟩:∃q,q=i+j:=⟨_,rfl⟩;have hwq:IntKind.i64.wrap ((i:Int)+(j:Int))=(q:Int):=by rw[IntKind.wrap_i64];omega
                 rw[<-hq]at dR;have m1:((j:Int)<(d:Int))=True:=eq_true (by omega);have m2:(0:Int)<=(q:Int):=by omega
                 have m3:(q:Int)<(row.length:Int):=by omega
                 have m4:(0:Int)<=(j:Int):=by omega
                 have m5:(j:Int)<(r.length:Int):=by omega
                 have HJ3:Hid (Lx.OkJ P row nT bmI k i d (z == (nn:Int)) (j+1)):=HJ2;clear HJ2 HJ hq hst;go_upto_region 26 with fail
                 go_quiet (fail)
                 go_wp2_with fail;go_roundg (d - (j+1))
                 case measure=>omega
                 case rel=>exact⟨j+1,_,by omega,by go_num,rfl,hVJ.drewN _,HJ3⟩
                ·obtain rfl:j=d:=by omega
                 obtain⟨q,c1,c2,c3,hV2⟩:=hVJ.at hblI hAl hlti;have HO:Hid (Lx.Pas P row nT bmA (Lx.setB bmI A i) true k (i+1)):=HI.out.put HAl.out (by omega) (by rw[hVJ.lnr (by omega)];exact hlti) HbA.out (HJ.out.done (by rw[HRr.out];omega) (by omega));have hbl2:(Lx.setB bmI A i).length=sz:=by rw[Lx.setB_len];exact hblI
                 have m1:((j:Int)<(j:Int))=False:=eq_false (by omega);clear HJ HI HD hst;go_wp2_with fail;go_roundg (n - (i+1))
                 case measure=>omega
                 case rel=>exact⟨i+1,_,true,by omega,by go_num,rfl,hbl2,hV2,HO⟩
        ·obtain rfl:i=n:=by omega
         have HI2:Hid (Lx.Pas P row nT bmA bmI moreI (k+1) 0):=Lx.Pas.nextK (by rw[hnd];exact HI.out);clear HI;have m1:((i:Int)<(i:Int))=False:=eq_false (by omega);go_wp2_with fail;go_roundg (P.length - (k+1))
         case measure=>omega
         case rel=>exact⟨k+1,bmI,moreI,by omega,by go_num,rfl,hblI,hVI,HI2⟩
      ·obtain rfl:k=P.length:=by omega
       have m1:((P.length:Int)<(P.length:Int))=False:=eq_false (by omega);have hcm:Lx.cntM bmK+moreK.toNat<Lx.cntM bmA+true.toNat:=by
        cases moreK with
        |false=>rw[(HK.out.gM rfl).1];simp
        |true=>have:=HK.out.yes rfl;simp;omega
       have HK2:Hid (Lx.SndB P row nT bmK/\(moreK=false->∀k i,k<P.length->i<=row.length->Lx.ClsA P row nT bmK k i)):=⟨HK.out.snd,fun e=>by subst e;exact(HK.out.gM rfl).2⟩;clear HK;go_wp2_with fail;go_roundg (Lx.cntM bmK+moreK.toNat)
       case measure=>omega
       case rel=>exact⟨bmK,moreK,rfl,rfl,hblK,hVK,HK2⟩
end
end Go.Proofs.YtjaalkocdbkdeaaGreatDoor
