import Derived.Test.YtlcppnabbicmoaaGreatDoorME30
import Derived.Test.YtlcppnabbicmoaaGreatDoorME31
import Derived.BigQuiet
import Derived.Deep.RegionHeld3
set_option maxHeartbeats 8000000
set_option maxRecDepth 1000000
namespace Go.Proofs.YtlcppnabbicmoaaGreatDoor
section
open Go.RowKit
open Tr
section
variable {D G:Nat -> Prop} {w w':World} {mb H:Nat} {ta:Option Addr} {nT tc:Nat} {vP vB vK vS:Value} {N:List ByteArray} {f:Addr -> Int}
theorem Nm.call (h:Nm D w mb H ta nT tc vP vB vK vS N G f) (hT:nT<=100000) (hN:N.length<=100000) (s:ByteArray) :
  Calls Tryz.prog 100 #[.pointer (some ⟨mb,0,none⟩),.string s] w fun e w'=>e=.returned (.int .i64 ((nT+N.length:Nat):Int))/\Nm D w' mb H ta nT tc vP vB vK vS (N++[s]) G f/\Kp D w w':=by
 obtain⟨vN,h1,h2,h3⟩:=h.ex;refine (addName_any h1 h2 (fun e=>(h3 mb e).2.1 rfl) hT hN s).mono ?_;rintro e w' ⟨rfl,v3,hp⟩;exact⟨rfl,h.named h1 hp⟩
theorem Nm.cell6 (h:Nm D w mb H ta nT tc vP vB vK vS N G f):w.cell? ⟨mb,6,none⟩=some (.map (some H))/\w.cell? ⟨mb,5,none⟩=some vS:=by
 obtain⟨vN,h1,-⟩:=h.ex;exact⟨h1.cell 6,h1.cell 5⟩
end
theorem kp_blk {D:Nat->Prop}{w w':World}{g:Nat}{cs:Array Value}{t:Nat}(h:Blk w g cs t)(hk:Kp D w w')(hg:D g):Blk w' g cs t:=(hk.block g hg).trans h
structure ClosP (D G:Nat->Prop) (w:World) (mb H cb:Nat) (ta:Option Addr) (nT tc:Nat) (vP vB vK vS:Value) (N:List ByteArray) (f:Addr->Int) (k:Nat) (w':World):Prop where
 nm:Nm D w' mb H ta nT tc vP vB vK vS N G f
 ct:Blk w' cb #[.int .i64 (k:Int)] 3
 kp:Kp (fun g=>D g/\g≠cb) w w'
theorem addNames1_any {D G:Nat->Prop} {w:World} {mb H cb xb rb:Nat} {ta:Option Addr} {nT tc:Nat} {vP vB vK vS va:Value} {N:List ByteArray} {f:Addr->Int} {k:Nat} {nm:ByteArray} (h:Nm D w mb H ta nT tc vP vB vK vS N G f) (hC:Blk w cb #[.int .i64 (k:Int)] 3) (hX:Blk w xb #[.pointer (some ⟨mb,0,none⟩)] 190) (hR:Blk w rb #[.string nm,va] 179)
  (dC:D cb) (dX:D xb) (dR:D rb) (hcx:xb≠cb) (hcr:rb≠cb) (ht:Tab w) (_:D tabB) (htc:tabB≠cb) (hG:∀ b,G b->D b/\b≠cb/\CellsB w b) {a:Addr} (ha:G a.block) (bT:nT<=100000) (bN:N.length<=100000) (bk:k<=50000) (bs:nm.size<=2000) :
  Calls Tryz.prog 102 #[.pointer (some a),.pointer (some ⟨cb,0,none⟩),.pointer (some ⟨xb,0,none⟩),.pointer (some ⟨rb,0,none⟩)] w fun e w'=>e=.returned (.tuple #[])/\ClosP D G w mb H cb ta nT tc vP vB vK vS (N++[Lx.hName nm (k+1)]) (fun c=>if c=a then ((nT+N.length:Nat):Int) else f c) (k+1) w':=by
 obtain⟨k1,hk1,HK⟩:∃ k1:Nat,IntKind.i64.wrap ((k:Int)+1)=(k1:Int)/\Hid (k1=k+1):=⟨k+1,by rw[show ((k:Int)+1)=((k+1:Nat):Int) from by omega];exact wrap64 (by omega),rfl⟩;have c0:w.cell? ⟨cb,0,none⟩=some (.int .i64 (k:Int)):=hC.cell 0;have f0:∀ i,w.frozen? ⟨cb,i,none⟩=false:=hC.frozen;obtain⟨W,hW⟩:∃ W,W=w.setCell ⟨cb,0,none⟩ (.int .i64 (k1:Int)):=⟨_,rfl⟩;have bkW:∀ g,g≠cb->W.heap[g]?=w.heap[g]?:=fun g hg=>by rw[hW];exact Below.heap_setCell _ _ _ _ hg
 have hsW:W.heap.size=w.heap.size:=by rw[hW];simp[World.setCell]
 have hkW:Kp (fun g=>D g/\g≠cb) w W:=⟨by rw[hW];rfl,by rw[hW];rfl,by rw[hW];rfl,by omega,fun g hg=>bkW g hg.2⟩;have nW:Nm D W mb H ta nT tc vP vB vK vS N G f:=h.other (fun g _ hd=>bkW g fun e=>hd (e ▸ dC)) (by omega);have kC:Blk W cb #[.int .i64 (k1:Int)] 3:=by rw[hW];exact hC.set 0 _
 have kX:Blk W xb _ 190:=(bkW xb hcx).trans hX;have kR:Blk W rb _ 179:=(bkW rb hcr).trans hR;have tW:Tab W:=ht.move (bkW tabB htc);have hGW:∀ b,G b->D b/\CellsB W b:=fun b hb=>⟨(hG b hb).1,(hG b hb).2.2.move (bkW b (hG b hb).2.1)⟩
 have qI:=Itoa_any (w:=W.drew) (tW.move rfl) k1 (by have:=HK.out;omega);have d0:W.drew.cell? ⟨cb,0,none⟩=some (.int .i64 (k1:Int)):=kC.drew.cell 0;have dx:W.drew.cell? ⟨xb,0,none⟩=some (.pointer (some ⟨mb,0,none⟩)):=kX.drew.cell 0;have dr:W.drew.cell? ⟨rb,0,none⟩=some (.string nm):=kR.drew.cell 0;have nWd:Nm D W.drew mb H ta nT tc vP vB vK vS N G f:=nW.other (fun _ _ _=>rfl) (Nat.le_refl _);have d6:=nWd.cell6.1;have hds:(Lx.decB k1).size<=50002:=Nat.le_trans (decB_size k1) (by have:=HK.out;omega);have HHN:Hid (Lx.hName nm (k+1)=nm++⟨#[39]⟩++Lx.decB k1):=by rw[HK.out];rfl
 generalize Lx.decB k1=db at HHN hds qI;have hz1:¬ 9223372036854775807<nm.size+1:=by omega
 have hz2:¬ 9223372036854775807<nm.size+1+db.size:=by omega
 have dXw:D xb/\D rb/\D cb:=⟨dX,dR,dC⟩;clear h hC hX hR ht hG bkW nW tW;go_enter Tryz.func102,Tryz.ntmps102;go_wp2_with fail;rw[<-hW];clear hW c0 f0
 go_region_held3 (fun w'=>w'.cell? ⟨cb,0,none⟩=some (.int .i64 (k1:Int))/\w'.cell? ⟨xb,0,none⟩=some (.pointer (some ⟨mb,0,none⟩))/\w'.cell? ⟨rb,0,none⟩=some (.string nm)/\w'.cell? ⟨mb,6,none⟩=some (.map (some H))) (first | go_keep | assumption) (first | (go_at_call 103;refine qI.mono ?_;rintro e w3 ⟨rfl,hb3⟩;obtain⟨n3,hk3⟩:=nWd.below hb3;have S3:w3.cell? ⟨cb,0,none⟩=some (.int .i64 (k1:Int))/\w3.cell? ⟨xb,0,none⟩=some (.pointer (some ⟨mb,0,none⟩))/\w3.cell? ⟨rb,0,none⟩=some (.string nm)/\w3.cell? ⟨mb,6,none⟩=some (.map (some H)):=⟨(kp_blk kC.drew hk3 dC).cell 0,(kp_blk kX.drew hk3 dX).cell 0,(kp_blk kR.drew hk3 dR).cell 0,n3.cell6.1⟩;have q3:=n3.call bT bN (nm++⟨#[39]⟩++db)) | (go_at_call 100;refine q3.mono ?_;rintro e w4 ⟨rfl,n4,hk4⟩;have S4:w4.cell? ⟨cb,0,none⟩=some (.int .i64 (k1:Int))/\w4.cell? ⟨xb,0,none⟩=some (.pointer (some ⟨mb,0,none⟩))/\w4.cell? ⟨rb,0,none⟩=some (.string nm)/\w4.cell? ⟨mb,6,none⟩=some (.map (some H)):=⟨(kp_blk (kp_blk kC.drew hk3 dC) hk4 dC).cell 0,(kp_blk (kp_blk kX.drew hk3 dX) hk4 dX).cell 0,(kp_blk (kp_blk kR.drew hk3 dR) hk4 dR).cell 0,n4.cell6.1⟩;obtain⟨w5,hu5,hM5,hg5,hs5⟩:=PMap.put n4.pm (fun b hb=>((hGW b hb).2.move (w':=W.drew) rfl).move ((hk4.block b (hGW b hb).1).trans (hk3.block b (hGW b hb).1))) ha ((nT:Int)+(N.length:Int));obtain⟨n5,hk5⟩:=n4.putH hM5 hg5;have S5:w5.cell? ⟨cb,0,none⟩=some (.int .i64 (k1:Int))/\w5.cell? ⟨xb,0,none⟩=some (.pointer (some ⟨mb,0,none⟩))/\w5.cell? ⟨rb,0,none⟩=some (.string nm)/\w5.cell? ⟨mb,6,none⟩=some (.map (some H)):=⟨(kp_blk (kp_blk (kp_blk kC.drew hk3 dC) hk4 dC) hk5 dC).cell 0,(kp_blk (kp_blk (kp_blk kX.drew hk3 dX) hk4 dX) hk5 dX).cell 0,(kp_blk (kp_blk (kp_blk kR.drew hk3 dR) hk4 dR) hk5 dR).cell 0,n5.cell6.1⟩))
 go_wp2_with fail
 go_end0
 rw[HHN.out,<-HK.out];have en:((nT+N.length:Nat):Int)=(nT:Int)+(N.length:Int):=by omega
 rw[en];refine⟨rfl,n5,kp_blk (kp_blk (kp_blk kC.drew hk3 dC) hk4 dC) hk5 dC,?_⟩;have hkd:Kp (fun g=>D g/\g≠cb) w W.drew:=⟨hkW.os,hkW.tape,hkW.output,hkW.size,hkW.block⟩;exact ((hkd.trans hk3 fun g hg=>hg.1).trans hk4 fun g hg=>hg.1).trans hk5 fun g hg=>hg.1
end
section
open Go Go.RowKit
namespace Lx
theorem fix_app {A R:List ByteArray}{b:ByteArray}(h:b ∉ A):fix (A++b::R) b=A.length:=by
 refine fix_at (by simp) fun i hi e=>h ?_
 rw[List.getElem?_append_left hi]at e;exact List.mem_of_getElem? e
def nms (rs:List Rl):List ByteArray:=tStart::rs.flatMap namesR
theorem nms_succ {rs:List Rl}{j:Nat}(hj:j<rs.length):nms (rs.take (j+1))=nms (rs.take j)++namesR rs[j]:=by
 unfold nms;rw[List.take_succ_eq_append_getElem hj,List.flatMap_append,List.cons_append];simp
theorem nms_split {rs:List Rl}{j:Nat}(hj:j<rs.length):∃ R,nms rs=nms (rs.take j)++rs[j].name::R:=by
 refine⟨(List.range (hlpA 9 rs[j].alts).length).map (fun k=>hName rs[j].name (k+1))++(rs.drop (j+1)).flatMap namesR,?_⟩;have e:rs=rs.take j++rs[j]::rs.drop (j+1):=by rw[<-List.drop_eq_getElem_cons hj,List.take_append_drop]
 unfold nms
 conv=>lhs;rw[e]
 rw[List.flatMap_append,List.flatMap_cons];simp[namesR]
theorem name_all {b:ByteArray}(h:isName b=true):∀ c∈b.data.toList,(small (c.toNat:Int) || digit (c.toNat:Int))=true:=by
 unfold isName isWord allOf at h;simp only[Bool.and_eq_true,List.all_eq_true]at h;exact h.2
theorem name_size {b:ByteArray}(h:isName b=true):b.size<=12:=by
 unfold isName isWord at h;simp only[Bool.and_eq_true,decide_eq_true_eq]at h;exact h.1.1.2
theorem token_size {b:ByteArray}(h:isToken b=true):b.size<=12:=by
 unfold isToken isWord at h;simp only[Bool.and_eq_true,decide_eq_true_eq]at h;exact h.1.1.2
theorem hName_no {b c:ByteArray}{k:Nat}(h:isName c=true):hName b k≠c:=by
 intro e;have hm:(39:UInt8)∈c.data.toList:=by
  rw[<-e];unfold hName tTick;simp
 have:=name_all h 39 hm;revert this;decide
theorem start_no {c:ByteArray}(h:isName c=true):tStart≠c:=by
 intro e;rw[<-e]at h;revert h;decide
theorem tok_not_name {b:ByteArray}(h:isToken b=true):isName b=false:=by
 unfold isToken isName isWord at *;simp only[Bool.and_eq_true,decide_eq_true_eq]at h;have h1:=h.1.2;have:small (byteAt b 0)=false:=by
  unfold capital at h1;unfold small;simp only[decide_eq_true_eq]at h1;simp only[decide_eq_false_iff_not];omega
 rw[this];simp
theorem name_notin {rs:List Rl}(hn:∀ r∈rs,isName r.name=true)(nd:(rs.map Rl.name).Nodup){j:Nat}(hj:j<rs.length):rs[j].name ∉ nms (rs.take j):=by
 have hj1:=hn rs[j] (List.getElem_mem hj);intro h;rcases List.mem_cons.1 h with h | h
 ·exact start_no hj1 h.symm
 ·obtain⟨r,hr,h⟩:=List.mem_flatMap.1 h
  unfold namesR at h;rcases List.mem_cons.1 h with h | h
  ·obtain⟨i,hi,rfl⟩:=List.getElem_of_mem hr
   rw[List.length_take]at hi;rw[List.getElem_take]at h;have hinj:=List.pairwise_iff_getElem.1 nd i j (by simp;omega) (by simpa using hj) (by omega);simp only[List.getElem_map]at hinj;exact hinj h.symm
  ·obtain⟨k,-,e⟩:=List.mem_map.1 h
   exact hName_no hj1 e
theorem fix_nms {rs:List Rl}(hn:∀ r∈rs,isName r.name=true)(nd:(rs.map Rl.name).Nodup){j:Nat}(hj:j<rs.length):fix (nms rs) rs[j].name=(nms (rs.take j)).length:=by
 obtain⟨R,e⟩:=nms_split hj;rw[e];exact fix_app (name_notin hn nd hj)
end Lx
end
section
open Go.RowKit
open Tr
theorem callF_101 (ar:Array Value)(w:World):(callFunc 101 ar).run Tryz.prog w=.ok (.enter 101 ar) w:=by kernel_rfl
theorem callF_102 (ar:Array Value)(w:World):(callFunc 102 ar).run Tryz.prog w=.ok (.enter 102 ar) w:=by kernel_rfl
def hlA (w:World)(v:Value)(l:List Lx.Alt):List AI:=(adA 9 w v l).filter fun p=>Lx.hlp p.2
theorem hlA_len {F:Nat->Prop}{w:World}{v:Value}{l:List Lx.Alt}(h:AltsIn YP 9 F w v l):(hlA w v l).length=(Lx.hlpA 9 l).length:=by
 unfold hlA Lx.hlpA;rw[<-adA_snd h,List.filter_map,List.length_map];rfl
theorem hlA_snd {F:Nat->Prop}{w:World}{v:Value}{l:List Lx.Alt}(h:AltsIn YP 9 F w v l):(hlA w v l).map Prod.snd=Lx.hlpA 9 l:=by
 unfold hlA Lx.hlpA;rw[<-adA_snd h,List.filter_map];rfl
theorem eachNames_any {D F G:Nat->Prop} {w:World} {mb H cb xb rb:Nat} {ta:Option Addr} {nT tc:Nat} {vP vB vK vS va:Value} {N:List ByteArray} {f:Addr->Int} {nm:ByteArray} {l:List Lx.Alt} (h:Nm D w mb H ta nT tc vP vB vK vS N G f) (hC:Blk w cb #[.int .i64 0] 3) (hX:Blk w xb #[.pointer (some ⟨mb,0,none⟩)] 190) (hR:Blk w rb #[.string nm,va] 179)
  (dC:D cb) (dX:D xb) (dR:D rb) (hcx:xb≠cb) (hcr:rb≠cb) (ht:Tab w) (dT:D tabB) (htc:tabB≠cb) (hG:∀ b,G b->D b/\b≠cb/\CellsB w b) (hF:∀ b,F b->D b/\b≠cb) (hA:AltsIn YP 9 F w va l) (hGA:∀ p∈adA 9 w va l,G p.1.block) (nd:((adA 9 w va l).map Prod.fst).Nodup) (bT:nT<=100000) (bN:N.length+(hlA w va l).length<=50000) (bs:nm.size<=2000) :
  Calls Tryz.prog 94 #[va,.func (.func 101) #[] #[],.func (.func 102) #[] #[.pointer (some ⟨cb,0,none⟩),.pointer (some ⟨xb,0,none⟩),.pointer (some ⟨rb,0,none⟩)]] w fun e w'=>e=.returned (.tuple #[])/\∃ f',Nm D w' mb H ta nT tc vP vB vK vS (N++hNames nm (hlA w va l).length) G f'/\Kp (fun g=>D g/\g≠cb) w w'/\Tells (nT+N.length) (hlA w va l) f f':=by
 have hnd:((hlA w va l).map Prod.fst).Nodup:=nd.sublist (List.filter_sublist.map _);have q:=eachT_at 9 101 102 #[] #[.pointer (some ⟨cb,0,none⟩),.pointer (some ⟨xb,0,none⟩),.pointer (some ⟨rb,0,none⟩)] Lx.hlp F w (fun L w'=>∃ f',Nm D w' mb H ta nT tc vP vB vK vS (N++hNames nm L.length) G f'/\Blk w' cb #[.int .i64 (L.length:Int)] 3/\Kp (fun g=>D g/\g≠cb) w w'/\Tells (nT+N.length) L f f') (fun p=>G p.1.block) (hlA w va l) callF_101 callF_102
  (fun w' n m it _ hi=>hasHelper_item hi)
  (fun w' L n m it hI _ hi hwd hq hR'=>by
   obtain⟨f',i1,i2,i3,i4⟩:=hI;obtain⟨R,hR'⟩:=hR';have hlen:L.length+1<=(hlA w va l).length:=by rw[hR'];simp
   have hnd':((L++[((⟨n,m*4,none⟩:Addr),it)]).map Prod.fst).Nodup:=by
    refine hnd.sublist (List.Sublist.map _ ?_);rw[hR',show L++(((⟨n,m*4,none⟩:Addr),it)::R)=(L++[((⟨n,m*4,none⟩:Addr),it)])++R by simp];exact List.sublist_append_left _ _
   refine (addNames1_any (a:=⟨n,m*4,none⟩) i1 i2 (kp_blk hX i3 ⟨dX,hcx⟩) (kp_blk hR i3 ⟨dR,hcr⟩) dC dX dR hcx hcr (ht.move (i3.block _ ⟨dT,htc⟩)) dT htc (fun b hb=>⟨(hG b hb).1,(hG b hb).2.1,(hG b hb).2.2.move (i3.block b ⟨(hG b hb).1,(hG b hb).2.1⟩)⟩) hq bT (by rw[List.length_append,hNames_len];omega) (by omega) bs).mono ?_;rintro e w'' ⟨rfl,j1,j2,j3⟩;refine⟨rfl,_,?_,?_,i3.trans j3 fun g hg=>hg,i4.push hnd'⟩
   ·rw[List.length_append,List.length_singleton,hNames_succ,<-List.append_assoc]
    have e:((nT+(N++hNames nm L.length).length:Nat):Int)=((nT+N.length+L.length:Nat):Int):=by rw[List.length_append,hNames_len,Nat.add_assoc]
    rw[e]at j1;exact j1
   ·rw[List.length_append,List.length_singleton];exact j2)
  (fun L w' hI b hb=>by obtain⟨f',i1,i2,i3,i4⟩:=hI;exact i3.block b (hF b hb))
  va l hA (fun p hp=>hGA p hp) w [] ⟨f,by simpa [hNames]using h,hC,Kp.refl _ _,fun a _=>rfl,fun k p hp=>by simp at hp⟩ ⟨[],by simp[hlA]⟩
 refine q.mono ?_;rintro e w' ⟨rfl,f',i1,i2,i3,i4⟩;rw[List.nil_append]at i1 i4;exact⟨rfl,f',i1,i3,i4⟩
end
section
open Go.RowKit
open Tr
namespace Lx
def tokN (T:List ByteArray)(b:ByteArray):Int:=if 0<=fnd T b then fnd T b else 0
theorem tokN_one (a:ByteArray):tokN [a]=fun _=>0:=by
 funext b;unfold tokN;have:=fnd_range [a] b;simp only[List.length_singleton]at this
 split <;> omega
theorem fnd_app {T:List ByteArray}{b:ByteArray}(h:0<=fnd T b)(a:ByteArray):fnd (T++[a]) b=fnd T b:=by
 unfold fnd fix at *;rw[List.findIdx_append]
 split at h
 ·rename_i h1
  rw[if_pos h1,if_pos (by rw[List.length_append];omega),if_pos h1]
 ·omega
theorem tokN_put {T:List ByteArray}{b:ByteArray}(h:¬ 0<=fnd T b):(fun c=>if c=b then (T.length:Int) else tokN T c)=tokN (T++[b]):=by
 funext c
 by_cases hc:c=b
 ·rw[if_pos hc,hc]
  have hn:b ∉ T:=fun hm=>h (fnd_mem.2 hm)
  have:=fnd_at (l:=T++[b]) (b:=b) (j:=T.length) (by simp) (fun i hi e=>hn (by rw[List.getElem?_append_left hi]at e;exact List.mem_of_getElem? e));unfold tokN;rw[this,if_pos (by omega)]
 ·rw[if_neg hc]
  unfold tokN
  by_cases h0:0<=fnd T c
  ·rw[fnd_app h0]
  ·rw[if_neg h0,if_neg]
   intro h1;rcases List.mem_append.1 (fnd_mem.1 h1) with h2 | h2
   ·exact h0 (fnd_mem.2 h2)
   ·exact hc (List.mem_singleton.1 h2)
theorem tokN_zero {a b:ByteArray}{T:List ByteArray}(h:b≠a):tokN (a::T) b=0↔¬ 0<=fnd (a::T) b:=by
 unfold tokN;constructor
 ·intro h0 h1
  rw[if_pos h1]at h0;unfold fnd fix at h0;rw[List.findIdx_cons]at h0;simp[Ne.symm h]at h0
  split at h0 <;> omega
 ·intro h1
  rw[if_neg h1]
def toksW (ws:List Wd):List ByteArray:=(ws.filter fun x=>decide (x.1≠1) && decide (x.1≠2)).map fun x=>x.2.1
theorem toksW_app (a b:List Wd):toksW (a++b)=toksW a++toksW b:=by unfold toksW;rw[List.filter_append,List.map_append]
def toks3 (ws:List Wd):List ByteArray:=(ws.filter fun x=>decide (x.1≠1) && decide (x.1≠2) && decide (x.1≠4)).map fun x=>x.2.1
theorem toks3_app (a b:List Wd):toks3 (a++b)=toks3 a++toks3 b:=by unfold toks3;rw[List.filter_append,List.map_append]
theorem toks3_flat {α:Type} (f:α->List Wd):∀ l:List α,toks3 (l.flatMap f)=l.flatMap fun a=>toks3 (f a)
 | []=>rfl
 | a::l=>by rw[List.flatMap_cons,toks3_app,toks3_flat f l,List.flatMap_cons]
theorem addTok_has {l:List ByteArray}{b c:ByteArray}(h:c∈l):c∈addTok l b:=by
 unfold addTok;split
 ·exact h
 ·exact List.mem_append_left _ h
theorem addToks_prec:∀ (ws:List Wd) (L:List ByteArray),(∀ x∈ws,x.1=4->x.2.1∈L)->addToks L (toksW ws)=addToks L (toks3 ws)
 | [],_,_=>rfl
 | x::ws,L,h=>by
  have hr:∀ L',(∀ c,c∈L->c∈L')->addToks L' (toksW ws)=addToks L' (toks3 ws):=fun L' hL=>addToks_prec ws L' fun y hy e=>hL _ (h y (List.mem_cons_of_mem _ hy) e)
  by_cases h12:x.1=1∨x.1=2
  ·have e1:toksW (x::ws)=toksW ws:=by unfold toksW;rw[List.filter_cons_of_neg];rcases h12 with h | h <;> simp[h]
   have e2:toks3 (x::ws)=toks3 ws:=by unfold toks3;rw[List.filter_cons_of_neg];rcases h12 with h | h <;> simp[h]
   rw[e1,e2];exact hr L fun _ h=>h
  ·have n1:x.1≠1:=fun e=>h12 (.inl e)
   have n2:x.1≠2:=fun e=>h12 (.inr e)
   have e1:toksW (x::ws)=x.2.1::toksW ws:=by unfold toksW;rw[List.filter_cons_of_pos (by simp[n1,n2])];rfl
   by_cases h4:x.1=4
   ·have e2:toks3 (x::ws)=toks3 ws:=by unfold toks3;rw[List.filter_cons_of_neg];simp[h4]
    have e3:addTok L x.2.1=L:=if_pos (fnd_mem.2 (h x (List.mem_cons_self ..) h4));rw[e1,e2,show addToks L (x.2.1::toksW ws)=addToks (addTok L x.2.1) (toksW ws) from rfl,e3];exact hr L fun _ h=>h
   ·have e2:toks3 (x::ws)=x.2.1::toks3 ws:=by unfold toks3;rw[List.filter_cons_of_pos (by simp[n1,n2,h4])];rfl
    rw[e1,e2];exact hr _ fun _ h=>addTok_has h
theorem toks3_flatA:∀ (d:Nat) (l:List Alt),toks3 (flatA d l)=toksA d l
 | 0,l=>rfl
 | d+1,l=>by
  rw[flatA_succ,toks3_flat,toksA_succ];congr 1;funext a;unfold flatOne;have e4:toks3 (if a.2.1=noText then [] else [(4,a.2.1,a.2.2)])=[]:=by split <;> rfl
  rw[toks3_app,e4,List.append_nil,toks3_flat];congr 1;funext x;unfold flatI toksI;rw[toks3_app,toks3_flatA d];congr 1
  split
  ·rename_i h;rw[if_neg (by omega)];rfl
  ·split
   ·rfl
   ·rfl
theorem tokW_tokG {g:Gr}(h:∀ x∈flatG g,x.1=4->x.2.1∈levelToks g):addToks [tDollar] (toksW (flatG g))=tokG g:=by
 have e0:flatG g=levelWords g++g.rules.flatMap fun r=>(1,r.name,r.place)::flatA 9 r.alts:=rfl
 have e1:toksW (levelWords g)=levelToks g:=by
  unfold toksW levelToks textsOf;congr 1;refine List.filter_eq_self.2 fun x hx=>?_
  unfold levelWords at hx;obtain⟨lv,-,hx⟩:=List.mem_flatMap.1 hx;obtain⟨t,-,rfl⟩:=List.mem_map.1 hx;rfl
 have hm:∀ (bs l:List ByteArray) (c:ByteArray),c∈l∨c∈bs->c∈addToks l bs:=by
  intro bs
  induction bs with
  | nil =>
   intro l c h;rcases h with h | h
   ·exact h
   ·cases h
  | cons b bs ih =>
   intro l c h;refine ih (addTok l b) c ?_;rcases h with h | h
   ·exact .inl (addTok_has h)
   ·rcases List.mem_cons.1 h with h | h
    ·subst h
     refine .inl ?_;unfold addTok;split
     ·rename_i h0;exact fnd_mem.1 h0
     ·simp
    ·exact .inr h
 rw[e0,toksW_app,addToks_app,e1,addToks_prec _ _ fun x hx e=>hm _ _ _ (.inr (h x (by rw[e0];exact List.mem_append_right _ hx) e)),toks3_flat];unfold tokG;rw[addToks_app];congr 1;congr 1;funext r;rw[show (1,r.name,r.place)::flatA 9 r.alts=[(1,r.name,r.place)]++flatA 9 r.alts from rfl,toks3_app,toks3_flatA];rfl
end Lx
end
section
open Go.RowKit
open Tr
theorem Nm.weak {D D' G:Nat->Prop}{w:World}{mb H:Nat}{ta:Option Addr}{nT tc:Nat}{vP vB vK vS:Value}{N:List ByteArray}{f:Addr->Int}(h:Nm D w mb H ta nT tc vP vB vK vS N G f)(hD:∀ g,D' g->D g):Nm D' w mb H ta nT tc vP vB vK vS N G f:=by
 obtain⟨⟨vN,h1,h2,h3⟩,e1,e2,e3,e4,e5⟩:=h;exact⟨⟨vN,h1,h2,fun g hg=>⟨fun hd=>(h3 g hg).1 (hD g hd),(h3 g hg).2⟩⟩,e1,fun hd=>e2 (hD _ hd),fun hd=>e3 (hD _ hd),e4,fun g hg=>e5 g (hD g hg)⟩
theorem Nm.new {D G:Nat->Prop}{w:World}{mb H:Nat}{ta:Option Addr}{nT tc:Nat}{vP vB vK vS:Value}{N:List ByteArray}{f:Addr->Int}(h:Nm D w mb H ta nT tc vP vB vK vS N G f){w':World}(hb:Below w.heap.size w w')(hs:w.heap.size<w'.heap.size):Nm (fun g=>D g∨g=w.heap.size) w' mb H ta nT tc vP vB vK vS N G f/\Kp D w w':=by
 refine⟨?_,Kp.below hb h.lt⟩;have lm:=h.lm;have lH:H<w.heap.size:=GMap.lt h.pm;obtain⟨⟨vN,h1,h2,h3⟩,e1,e2,e3,e4,e5⟩:=h;refine⟨⟨vN,(hb.block _ lm).trans h1,own_below h2 hb,fun g hg=>⟨?_,(h3 g hg).2⟩⟩,e1.move (hb.block _ lH),?_,?_,e4,?_⟩
 ·rintro (h' | h')
  ·exact (h3 g hg).1 h'
  ·have:=(h2.lt g hg).2;omega
 ·rintro (h' | h')
  ·exact e2 h'
  ·omega
 ·rintro (h' | h')
  ·exact e3 h'
  ·omega
 ·rintro g (h' | h')
  ·have:=e5 g h';omega
  ·omega
theorem ixFlat_disj {α:Type} {f:Nat->α->List AI}:∀ (l:List α) (j:Nat),((ixFlat f j l).map Prod.fst).Nodup->∀ {i k:Nat} {a b:α},i<k->l[i]?=some a->l[k]?=some b->∀ {p q:AI},p∈f (j+i) a->q∈f (j+k) b->p.1≠q.1
 | [],j,_,i,k,a,b,_,h,_,_,_,_,_=>by simp at h
 | x::xs,j,hn,i,k,a,b,hik,ha,hb,p,q,hp,hq=>by
  rw[ixFlat,List.map_append,List.nodup_append]at hn;obtain⟨k',rfl⟩:∃ k',k=k'+1:=⟨k-1,by omega⟩;have hb':xs[k']?=some b:=by simpa using hb
  have hq':q∈f (j+1+k') b:=by rw[show j+1+k'=j+(k'+1) by omega];exact hq
  cases i with
  | zero =>
   simp only[List.getElem?_cons_zero,Option.some.injEq]at ha;subst ha;refine hn.2.2 _ (List.mem_map.2 ⟨p,hp,rfl⟩) _ (List.mem_map.2 ⟨q,?_,rfl⟩);have:∀ (l:List α) (j m:Nat),l[m]?=some b->q∈f (j+m) b->q∈ixFlat f j l:=by
    intro l
    induction l with
    | nil=>intro j m h;simp at h
    | cons y l ih =>
     intro j m h hq;rw[ixFlat,List.mem_append];cases m with
     | zero=>simp only[List.getElem?_cons_zero,Option.some.injEq]at h;subst h;exact .inl hq
     | succ m=>exact .inr (ih (j+1) m (by simpa using h) (by rw[show j+1+m=j+(m+1) by omega];exact hq))
   exact this xs (j+1) k' hb' hq'
  | succ i =>
   exact ixFlat_disj xs (j+1) hn.2.1 (i:=i) (k:=k') (by omega) (by simpa using ha) hb' (by rw[show j+1+i=j+(i+1) by omega];exact hp) hq'
theorem ixFlat_has {α:Type} {f:Nat->α->List AI} {b:α} {q:AI}:∀ (l:List α) (j m:Nat),l[m]?=some b->q∈f (j+m) b->q∈ixFlat f j l
 | [],j,m,h,_=>by simp at h
 | y::l,j,m,h,hq=>by
  rw[ixFlat,List.mem_append];cases m with
  | zero=>simp only[List.getElem?_cons_zero,Option.some.injEq]at h;subst h;exact .inl hq
  | succ m=>exact .inr (ixFlat_has l (j+1) m (by simpa using h) (by rw[show j+1+m=j+(m+1) by omega];exact hq))
theorem ixFlat_nodup {α:Type} {f:Nat->α->List AI}:∀ (l:List α) (j m:Nat) (b:α),((ixFlat f j l).map Prod.fst).Nodup->l[m]?=some b->((f (j+m) b).map Prod.fst).Nodup
 | [],j,m,b,_,h=>by simp at h
 | y::l,j,m,b,hn,h=>by
  rw[ixFlat,List.map_append,List.nodup_append]at hn;cases m with
  | zero=>simp only[List.getElem?_cons_zero,Option.some.injEq]at h;subst h;exact hn.1
  | succ m =>
   have:=ixFlat_nodup l (j+1) m b hn.2.1 (by simpa using h);rw[show j+1+m=j+(m+1) by omega]at this;exact this
structure SymF (nT:Nat) (rs:List Lx.Rl) (j:Nat) (f0 f:ByteArray->Int):Prop where
 rule:∀ i (hi:i<rs.length),i<j->f rs[i].name=((nT+(Lx.nms (rs.take i)).length:Nat):Int)
 tok:∀ c,(∀ i (hi:i<rs.length),i<j->rs[i].name≠c)->f c=f0 c
theorem SymF.step {nT:Nat}{rs:List Lx.Rl}{j:Nat}{f0 f:ByteArray->Int}(h:SymF nT rs j f0 f)(nd:(rs.map Lx.Rl.name).Nodup)(hj:j<rs.length):SymF nT rs (j+1) f0 (fun c=>if c=rs[j].name then ((nT+(Lx.nms (rs.take j)).length:Nat):Int) else f c):=by
 refine⟨fun i hi hlt=>?_,fun c hc=>?_⟩
 ·by_cases e:i=j
  ·subst e;simp
  ·have hne:rs[i].name≠rs[j].name:=by
    have:=List.pairwise_iff_getElem.1 nd i j (by simpa using hi) (by simpa using hj) (by omega);simpa using this
   simp only[if_neg hne];exact h.rule i hi (by omega)
 ·have hne:c≠rs[j].name:=fun e=>hc j hj (by omega) e.symm
  simp only[if_neg hne];exact h.tok c fun i hi hlt=>hc i hi (by omega)
def HelF (w:World)(gR nT:Nat)(rs:List Lx.Rl)(j:Nat)(f:Addr->Int):Prop:=∀ i (hi:i<rs.length),i<j->∀ k p,(hlA w (cv w ⟨gR,i*2+1,none⟩) rs[i].alts)[k]?=some p->f p.1=((nT+(Lx.nms (rs.take i)).length+1+k:Nat):Int)
theorem HelF.step {w:World}{gR nT:Nat}{rs:List Lx.Rl}{j:Nat}{f f':Addr->Int}(h:HelF w gR nT rs j f)(hj:j<rs.length)(nd:((adRules w gR 0 rs).map Prod.fst).Nodup)(ht:Tells (nT+(Lx.nms (rs.take j)).length+1) (hlA w (cv w ⟨gR,j*2+1,none⟩) rs[j].alts) f f'):HelF w gR nT rs (j+1) f':=by
 intro i hi hlt k p hp
 by_cases e:i=j
 ·subst e
  exact ht.2 k p hp
 ·rw[ht.1 p.1 fun q hq e'=>?_]
  ·exact h i hi (by omega) k p hp
  ·have h1:p∈adA 9 w (cv w ⟨gR,i*2+1,none⟩) rs[i].alts:=(List.mem_filter.1 (List.mem_of_getElem? hp)).1
   have h2:q∈adA 9 w (cv w ⟨gR,j*2+1,none⟩) rs[j].alts:=(List.mem_filter.1 hq).1;exact ixFlat_disj rs 0 nd (i:=i) (k:=j) (by omega) (List.getElem?_eq_getElem hi) (List.getElem?_eq_getElem hj) (by rw[Nat.zero_add];exact h1) (by rw[Nat.zero_add];exact h2) e'.symm
end
section
open Go.RowKit
open Tr
structure NamP (D G:Nat->Prop) (w:World) (mb S H gR:Nat) (ta:Option Addr) (nT tc:Nat) (vP vB vK:Value) (rs:List Lx.Rl) (j:Nat) (f0:ByteArray->Int) (w':World):Prop where
 ex:∃ f fS,Nm (fun g=>D g∨g=S) w' mb H ta nT tc vP vB vK (.map (some S)) (Lx.nms (rs.take j)) G f/\SMap w' S fS/\SymF nT rs j f0 fS/\HelF w gR nT rs j f
 kp:Kp D w w'
theorem addNames_any {D F:Nat->Prop} {w:World} {mb S H:Nat} {ta:Option Addr} {nT tc:Nat} {vP vB vK vR:Value} {rs:List Lx.Rl} {f0:ByteArray->Int} (kM:Blk w mb #[.slice ta nT tc,.slice none 0 0,vP,vB,vK,.map (some S),.map (some H)] 125) (hS:SMap w S f0) (hH:PMap (fun b=>F b/\CellsB w b) w H (fun _=>0)) (hR:Tr.SeqS F w 179 2 cR KR vR rs) (hF:∀ b,F b->D b) (hD:∀ b,D b->b<w.heap.size) (nM:¬ D mb) (nS:¬ D S) (nH:¬ D H) (hSH:S≠H) (ht:Tab w) (dT:D tabB) (nd:(rs.map Lx.Rl.name).Nodup) (hn:∀ r∈rs,r.name.size<=2000) (bT:nT<=100000) (bN:(Lx.nms rs).length<=50000) (bR:rs.length<=100000) :
  Calls Tryz.prog 57 #[.pointer (some ⟨mb,0,none⟩),vR] w fun e w'=>e=.returned (.tuple #[])/\NamP D (fun b=>F b/\CellsB w b) w mb S H (blkOf vR) ta nT tc vP vB vK rs rs.length f0 w':=by
 have hRw:PGr F w vR rs:=⟨fun b hb=>hD b (hF b hb),SeqS.weak hR fun A v x hA hk=>AltsInS.weak hA hk⟩;have hap:=adRules_apart hR;obtain⟨a,c,rfl,hm⟩:=hRw.len;have lm:=kM.lt;have lS:=hS.lt;have lH:H<w.heap.size:=GMap.lt hH;have hmS:mb≠S:=fun e=>by
  obtain⟨es,clock,h1,-⟩:=hS;unfold Blk at kM;rw[e,h1]at kM;cases kM
 have hmH:mb≠H:=fun e=>by
  obtain⟨es,clock,h1,-⟩:=hH;unfold Blk at kM;rw[e,h1]at kM;cases kM
 unfold maxLen at hm;obtain⟨W,hW⟩:∃ W,W=w.alloc (.cells #[.pointer (some ⟨mb,0,none⟩)] 190):=⟨_,rfl⟩;have hbW:Below w.heap.size w W:=by rw[hW];exact (Below.refl _ _).alloc (Nat.le_refl _) _
 have hsW:W.heap.size=w.heap.size+1:=by rw[hW];simp
 have kX:Blk W w.heap.size #[.pointer (some ⟨mb,0,none⟩)] 190:=by rw[hW];exact Blk.new w _ 190
 have nW:Nm (fun g=>D g∨g=S∨g=w.heap.size) W mb H ta nT tc vP vB vK (.map (some S)) [] (fun b=>F b/\CellsB w b) (fun _=>0):=by
  refine⟨⟨.slice none 0 0,(hbW.block _ lm).trans kM,World.ownsRow_nil _ _ _ _,fun g hg=>(by cases hg)⟩,hH.move (hbW.block _ lH),?_,?_,hmH,?_⟩
  ·rintro (h | h | h)
   ·exact nM h
   ·exact hmS h
   ·omega
  ·rintro (h | h | h)
   ·exact nH h
   ·exact hSH h.symm
   ·omega
  ·rintro g (h | h | h)
   ·have:=hD g h;omega
   ·omega
   ·omega
 have q0:=nW.call bT (by simp) Lx.tStart;have x0:W.cell? ⟨w.heap.size,0,none⟩=some (.pointer (some ⟨mb,0,none⟩)):=kX.cell 0;go_enter Tryz.func57,Tryz.ntmps57;go_wp2_with fail;rw[<-hW];refine q0.mono ?_;rintro e w1 ⟨rfl,n1,hk1⟩;have kX1:Blk w1 w.heap.size _ 190:=kp_blk kX hk1 (.inr (.inr rfl));have hS1:SMap w1 S f0:=(hS.move (hbW.block _ lS)).move (hk1.block S (.inr (.inl rfl)));have hkw1:Kp D w w1:=(Kp.below hbW hD).trans hk1 fun g hg=>.inl hg
 have sy0:SymF nT rs 0 f0 f0:=⟨fun i hi h=>absurd h (by omega),fun _ _=>rfl⟩;have he0:HelF w (blkOf (.slice a rs.length c)) nT rs 0 (fun _=>0):=fun i hi h=>absurd h (by omega)
 clear q0 x0 hW hbW hsW kX nW hk1 hS hH;go_wp2_with fail
 go_loopg [11] rs.length (fun k i wr=>∃ (j:Nat) (f:Addr->Int) (fS:ByteArray->Int),j+k=rs.length/\i=.int .i64 j/\Nm (fun g=>D g∨g=S∨g=w.heap.size) wr mb H ta nT tc vP vB vK (.map (some S)) (Lx.nms (rs.take j)) (fun b=>F b/\CellsB w b) f/\SMap wr S fS/\Blk wr w.heap.size #[.pointer (some ⟨mb,0,none⟩)] 190/\Kp D w wr/\SymF nT rs j f0 fS/\HelF w (blkOf (.slice a rs.length c)) nT rs j f)
 case atStart=>exact⟨0,_,_,by omega,rfl,n1,hS1,kX1,hkw1,sy0,he0⟩
 case round =>
  clear n1 hS1 kX1 hkw1 sy0 he0;clear w1;obtain⟨j,f,fS,hk,rfl,nr,hSr,kXr,hkr,sy,he⟩:=hrel
  by_cases hlt:j<rs.length
  ·obtain⟨gR,capR,va,hv,hFg,hA,c0,c1⟩:=hRw.at hlt
   cases hv;have egR:blkOf (.slice (some ⟨gR,0,none⟩) rs.length c)=gR:=rfl;rw[egR]at he hap;have ecv:cv w ⟨gR,j*2+1,none⟩=va:=by unfold cv;rw[c1];rfl
   have bkr:=hkr.block gR (hF gR hFg);have d0:wr.cell? ⟨gR,j*2,none⟩=some (.string rs[j].name):=(World.cell?_of_block (w:=w) bkr).trans c0;have d1:wr.cell? ⟨gR,j*2+1,none⟩=some va:=(World.cell?_of_block (w:=w) bkr).trans c1;have hnj:=hn rs[j] (List.getElem_mem hlt);have hys:=sy.step nd hlt;have hlen:(Lx.nms (rs.take (j+1))).length<=50000:=by
    obtain⟨R,e⟩:∃ R,Lx.nms rs=Lx.nms (rs.take (j+1))++R:=by
     refine⟨(rs.drop (j+1)).flatMap Lx.namesR,?_⟩;unfold Lx.nms
     conv=>lhs;rw[<-List.take_append_drop (j+1) rs]
     rw[List.flatMap_append,List.cons_append]
    rw[e,List.length_append]at bN;omega
   have hsc:=Lx.nms_succ hlt;have hnr:Lx.namesR rs[j]=rs[j].name::hNames rs[j].name (hlA w va rs[j].alts).length:=by rw[hlA_len hA];rfl
   rw[hsc,hnr]at hlen;have hGA:∀ p∈adA 9 w va rs[j].alts,F p.1.block/\CellsB w p.1.block:=fun p hp=>hap.1 p (ixFlat_has rs 0 j (List.getElem?_eq_getElem hlt) (by rw[Nat.zero_add,ecv];exact hp))
   have hndj:((adA 9 w va rs[j].alts).map Prod.fst).Nodup:=by
    have:=ixFlat_nodup rs 0 j _ hap.2 (List.getElem?_eq_getElem hlt);rw[Nat.zero_add,ecv]at this;exact this
   have hstep:∀ f',Tells (nT+(Lx.nms (rs.take j)).length+1) (hlA w va rs[j].alts) f f'->HelF w gR nT rs (j+1) f':=fun f' ht'=>he.step hlt hap.2 (by rw[ecv];exact ht')
   have HST:Hid (∀ f',Tells (nT+(Lx.nms (rs.take j)).length+1) (hlA w va rs[j].alts) f f'->HelF w gR nT rs (j+1) f'):=hstep;have HSC:Hid (Lx.nms (rs.take (j+1))=Lx.nms (rs.take j)++rs[j].name::hNames rs[j].name (hlA w va rs[j].alts).length):=by show _=_;rw[hsc,hnr]
   clear hstep hsc hnr c0 c1 ecv he hap sy;have hys':SymF nT rs (j+1) f0 fun c=>if c=rs[j].name then ((nT+(Lx.nms (rs.take j)).length:Nat):Int) else fS c:=hys
   clear hys;generalize rs[j].alts=al at *;generalize rs[j].name=nm at *;obtain⟨N,hN⟩:∃ N,N=Lx.nms (rs.take j):=⟨_,rfl⟩;rw[<-hN]at nr hlen HST HSC hys';clear hN;obtain⟨sa,sc,rfl,-⟩:=AltsIn.len hA;obtain⟨W1,hW1⟩:∃ W1,W1=wr.alloc (.cells #[.string nm,.slice sa al.length sc] 179):=⟨_,rfl⟩;have hb1:Below wr.heap.size wr W1.drew:=by rw[hW1];exact ((Below.refl _ _).alloc (Nat.le_refl _) _).drew
   have hs1:W1.heap.size=wr.heap.size+1:=by rw[hW1];simp
   have kR:Blk W1 wr.heap.size #[.string nm,.slice sa al.length sc] 179:=by rw[hW1];exact Blk.new wr _ 179
   obtain⟨n1,hk1⟩:=nr.new hb1 (by show wr.heap.size<W1.heap.size;omega);have lXr:=kXr.lt;have kX1:Blk W1.drew w.heap.size _ 190:=(hb1.block _ lXr).trans kXr;have e1x:W1.drew.cell? ⟨w.heap.size,0,none⟩=some (.pointer (some ⟨mb,0,none⟩)):=kX1.cell 0;have e1r:W1.drew.cell? ⟨wr.heap.size,0,none⟩=some (.string nm):=kR.drew.cell 0;have e15:=n1.cell6.2;have hlN:N.length<=50000:=by rw[List.length_append]at hlen;omega
   have q1:=n1.call bT (by omega) nm;have hS1:SMap W1.drew S fS:=hSr.move (hb1.block _ (nr.lt S (.inr (.inl rfl))));go_wp2_with fail;rw[<-hW1];clear hW1 d0 d1
   go_region_held3 (fun w'=>w'.cell? ⟨w.heap.size,0,none⟩=some (.pointer (some ⟨mb,0,none⟩))/\w'.cell? ⟨wr.heap.size,0,none⟩=some (.string nm)/\w'.cell? ⟨mb,5,none⟩=some (.map (some S))) (first | go_keep | assumption) ((go_at_call 100;refine q1.mono ?_;rintro e w3 ⟨rfl,n3,hk3⟩;have S3:w3.cell? ⟨w.heap.size,0,none⟩=some (.pointer (some ⟨mb,0,none⟩))/\w3.cell? ⟨wr.heap.size,0,none⟩=some (.string nm)/\w3.cell? ⟨mb,5,none⟩=some (.map (some S)):=⟨(kp_blk kX1 hk3 (.inl (.inr (.inr rfl)))).cell 0,(kp_blk kR.drew hk3 (.inr rfl)).cell 0,n3.cell6.2⟩;obtain⟨w4,hu4,hM4,hg4,hs4⟩:=SMap.put (w:=w3) (hS1.move (hk3.block S (.inl (.inr (.inl rfl))))) nm ((nT:Int)+(N.length:Int));have n4:=n3.other (w':=w4) (fun g hg hd=>hg4.block g hg fun e=>hd (.inl (.inr (.inl (Option.some.inj e))))) (by omega);have kX4:Blk w4 w.heap.size #[.pointer (some ⟨mb,0,none⟩)] 190:=(hg4.block _ (by have:=n3.lt w.heap.size (.inl (.inr (.inr rfl)));exact this) (fun e=>by have:=Option.some.inj e;omega)).trans (kp_blk kX1 hk3 (.inl (.inr (.inr rfl))));have kR4:Blk w4 wr.heap.size #[.string nm,.slice sa al.length sc] 179:=(hg4.block _ (n3.lt _ (.inr rfl)) (fun e=>by have:=Option.some.inj e;omega)).trans (kp_blk kR.drew hk3 (.inr rfl));have S4:w4.cell? ⟨w.heap.size,0,none⟩=some (.pointer (some ⟨mb,0,none⟩))/\w4.cell? ⟨wr.heap.size,0,none⟩=some (.string nm)/\w4.cell? ⟨mb,5,none⟩=some (.map (some S)):=⟨kX4.cell 0,kR4.cell 0,n4.cell6.2⟩))
   clear q1 hu4 S3 S4 e1x e1r e15;have hmf:∀ (fn:Fn) (first cap:Array Value) (w:World),(Instr.makeFunc fn first cap).run Tryz.prog w=.ok (.func fn first cap) w:=fun _ _ _ _=>rfl
   have r41:w4.cell? ⟨wr.heap.size,1,none⟩=some (.slice sa al.length sc):=kR4.cell 1;have lr4:=kR4.lt;have lx4:=kX4.lt;have HS4:Hid (w4.heap.size=w3.heap.size):=hs4;clear hs4;obtain⟨W5,hW5⟩:∃ W5,W5=w4.alloc (.cells #[.int .i64 0] 3):=⟨_,rfl⟩;have hb5:Below w4.heap.size w4 W5:=by rw[hW5];exact (Below.refl _ _).alloc (Nat.le_refl _) _
   have hs5:W5.heap.size=w4.heap.size+1:=by rw[hW5];simp
   have kC5:Blk W5 w4.heap.size #[.int .i64 0] 3:=by rw[hW5];exact Blk.new w4 _ 3
   obtain⟨n5,hk5⟩:=n4.new hb5 (by omega);have lS4:S<w4.heap.size:=n4.lt S (.inl (.inr (.inl rfl)));have hkD4:Kp D w w4:=⟨hg4.os.trans (hk3.os.trans (hk1.os.trans hkr.os)),hg4.tape.trans (hk3.tape.trans (hk1.tape.trans hkr.tape)),hg4.output.trans (hk3.output.trans (hk1.output.trans hkr.output)),Nat.le_trans hkr.size (Nat.le_trans hk1.size (Nat.le_trans hk3.size hg4.size)),fun g hg=>(hg4.block g (n3.lt g (.inl (.inl hg))) (fun e=>nS ((Option.some.inj e) ▸ hg))).trans ((hk3.block g (.inl (.inl hg))).trans ((hk1.block g (.inl hg)).trans (hkr.block g hg)))⟩;have hkD5:Kp D w W5:=hkD4.trans hk5 fun g hg=>.inl (.inl hg)
   have hA5:AltsIn YP 9 F W5 (.slice sa al.length sc) al:=AltsIn.move (fun b hb=>hkD5.block b (hF b hb)) (fun _ h=>h) hA;have eA5:adA 9 W5 (.slice sa al.length sc) al=adA 9 w (.slice sa al.length sc) al:=adA_same hA fun b hb=>hkD5.block b (hF b hb)
   have eH5:hlA W5 (.slice sa al.length sc) al=hlA w (.slice sa al.length sc) al:=by unfold hlA;rw[eA5]
   have q5:=eachNames_any (cb:=w4.heap.size) (xb:=w.heap.size) (rb:=wr.heap.size) n5 kC5 ((hb5.block _ lx4).trans kX4) ((hb5.block _ lr4).trans kR4) (.inr rfl) (.inl (.inl (.inr (.inr rfl)))) (.inl (.inr rfl)) (by omega) (by omega) (ht.move (hkD5.block _ dT)) (.inl (.inl (.inl dT))) (by have:=n4.lt tabB (.inl (.inl dT));omega) (fun b hb=>⟨.inl (.inl (.inl (hF b hb.1))),by have:=n4.lt b (.inl (.inl (hF b hb.1)));omega,hb.2.move (hkD5.block b (hF b hb.1))⟩) (fun b hb=>⟨.inl (.inl (.inl (hF b hb))),by have:=n4.lt b (.inl (.inl (hF b hb)));omega⟩) hA5 (fun p hp=>hGA p (by rw[<-eA5];exact hp)) (by rw[eA5];exact hndj) bT (by rw[eH5];rw[List.length_append,List.length_cons,hNames_len]at hlen;rw[List.length_append,List.length_singleton];omega) hnj;rw[eH5]at q5;go_wp2_with fail;rw[<-hW5];refine q5.mono ?_;rintro e w6 ⟨rfl,f6,n6,hk6,ht6⟩;have hM6:SMap w6 S _:=(hM4.move (hb5.block _ lS4)).move (hk6.block S ⟨.inl (.inl (.inr (.inl rfl))),by omega⟩);have kX6:Blk w6 w.heap.size #[.pointer (some ⟨mb,0,none⟩)] 190:=(hk6.block _ ⟨.inl (.inl (.inr (.inr rfl))),by omega⟩).trans ((hb5.block _ lx4).trans kX4);have hkD6:Kp D w w6:=hkD5.trans hk6 fun g hg=>⟨.inl (.inl (.inl hg)),by have:=n4.lt g (.inl (.inl hg));omega⟩
   have he6:HelF w gR nT rs (j+1) f6:=HST.out f6 (by rw[show nT+N.length+1=nT+(N++[nm]).length by rw[List.length_append,List.length_singleton];omega];exact ht6);have n6':=n6.weak (D':=fun g=>D g∨g=S∨g=w.heap.size) fun g hg=>.inl (.inl hg)
   rw[List.append_assoc,List.singleton_append,<-HSC.out]at n6';have en:((nT+N.length:Nat):Int)=(nT:Int)+(N.length:Int):=by omega
   rw[en]at hys';have HNF:Hid _:=n6';clear q5 n6 n6' n4 n5 n3 hA5 eA5 eH5 hk5 hkD4 hkD5 hmf r41;go_wp2_with fail;go_roundg (rs.length - (j+1))
   case measure=>omega
   case rel=>exact⟨j+1,f6,_,by omega,by go_num,HNF.out,hM6,kX6,hkD6,hys',he6⟩
  ·have:j=rs.length:=by omega
   subst this;go_wp2_with fail
   go_end0
   exact⟨rfl,⟨f,fS,nr.weak (fun g hg=>by rcases hg with hg | hg;exact .inl hg;exact .inr (.inl hg)),hSr,sy,he⟩,hkr⟩
end
section
open Go.RowKit
open Tr
theorem Tryz.info58:(Tryz.prog.info? 58).map (fun i=>(i.zero,i.size,i.bytes))=some (some (.agg #[.int .i64 0,.slice none 0 0,.int .i64 0]),3,40):=by kernel_rfl
theorem Tryz.underlying23':Tryz.prog.underlying 23=some (.slice 58):=by kernel_rfl
theorem sclone_any {w:World}{v:Value}{r:List Nat}(h:IR 0 w v r)(hl:r.length<=1000000):Calls Tryz.prog 135 #[v] w fun e w'=>∃ v',e=.returned v'/\IR w.heap.size w' v' r/\Below w.heap.size w w':=by
 have h':=h;unfold IR at h';rcases h'.2 with h0 | ⟨g,cap,cur,hv,hg,hh,hc1,hc2,hc3,hc4⟩
 ·obtain⟨a,c,rfl,-⟩:=own_len h
  have hz:a=none/\r=[]:=by
   have e:=h0.1;have hn:=h0.2;simp only[Value.slice.injEq]at e;refine⟨e.1,List.eq_nil_of_length_eq_zero ?_⟩;omega
  obtain⟨rfl,rfl⟩:=hz;refine (Tryz.slices_Clone_int_nil _ _ w).mono ?_;rintro e w' ⟨rfl,rfl⟩;exact⟨_,rfl,World.ownsRow_nil _ _ _ _,Below.refl _ _⟩
 ·subst hv
  refine (Tryz.slices_Clone_int g 0 r.length cap (r.map fun (s:Nat)=>(s:Int)) w (by simp) (by omega) (fun j hj=>?_)).mono ?_
  ·simp only[List.length_map]at hj
   rw[Nat.zero_add,h'.cellAt j (by omega)];unfold intsV;simp[List.getD,hj]
  ·rintro e w' ⟨v',rfl,ho,-,hb⟩
   refine⟨v',rfl,?_,hb⟩;unfold IR;have e:(List.take r.length (r.map fun (s:Nat)=>(s:Int))).map (Value.int .i64)=intsV r:=by
    rw[List.take_of_length_le (by simp),List.map_map];rfl
   rw[e]at ho;exact ho
def PP (D:Nat->Prop)(w:World)(v:Value)(P:List Lx.Pd):Prop:=∃ ps:List (Value × Lx.Pd),ps.map Prod.snd=P/\w.ownsRow 0 58 3 v P.length (ps.flatMap pdC)/\(∀ q,q∈ps->IR 0 w q.1 q.2.right/\∀ g,q.1.ownBlock=some g->D g)/\ps.Pairwise fun a b=>∀ g,a.1.ownBlock=some g->b.1.ownBlock≠some g
structure Mp (D G:Nat->Prop) (w:World) (mb S H:Nat) (ta:Option Addr) (nT tc:Nat) (vN vB vK:Value) (fS:ByteArray->Int) (fH:Addr->Int) (P:List Lx.Pd):Prop where
 ex:∃ vP,Blk w mb #[.slice ta nT tc,vN,vP,vB,vK,.map (some S),.map (some H)] 125/\PP (fun g=>D g/\mb<g) w vP P/\∀ g,vP.ownBlock=some g->¬ D g/\mb<g
 sm:SMap w S fS
 pm:PMap G w H fH
 dS:D S
 dH:D H
 nm:¬ D mb
 lt:∀ g,D g->g<w.heap.size
 gc:∀ b,G b->D b/\CellsB w b
section
variable {D G:Nat -> Prop} {w:World} {mb S H:Nat} {ta:Option Addr} {nT tc:Nat} {vN vB vK:Value} {fS:ByteArray -> Int} {fH:Addr -> Int} {P:List Lx.Pd}
theorem Mp.lm (h:Mp D G w mb S H ta nT tc vN vB vK fS fH P):mb<w.heap.size:=by
 obtain⟨vP,h1,-⟩:=h.ex;exact h1.lt
theorem Mp.below {w':World}(h:Mp D G w mb S H ta nT tc vN vB vK fS fH P)(hb:Below w.heap.size w w'):Mp D G w' mb S H ta nT tc vN vB vK fS fH P:=by
 obtain⟨⟨vP,h1,⟨ps,p1,p2,p3,p4⟩,h3⟩,e1,e2,e3,e4,e5,e6,e7⟩:=h;exact⟨⟨vP,(hb.block _ h1.lt).trans h1,⟨ps,p1,own_below p2 hb,fun q hq=>⟨own_below (p3 q hq).1 hb,(p3 q hq).2⟩,p4⟩,h3⟩,e1.move (hb.block _ (e6 _ e3)),e2.move (hb.block _ (e6 _ e4)),e3,e4,e5,fun g hg=>Nat.lt_of_lt_of_le (e6 g hg) hb.size,fun b hb'=>⟨(e7 b hb').1,(e7 b hb').2.move (hb.block b (e6 b (e7 b hb').1))⟩⟩
end
theorem Mp.push {D G:Nat->Prop} {w w3 w4:World} {o:Obj} {mb S H:Nat} {ta:Option Addr} {nT tc:Nat} {vN vP vB vK u:Value} {fS:ByteArray->Int} {fH:Addr->Int} {P:List Lx.Pd} {ps:List (Value × Lx.Pd)} {left:Nat} {r:List Nat} {pv:Int} {g4 cap4:Nat} (h:Mp D G w mb S H ta nT tc vN vB vK fS fH P) (h1:Blk w mb #[.slice ta nT tc,vN,vP,vB,vK,.map (some S),.map (some H)] 125) (hp1:ps.map Prod.snd=P) (hp2:w.ownsRow 0 58 3 vP P.length (ps.flatMap pdC)) (hp3:∀ q,q∈ps->IR 0 w q.1 q.2.right/\∀ g,q.1.ownBlock=some g->D g/\mb<g) (hp4:ps.Pairwise fun a b=>∀ g,a.1.ownBlock=some g->b.1.ownBlock≠some g) (h3:∀ g,vP.ownBlock=some g->¬ D g/\mb<g)
  (hb3:Below w.heap.size w w3) (hu3:IR w.heap.size w3 u r) (ho:w4.ownsRow 0 58 3 (.slice (some ⟨g4,0,none⟩) (P.length+1) cap4) (P.length+1) (ps.flatMap pdC++[.int .i64 (left:Int),u,.int .i64 pv])) (hg:(w3.alloc o).grownBy w4 vP.ownBlock) (hat:vP.ownBlock=some g4∨w3.heap.size<=g4) (hpv:pv=Lx.precOf nT r) :
  ∃ D',(∀ g,D g->D' g)/\Mp D' G (w4.setCell ⟨mb,2,none⟩ (.slice (some ⟨g4,0,none⟩) (P.length+1) cap4)) mb S H ta nT tc vN vB vK fS fH (P++[Lx.pdOf nT left r])/\Kp D w (w4.setCell ⟨mb,2,none⟩ (.slice (some ⟨g4,0,none⟩) (P.length+1) cap4)):=by
 have lmb:=h1.lt;have hs3:=hb3.size;have hs4:w3.heap.size+1<=w4.heap.size:=by have:=hg.size;simpa using this
 have hg4m:mb<g4:=by
  rcases hat with e | e
  ·exact (h3 g4 e).2
  ·omega
 have bk:∀ g,g<w3.heap.size->g≠mb->vP.ownBlock≠some g->(w4.setCell ⟨mb,2,none⟩ (.slice (some ⟨g4,0,none⟩) (P.length+1) cap4)).heap[g]?=w3.heap[g]?:=fun g hl hm hv=>by
  rw[Below.heap_setCell _ _ _ _ hm,hg.block g (by simp;omega) (fun e=>hv e.symm),Below.heap_alloc _ _ _ hl]
 have bD:∀ g,D g->(w4.setCell ⟨mb,2,none⟩ (.slice (some ⟨g4,0,none⟩) (P.length+1) cap4)).heap[g]?=w.heap[g]?:=fun g hd=>by
  have:=h.lt g hd;rw[bk g (by omega) (fun e=>h.nm (e ▸ hd)) (fun e=>(h3 g e).1 hd),hb3.block g this]
 have hub:∀ g,u.ownBlock=some g->w.heap.size<=g/\g<w3.heap.size:=fun g hg=>hu3.lt g hg
 have hvb:∀ g,vP.ownBlock=some g->g<w.heap.size:=fun g hg=>(hp2.lt g hg).2
 have bU:∀ g,u.ownBlock=some g->(w4.setCell ⟨mb,2,none⟩ (.slice (some ⟨g4,0,none⟩) (P.length+1) cap4)).heap[g]?=w3.heap[g]?:=fun g hu=>by
  have h5:=hub g hu;exact bk g h5.2 (by omega) (fun e=>by have:=hvb g e;omega)
 have hsz:w.heap.size<=(w4.setCell ⟨mb,2,none⟩ (.slice (some ⟨g4,0,none⟩) (P.length+1) cap4)).heap.size:=by simp[World.setCell];omega
 have k4:Blk w4 mb #[.slice ta nT tc,vN,vP,vB,vK,.map (some S),.map (some H)] 125:=by
  unfold Blk;rw[hg.block mb (by simp;omega) (fun e=>Nat.lt_irrefl _ (h3 mb e.symm).2),Below.heap_alloc _ _ _ (by omega),hb3.block mb lmb];exact h1
 refine⟨fun g=>D g∨u.ownBlock=some g,fun g hd=>.inl hd,⟨⟨_,k4.set 2 _,⟨ps++[(u,Lx.pdOf nT left r)],?_,?_,?_,?_⟩,?_⟩,h.sm.move (bD S h.dS),h.pm.move (bD H h.dH),.inl h.dS,.inl h.dH,?_,?_,fun b hb=>⟨.inl (h.gc b hb).1,(h.gc b hb).2.move (bD b (h.gc b hb).1)⟩⟩,⟨hg.os.trans hb3.os,hg.tape.trans hb3.tape,hg.output.trans hb3.output,hsz,bD⟩⟩
 ·rw[List.map_append,hp1];rfl
 ·rw[List.flatMap_append,List.length_append]
  refine own_move (by simpa [pdC,Lx.pdOf,hpv]using ho) fun g hgo=>Below.heap_setCell _ _ _ _ (fun e=>?_)
  have e1:g4=g:=by simpa [Value.ownBlock]using hgo
  have e2:g=mb:=e;omega
 ·intro q hq
  rcases List.mem_append.1 hq with hq | hq
  ·exact⟨own_move (hp3 q hq).1 fun g hgo=>bD g ((hp3 q hq).2 g hgo).1,fun g hgo=>⟨.inl ((hp3 q hq).2 g hgo).1,((hp3 q hq).2 g hgo).2⟩⟩
  ·rw[List.mem_singleton.1 hq]
   exact⟨own_le (own_move hu3 fun g hgo=>bU g hgo) (Nat.zero_le _),fun g hgo=>⟨.inr hgo,by have:=hub g hgo;omega⟩⟩
 ·rw[List.pairwise_append]
  refine⟨hp4,List.pairwise_singleton _ _,fun a ha b hb g hga hgb=>?_⟩;rw[List.mem_singleton.1 hb]at hgb;have:=h.lt g ((hp3 a ha).2 g hga).1;have:=hub g hgb;omega
 ·intro g hgo
  have e1:g4=g:=by simpa [Value.ownBlock]using hgo
  subst e1;refine⟨?_,hg4m⟩;rintro (hd | hd)
  ·rcases hat with e | e
   ·exact (h3 _ e).1 hd
   ·have:=h.lt _ hd;omega
  ·have:=hub _ hd
   rcases hat with e | e
   ·have:=hvb _ e;omega
   ·omega
 ·rintro (hd | hd)
  ·exact h.nm hd
  ·have:=hub _ hd;omega
 ·rintro g (hd | hd)
  ·have:=h.lt g hd;omega
  ·have:=hub g hd;simp[World.setCell];omega
theorem pput_any {D G:Nat->Prop} {w:World} {mb S H:Nat} {ta:Option Addr} {nT tc:Nat} {vN vB vK:Value} {fS:ByteArray->Int} {fH:Addr->Int} {P:List Lx.Pd} (h:Mp D G w mb S H ta nT tc vN vB vK fS fH P) (left:Nat) (vR:Value) (r:List Nat) (hr:IR 0 w vR r) (hrl:r.length<=1000000) (hP:P.length<=1000000000000) :
  Calls Tryz.prog 104 #[.pointer (some ⟨mb,0,none⟩),.int .i64 (left:Int),vR] w fun e w'=>e=.returned (.tuple #[])/\∃ D',(∀ g,D g->D' g)/\Mp D' G w' mb S H ta nT tc vN vB vK fS fH (P++[Lx.pdOf nT left r])/\Kp D w w':=by
 obtain⟨i0,hii,hz0,hz1,hz2⟩:=info_parts Tryz.info58;obtain⟨vP,h1,hPP,h3⟩:=h.ex;obtain⟨ps,hp1,hp2,hp3,hp4⟩:=hPP;obtain⟨pa,pc,rfl,hPm⟩:=own_len hp2;obtain⟨ra,rc,rfl,hrm⟩:=own_len hr;have lmb:=h1.lt;have m0:w.cell? ⟨mb,0,none⟩=some (.slice ta nT tc):=h1.cell 0;go_enter Tryz.func104,Tryz.ntmps104;go_wp2_with fail
 go_loopg [6,11] r.length (fun k p i wr=>∃ (m:Nat) (pv:Int),m+k=r.length/\p=.int .i64 pv/\i=.int .i64 m/\wr=w/\Hid (pv=Lx.precOf nT (r.take m)))
 case atStart=>exact⟨0,-1,by omega,rfl,rfl,rfl,rfl⟩
 case round =>
  obtain⟨m,pv,hkm,rfl,rfl,rfl,HPV⟩:=hrel
  by_cases hlt:m<r.length
  ·obtain⟨gR,cR,hv,lR,hcR⟩:=hr.at hlt
   cases hv;have htk:=Lx.precOf_take (n:=nT) hlt;rw[<-HPV.out]at htk;generalize r[m]=s at hcR htk
   by_cases hst:s<nT
   ·have HP2:Hid ((s:Int)=Lx.precOf nT (r.take (m+1))):=by rw[if_pos hst]at htk;exact htk.symm
    clear htk;go_wp2_with fail;go_roundg (r.length - (m+1))
    case measure=>omega
    case rel=>exact⟨m+1,_,by omega,rfl,by go_num,rfl,HP2⟩
   ·have HP2:Hid (pv=Lx.precOf nT (r.take (m+1))):=by rw[if_neg hst]at htk;exact htk.symm
    clear htk;go_wp2_with fail;go_roundg (r.length - (m+1))
    case measure=>omega
    case rel=>exact⟨m+1,_,by omega,rfl,by go_num,rfl,HP2⟩
  ·have:m=r.length:=by omega
   subst this;have HP2:Hid (pv=Lx.precOf nT r):=by have:=HPV.out;rw[List.take_length]at this;exact this
   clear HPV;have hrD:IR 0 wr.drew (.slice ra r.length rc) r:=own_move hr fun _ _=>rfl
   have qC:=sclone_any hrD hrl;have m2:wr.drew.cell? ⟨mb,2,none⟩=some (.slice pa P.length pc):=h1.drew.cell 2;have hvm:(Value.slice pa P.length pc).ownBlock≠some mb:=fun e=>Nat.lt_irrefl _ (h3 mb e).2
   unfold maxLen at hPm;go_wp2_with fail
   go_region_law (first | (refine step_call rfl 135 #[.slice ra r.length rc] (by go_simp) qC ?_;rintro e w3 ⟨u3,rfl,hu3,hb3⟩;have k3:Blk w3 mb _ 125:=(hb3.block mb lmb).trans h1;obtain⟨ua,uc,rfl,-⟩:=own_len hu3;have o3:=own_below (own_move (w':=wr.drew) hp2 fun _ _=>rfl) hb3;have oA:=o3.alloc (.cells #[.int .i64 (left:Int),.slice ua r.length uc,.int .i64 pv] 58);have e3:w3.cell? ⟨mb,2,none⟩=some (.slice pa P.length pc):=k3.cell 2;have lm3:=k3.lt;refine⟨_,rfl,?_⟩) | (refine step_append_lies _ rfl (.tmp 30) (.tmp 36) 23 rfl 0 58 i0 _ 3 40 Tryz.underlying23' hii hz0 hz1 hz2 rfl (by decide) (.slice pa P.length pc) P.length (ps.flatMap pdC) (by simp[Act.eval]) oA ⟨w3.heap.size,0,none⟩ 1 1 [.int .i64 (left:Int),.slice ua r.length uc,.int .i64 pv] (by simp[Act.eval]) rfl (news_of (Blk.new w3 _ 58)) (by simp[Value.oneCell']) (by decide) (by unfold maxLen;omega) (by omega) (by simp) _ rfl ?_;intro g4 cap4 w4 hown4 hgrow4 hat4 hlt4;have k4:=(k3.alloc (.cells #[.int .i64 (left:Int),.slice ua r.length uc,.int .i64 pv] 58)).grown hgrow4 (fun e=>hvm e.symm);have c40:w4.cell? ⟨mb,2,none⟩=some (.slice pa P.length pc):=k4.cell 2;have f4:∀ i,w4.frozen? ⟨mb,i,none⟩=false:=k4.frozen))
   all_goals
    have hfin:=Mp.push h h1 hp1 hp2 hp3 hp4 h3 (((Below.refl wr.heap.size wr).drew).trans hb3) hu3 hown4 hgrow4 (hat4.imp id fun e=>by rw[e];simp) HP2.out;clear k4 c40 f4 hgrow4 hown4 hat4 hlt4 o3 oA e3 hb3 k3 hu3 qC m2 hrD;go_wp2_with fail
    go_end0
    exact⟨rfl,hfin⟩
end
section
open Go.RowKit
open Tr
theorem adItems_mem {sub:Value->List Lx.Alt->List AI} {w:World} {g:Nat} {p:AI}:∀ (its:List Lx.It) (i:Nat),p∈adItems sub w g i its↔∃ m x,its[m]?=some x/\(p=((⟨g,(i+m)*4,none⟩:Addr),x)∨p∈sub (cv w ⟨g,(i+m)*4+3,none⟩) x.alts)
 | [],i=>by simp[adItems]
 | x::xs,i=>by
  rw[adItems,List.mem_cons,List.mem_append,adItems_mem xs (i+1)];constructor
  ·rintro (h | h | ⟨m,y,h1,h2⟩)
   ·exact⟨0,x,rfl,.inl h⟩
   ·exact⟨0,x,rfl,.inr h⟩
   ·exact⟨m+1,y,by simpa using h1,by rw[show i+(m+1)=i+1+m by omega];exact h2⟩
  ·rintro⟨m,y,h1,h2⟩
   cases m with
   | zero =>
    simp only[List.getElem?_cons_zero,Option.some.injEq]at h1;subst h1;rcases h2 with h2 | h2
    ·exact .inl h2
    ·exact .inr (.inl h2)
   | succ m=>exact .inr (.inr ⟨m,y,by simpa using h1,by rw[show i+1+m=i+(m+1) by omega];exact h2⟩)
theorem adAlts_mem {sub:Value->List Lx.Alt->List AI} {w:World} {g:Nat} {p:AI}:∀ (l:List Lx.Alt) (j:Nat),p∈adAlts sub w g j l↔∃ k a,l[k]?=some a/\p∈adItems sub w (blkOf (cv w ⟨g,(j+k)*2,none⟩)) 0 a.1
 | [],j=>by simp[adAlts]
 | a::l,j=>by
  rw[adAlts,List.mem_append,adAlts_mem l (j+1)];constructor
  ·rintro (h | ⟨k,b,h1,h2⟩)
   ·exact⟨0,a,rfl,h⟩
   ·exact⟨k+1,b,by simpa using h1,by rw[show j+(k+1)=j+1+k by omega];exact h2⟩
  ·rintro⟨k,b,h1,h2⟩
   cases k with
   | zero =>
    simp only[List.getElem?_cons_zero,Option.some.injEq]at h1;subst h1;exact .inl h2
   | succ k=>exact .inr ⟨k,b,by simpa using h1,by rw[show j+1+k=j+(k+1) by omega];exact h2⟩
theorem adA_alt {d:Nat}{F:Nat->Prop}{w:World}{v:Value}{l:List Lx.Alt}(h:AltsIn YP (d+1) F w v l){k:Nat}(hk:k<l.length):∃ vi,w.cell? ⟨blkOf v,k*2,none⟩=some vi/\ItemsIn YP d F w vi l[k].1/\∀ m (hm:m<l[k].1.length),((⟨blkOf vi,m*4,none⟩:Addr),l[k].1[m])∈adA (d+1) w v l:=by
 obtain⟨-,vi,hc,hi⟩:=alts_cell h hk;refine⟨vi,hc,hi,fun m hm=>?_⟩;show _∈adAlts (adA d w) w (blkOf v) 0 l;rw[adAlts_mem];refine⟨k,l[k],List.getElem?_eq_getElem hk,?_⟩;have e1:cv w ⟨blkOf v,(0+k)*2,none⟩=vi:=by unfold cv;rw[Nat.zero_add,hc];rfl
 rw[e1,adItems_mem];exact⟨m,l[k].1[m],List.getElem?_eq_getElem hm,.inl (by rw[Nat.zero_add])⟩
theorem adA_sub:∀ {d:Nat} {F:Nat->Prop} {w:World} {v:Value} {l:List Lx.Alt},AltsIn YP d F w v l->∀ {p:AI},p∈adA d w v l->∃ n m d' va,p.1=⟨n,m*4,none⟩/\F n/\ItemAt w n m p.2/\w.cell? ⟨n,m*4+3,none⟩=some va/\AltsIn YP d' F w va p.2.alts/\∀ q∈adA d' w va p.2.alts,q∈adA d w v l
 | 0,_,_,_,_,_,p,hp=>by cases hp
 | d+1,F,w,v,l,h,p,hp=>by
  have hp':p∈adAlts (adA d w) w (blkOf v) 0 l:=hp;rw[adAlts_mem]at hp';obtain⟨k,a,ha,hp2⟩:=hp';obtain⟨hk,rfl⟩:=List.getElem?_eq_some_iff.1 ha;obtain⟨-,vi,hc,hi⟩:=alts_cell h hk;have e1:cv w ⟨blkOf v,(0+k)*2,none⟩=vi:=by unfold cv;rw[Nat.zero_add,hc];rfl
  rw[e1,adItems_mem]at hp2;obtain⟨m,x,hx,hp3⟩:=hp2;obtain⟨hm,rfl⟩:=List.getElem?_eq_some_iff.1 hx;have hi':=hi;unfold ItemsIn ItemsBy at hi';obtain⟨n,ncap,va,hv,hn,hA,hcc⟩:=Seq.at hi' (fun _=>rfl) hm;have eb:blkOf vi=n:=by rw[hv];rfl
  have hc3:w.cell? ⟨n,m*4+3,none⟩=some va:=hcc 3 (by decide);have e2:cv w ⟨blkOf vi,(0+m)*4+3,none⟩=va:=by unfold cv;rw[Nat.zero_add,eb,hc3];rfl
  have hin:∀ q,q∈adA d w va l[k].1[m].alts->q∈adA (d+1) w v l:=by
   intro q hq;show _∈adAlts (adA d w) w (blkOf v) 0 l;rw[adAlts_mem];refine⟨k,l[k],ha,?_⟩;rw[e1,adItems_mem];exact⟨m,_,hx,.inr (by rw[e2];exact hq)⟩
  rw[e2]at hp3;rcases hp3 with rfl | hp3
  ·exact⟨n,m,d,va,by rw[eb,Nat.zero_add],hn,⟨hcc 0 (by decide),hcc 1 (by decide),hcc 2 (by decide)⟩,hc3,hA,hin⟩
  ·obtain⟨n',m',d',va',h1,h2,h3,h4,h5,h6⟩:=adA_sub hA hp3
   exact⟨n',m',d',va',h1,h2,h3,h4,h5,fun q hq=>hin q (h6 q hq)⟩
end
section
open Go.RowKit
open Tr
def symP (fS:ByteArray->Int)(fH:Addr->Int)(p:AI):Int:=if Lx.hlp p.2=true then fH p.1 else fS p.2.name
section
variable {D G:Nat -> Prop} {w:World} {mb S H:Nat} {ta:Option Addr} {nT tc:Nat} {vN vB vK:Value} {fS:ByteArray -> Int} {fH:Addr -> Int} {P:List Lx.Pd}
theorem Mp.cells (h:Mp D G w mb S H ta nT tc vN vB vK fS fH P):w.cell? ⟨mb,0,none⟩=some (.slice ta nT tc)/\w.cell? ⟨mb,5,none⟩=some (.map (some S))/\w.cell? ⟨mb,6,none⟩=some (.map (some H)):=by
 obtain⟨vP,h1,-⟩:=h.ex;exact⟨h1.cell 0,h1.cell 5,h1.cell 6⟩
end
theorem ItemAt.move {w w':World}{n m:Nat}{it:Lx.It}(h:ItemAt w n m it)(hb:w'.heap[n]?=w.heap[n]?):ItemAt w' n m it:=⟨(World.cell?_of_block (w:=w) hb).trans h.kind,(World.cell?_of_block (w:=w) hb).trans h.name,(World.cell?_of_block (w:=w) hb).trans h.mark⟩
theorem symbol_any {D G:Nat->Prop} {w:World} {mb S H:Nat} {ta:Option Addr} {nT tc:Nat} {vN vB vK:Value} {fS:ByteArray->Int} {fH:Addr->Int} {P:List Lx.Pd} (h:Mp D G w mb S H ta nT tc vN vB vK fS fH P) {n m:Nat} {it:Lx.It} (hi:ItemAt w n m it) (hG:G n) (s:Nat) (hs:symP fS fH (⟨n,m*4,none⟩,it)=(s:Int)) :
  Calls Tryz.prog 136 #[.pointer (some ⟨mb,0,none⟩),.pointer (some ⟨n,m*4,none⟩)] w fun e w'=>e=.returned (.int .i64 (s:Int))/\Below w.heap.size w w':=by
 have q1:=hasHelper_item hi;obtain⟨m0,m5,m6⟩:=h.cells;have hnm:=hi.name;unfold symP at hs;go_enter Tryz.func136,Tryz.ntmps136;go_wp2_with fail;refine q1.mono ?_;rintro e w1 ⟨rfl,hw1⟩;obtain rfl:=hw1.symm;cases hh:Lx.hlp it with
 | true =>
  rw[if_pos hh]at hs;have hl:=PMap.look h.pm (fun b hb=>(h.gc b hb).2) (a:=⟨n,m*4,none⟩) hG;rw[hs]at hl;clear q1 hh hs;go_wp2_with fail;go_ret;exact⟨rfl,Below.refl _ _⟩
 | false =>
  rw[if_neg (by rw[hh];decide)]at hs;have hl:=SMap.look (w:=w.drew) (h.sm.move rfl) it.name;have hs':fS it.name=(s:Int):=hs;rw[hs']at hl;have d5:w.drew.cell? ⟨mb,5,none⟩=some (.map (some S)):=m5;have dn:w.drew.cell? ⟨n,m*4+1,none⟩=some (.string it.name):=hnm;have hbd:Below w.heap.size w w.drew:=(Below.refl _ _).drew;clear q1 hh hs hs' m0 m5 m6 hnm hi;go_wp2_with fail
  go_region
  all_goals
   go_wp2_with fail;go_ret;exact⟨rfl,hbd⟩
theorem pright_any {D F G:Nat->Prop} {w:World} {mb S H:Nat} {ta:Option Addr} {nT tc:Nat} {vN vB vK:Value} {fS:ByteArray->Int} {fH:Addr->Int} {P:List Lx.Pd} (h:Mp D G w mb S H ta nT tc vN vB vK fS fH P) {d:Nat} (its:List Lx.It) (vi:Value) (hi:ItemsIn YP d F w vi its) (hF:∀ b,F b->D b) (r:List Nat) (hrl:r.length=its.length) (hsy:∀ k (hk:k<its.length),G (blkOf vi)/\symP fS fH (⟨blkOf vi,k*4,none⟩,its[k])=(r[k]:Int)) (hil:its.length<=10000) (prec:ByteArray) :
  Calls Tryz.prog 105 #[.pointer (some ⟨mb,0,none⟩),.agg #[vi,.string prec]] w fun e w'=>∃ u,e=.returned u/\IR w.heap.size w' u r/\Below w.heap.size w w':=by
 obtain⟨i0,hii,hz0,hz1,hz2⟩:=info_parts Tryz.info3;obtain⟨ia,ic,rfl,him⟩:∃ a c,vi=.slice a its.length c/\its.length<=maxLen:=Seq.len (show Tr.Seq F w YP.eI YP.sI YP.cI (fun va it=>AltsIn YP d F w va it.alts) vi its from hi);unfold maxLen at him;go_enter Tryz.func105,Tryz.ntmps105;go_wp2_with fail;obtain⟨W,hW⟩:∃ W,W=w.alloc (.cells #[.slice ia its.length ic,.string prec] 194):=⟨_,rfl⟩;rw[<-hW];have hB:Below w.heap.size w W:=by rw[hW];exact (Below.refl _ _).alloc (Nat.le_refl _) _
 have hWs:W.heap.size=w.heap.size+1:=by rw[hW];simp
 have kA:Blk W w.heap.size #[.slice ia its.length ic,.string prec] 194:=by rw[hW];exact Blk.new w _ 194
 clear hW
 go_loopg [5,10] its.length (fun k vo i wr=>∃ (j:Nat) (acc:List Nat),j+k=its.length/\i=.int .i64 j/\IR W.heap.size wr vo acc/\Below W.heap.size W wr/\Hid (acc=r.take j))
 case atStart=>exact⟨0,[],by omega,rfl,World.ownsRow_nil _ _ _ _,Below.refl _ _,rfl⟩
 case round =>
  revert wr;intro wz hrel;obtain⟨j,acc,hk,rfl,ho,hbz,HAC⟩:=hrel;have hac:acc.length<=10000:=by rw[HAC.out,List.length_take];omega
  obtain⟨oa,oc,rfl,hom⟩:=own_len ho;have hsz:=hbz.size;have hbw:Below w.heap.size w wz:=hB.trans (hbz.mono (by omega));have kAz:Blk wz w.heap.size _ 194:=(hbz.block _ (by omega)).trans kA;have a0:wz.cell? ⟨w.heap.size,0,none⟩=some (.slice ia its.length ic):=kAz.cell 0
  by_cases hlt:j<its.length
  ·have hz:=h.below hbw
   have hiz:ItemsIn YP d F wz _ its:=ItemsIn.move (fun b hb=>hbw.block b (h.lt b (hF b hb))) (fun _ h=>h) hi;unfold ItemsIn ItemsBy at hiz;obtain⟨n,ncap,va,hv,hn,ha',hcc⟩:=Seq.at hiz (fun _=>rfl) hlt;cases hv;obtain⟨hGn,hs⟩:=hsy j hlt;have hia:ItemAt wz n j its[j]:=⟨hcc 0 (by decide),hcc 1 (by decide),hcc 2 (by decide)⟩;have q1:=symbol_any hz hia hGn _ hs;have HTK:Hid (r.take (j+1)=acc++[r[j]]):=by show _=_;rw[HAC.out,List.take_succ_eq_append_getElem (by omega)]
   generalize r[j]=s at q1 HTK;clear hs hcc hiz hia;go_wp2_with fail;refine q1.mono ?_;rintro e w1 ⟨rfl,hb1⟩;have ho1:=own_below ho hb1;have hs1:=hb1.size;have hb1w:Below W.heap.size W w1:=hbz.trans (hb1.mono hsz);have oA:=ho1.alloc (.cells #[.int .i64 (s:Int)] 3);clear q1
   go_wp2_with (at_builtin;go_loud (refine wpList_append_own_at _ rfl _ _ 24 rfl W.heap.size 3 i0 _ 1 8 Tryz.underlying24 hii hz0 hz1 hz2 rfl (by decide) (.slice oa acc.length oc) _ _ rfl oA ⟨_,0,none⟩ 1 1 [.int .i64 (s:Int)] rfl rfl (news_of (Blk.new _ _ 3)) (by simp[Value.oneCell']) (by unfold maxLen;omega) (by omega) (by simp;omega) ?_;intro v5 w5 hown5 hgrow5 _ hat5;obtain⟨oa5,oc5,hv5,-⟩:=own_len hown5;subst hv5))
   have hb5:Below W.heap.size W w5:=(hb1w.alloc (by omega) _).grown hgrow5 (by simp;omega) (fun k hk=>(ho.lt k hk).1);go_roundg (its.length - (j+1))
   case measure=>omega
   case rel=>exact⟨j+1,acc++[s],by omega,by go_num,by unfold IR;rw[List.length_append,intsV_app];exact hown5,hb5,HTK.out.symm⟩
  ·have:j=its.length:=by omega
   subst this;have HA2:Hid (acc=r):=by have:=HAC.out;rw[<-hrl,List.take_length]at this;exact this
   clear HAC;go_wp2_with fail;go_ret;exact⟨_,rfl,by rw[<-HA2.out];exact own_le ho (by omega),hbw⟩
end
end Go.Proofs.YtlcppnabbicmoaaGreatDoor
