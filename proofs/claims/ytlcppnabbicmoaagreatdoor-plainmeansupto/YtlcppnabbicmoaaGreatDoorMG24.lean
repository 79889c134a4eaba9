import Derived.Test.YtlcppnabbicmoaaGreatDoorMG22
import Derived.Test.YtlcppnabbicmoaaGreatDoorMG23
import Derived.Lib.AppendZeros
set_option maxHeartbeats 8000000
set_option maxRecDepth 1000000
namespace Go.Proofs.YtlcppnabbicmoaaGreatDoor
open Lx Go.Proofs.Tryz
open Go.RowKit Tr
section
variable {D G:Nat -> Prop} {w w':World} {mb H:Nat} {ta:Option Addr} {nT tc:Nat} {vP vB vK vS:Value} {N:List ByteArray} {f:Addr -> Int}
theorem Nm.call (h:Nm D w mb H ta nT tc vP vB vK vS N G f) (hT:nT<=100000) (hN:N.length<=100000) (s:ByteArray) :
  Calls prog 100 #[.pointer (some ⟨mb,0,none⟩),.string s] w fun e w'=>e=.returned (.int .i64 ((nT+N.length:Nat):Int))/\Nm D w' mb H ta nT tc vP vB vK vS (N++[s]) G f/\Kp D w w':=by
 obtain⟨vN,h1,h2,h3⟩:=h.ex;refine (afC h1 h2 (fun e=>(h3 mb e).2.1 rfl) hT hN s).mono ?_;rintro e w' ⟨rfl,v3,hp⟩;exact⟨rfl,h.named h1 hp⟩
theorem Nm.Co (h:Nm D w mb H ta nT tc vP vB vK vS N G f):w.cell? ⟨mb,6,none⟩=some (.map (some H))/\w.cell? ⟨mb,5,none⟩=some vS:=by
 obtain⟨vN,h1,-⟩:=h.ex;exact⟨h1.cell 6,h1.cell 5⟩
end
theorem eG {D:Nat->Prop}{w w':World}{g:Nat}{cs:Array Value}{t:Nat}(h:aj w g cs t)(hk:Kp D w w')(hg:D g):aj w' g cs t:=(hk.block g hg).trans h
structure aj1 (D G:Nat->Prop) (w:World) (mb H cb:Nat) (ta:Option Addr) (nT tc:Nat) (vP vB vK vS:Value) (N:List ByteArray) (f:Addr->Int) (k:Nat) (w':World):Prop where
 nm:Nm D w' mb H ta nT tc vP vB vK vS N G f
 ct:aj w' cb #[.int .i64 (k:Int)] 3
 kp:Kp (fun g=>D g/\g≠cb) w w'
theorem aeS {D G:Nat->Prop} {w:World} {mb H cb xb rb:Nat} {ta:Option Addr} {nT tc:Nat} {vP vB vK vS va:Value} {N:List ByteArray} {f:Addr->Int} {k:Nat} {nm:ByteArray} (h:Nm D w mb H ta nT tc vP vB vK vS N G f) (hC:aj w cb #[.int .i64 (k:Int)] 3) (hX:aj w xb #[.pointer (some ⟨mb,0,none⟩)] 190) (hR:aj w rb #[.string nm,va] 179)
  (dC:D cb) (dX:D xb) (dR:D rb) (hcx:xb≠cb) (hcr:rb≠cb) (ht:nL w) (_:D rR) (htc:rR≠cb) (hG:∀ b,G b->D b/\b≠cb/\je w b) {a:Addr} (ha:G a.block) (bT:nT<=100000) (bN:N.length<=100000) (bk:k<=50000) (bs:nm.size<=2000) :
  Calls prog 102 #[.pointer (some a),.pointer (some ⟨cb,0,none⟩),.pointer (some ⟨xb,0,none⟩),.pointer (some ⟨rb,0,none⟩)] w fun e w'=>e=.returned (.tuple #[])/\aj1 D G w mb H cb ta nT tc vP vB vK vS (N++[Lx.hName nm (k+1)]) (fun c=>if c=a then ((nT+N.length:Nat):Int) else f c) (k+1) w':=by
 obtain⟨k1,hk1,HK⟩:∃ k1:Nat,IntKind.i64.wrap ((k:Int)+1)=(k1:Int)/\Hid (k1=k+1):=⟨k+1,by rw[show ((k:Int)+1)=((k+1:Nat):Int) from by omega];exact wrap64 (by omega),rfl⟩;have c0:w.cell? ⟨cb,0,none⟩=some (.int .i64 (k:Int)):=hC.cell 0;have f0:∀ i,w.frozen? ⟨cb,i,none⟩=false:=hC.frozen;obtain⟨W,hW⟩:∃ W,W=w.setCell ⟨cb,0,none⟩ (.int .i64 (k1:Int)):=⟨_,rfl⟩;have DF:∀ g,g≠cb->W.heap[g]?=w.heap[g]?:=fun g hg=>by rw[hW];exact hs0 hg
 have wL:W.heap.size=w.heap.size:=by rw[hW];simp[World.setCell]
 have hkW:Kp (fun g=>D g/\g≠cb) w W:=⟨by rw[hW];rfl,by rw[hW];rfl,by rw[hW];rfl,by omega,fun g hg=>DF g hg.2⟩;have nW:Nm D W mb H ta nT tc vP vB vK vS N G f:=h.other (fun g _ hd=>DF g fun e=>hd (e ▸ dC)) (by omega);have kC:aj W cb #[.int .i64 (k1:Int)] 3:=by rw[hW];exact hC.set 0 _
 have kX:aj W xb _ 190:=(DF xb hcx).trans hX;have kR:aj W rb _ 179:=(DF rb hcr).trans hR;have tW:nL W:=ht.move (DF rR htc);have Tv:∀ b,G b->D b/\je W b:=fun b hb=>⟨(hG b hb).1,(hG b hb).2.2.move (DF b (hG b hb).2.1)⟩
 have qI:=aij (w:=W.drew) (tW.move rfl) k1 (by have:=HK.out;omega);have d0:W.drew.cell? ⟨cb,0,none⟩=some (.int .i64 (k1:Int)):=kC.drew.cell 0;have dx:W.drew.cell? ⟨xb,0,none⟩=some (.pointer (some ⟨mb,0,none⟩)):=kX.drew.cell 0;have dr:W.drew.cell? ⟨rb,0,none⟩=some (.string nm):=kR.drew.cell 0;have nWd:Nm D W.drew mb H ta nT tc vP vB vK vS N G f:=nW.other (fun _ _ _=>rfl) (lr0);have d6:=nWd.Co.1;have hds:(qw k1).size<=50002:=Nat.le_trans (Pp k1) (by have:=HK.out;omega);have Ju:Hid (Lx.hName nm (k+1)=nm++⟨#[39]⟩++qw k1):=by rw[HK.out];rfl
 generalize qw k1=db at Ju hds qI;have hz1:¬ 9223372036854775807<nm.size+1:=by omega
 have hz2:¬ 9223372036854775807<nm.size+1+db.size:=by omega
 have dXw:D xb/\D rb/\D cb:=⟨dX,dR,dC⟩;clear h hC hX hR ht hG DF nW tW;go_enter func102,ntmps102;go_wp2_with fail;rw[<-hW];clear hW c0 f0
 go_region_held3 (fun w'=>w'.cell? ⟨cb,0,none⟩=some (.int .i64 (k1:Int))/\w'.cell? ⟨xb,0,none⟩=some (.pointer (some ⟨mb,0,none⟩))/\w'.cell? ⟨rb,0,none⟩=some (.string nm)/\w'.cell? ⟨mb,6,none⟩=some (.map (some H))) (first | go_keep | assumption) (first | (go_at_call 103;refine qI.mono ?_;rintro e w3 ⟨rfl,hb3⟩;obtain⟨n3,hk3⟩:=nWd.below hb3;have S3:w3.cell? ⟨cb,0,none⟩=some (.int .i64 (k1:Int))/\w3.cell? ⟨xb,0,none⟩=some (.pointer (some ⟨mb,0,none⟩))/\w3.cell? ⟨rb,0,none⟩=some (.string nm)/\w3.cell? ⟨mb,6,none⟩=some (.map (some H)):=⟨(eG kC.drew hk3 dC).cell 0,(eG kX.drew hk3 dX).cell 0,(eG kR.drew hk3 dR).cell 0,n3.Co.1⟩;have q3:=n3.call bT bN (nm++⟨#[39]⟩++db)) | (go_at_call 100;refine q3.mono ?_;rintro e w4 ⟨rfl,n4,hk4⟩;have S4:w4.cell? ⟨cb,0,none⟩=some (.int .i64 (k1:Int))/\w4.cell? ⟨xb,0,none⟩=some (.pointer (some ⟨mb,0,none⟩))/\w4.cell? ⟨rb,0,none⟩=some (.string nm)/\w4.cell? ⟨mb,6,none⟩=some (.map (some H)):=⟨(eG (eG kC.drew hk3 dC) hk4 dC).cell 0,(eG (eG kX.drew hk3 dX) hk4 dX).cell 0,(eG (eG kR.drew hk3 dR) hk4 dR).cell 0,n4.Co.1⟩;obtain⟨w5,Bj,iB,hg5,hs5⟩:=sV.put n4.pm (fun b hb=>((Tv b hb).2.move (w':=W.drew) rfl).move ((hk4.block b (Tv b hb).1).trans (hk3.block b (Tv b hb).1))) ha ((nT:Int)+(N.length:Int));obtain⟨n5,hk5⟩:=n4.aku iB hg5;have S5:w5.cell? ⟨cb,0,none⟩=some (.int .i64 (k1:Int))/\w5.cell? ⟨xb,0,none⟩=some (.pointer (some ⟨mb,0,none⟩))/\w5.cell? ⟨rb,0,none⟩=some (.string nm)/\w5.cell? ⟨mb,6,none⟩=some (.map (some H)):=⟨(eG (eG (eG kC.drew hk3 dC) hk4 dC) hk5 dC).cell 0,(eG (eG (eG kX.drew hk3 dX) hk4 dX) hk5 dX).cell 0,(eG (eG (eG kR.drew hk3 dR) hk4 dR) hk5 dR).cell 0,n5.Co.1⟩))
 go_wp2_with fail
 go_end0
 rw[Ju.out,<-HK.out];have en:((nT+N.length:Nat):Int)=(nT:Int)+(N.length:Int):=by omega
 rw[en];refine⟨rfl,n5,eG (eG (eG kC.drew hk3 dC) hk4 dC) hk5 dC,?_⟩;have hkd:Kp (fun g=>D g/\g≠cb) w W.drew:=⟨hkW.os,hkW.tape,hkW.output,hkW.size,hkW.block⟩;exact ((hkd.trans hk3 fun g hg=>hg.1).trans hk4 fun g hg=>hg.1).trans hk5 fun g hg=>hg.1
namespace Lx
theorem ajg {A R:List ByteArray}{b:ByteArray}(h:b ∉ A):fix (A++b::R) b=A.length:=by
 refine QD (by simp) fun i hi e=>h ?_
 rw[List.getElem?_append_left hi]at e;exact List.mem_of_getElem? e
def dZ (rs:List Rl):List ByteArray:=xA::rs.flatMap fQ
theorem aik {rs:List Rl}{j:Nat}(hj:j<rs.length):dZ (rs.take (j+1))=dZ (rs.take j)++fQ rs[j]:=by
 unfold dZ;rw[List.take_succ_eq_append_getElem hj,List.flatMap_append,List.cons_append];simp
theorem ahi {rs:List Rl}{j:Nat}(hj:j<rs.length):∃ R,dZ rs=dZ (rs.take j)++rs[j].name::R:=by
 refine⟨(List.range (aH 9 rs[j].alts).length).map (fun k=>hName rs[j].name (k+1))++(rs.drop (j+1)).flatMap fQ,?_⟩;have e:rs=rs.take j++rs[j]::rs.drop (j+1):=by rw[<-List.drop_eq_getElem_cons hj,List.take_append_drop]
 unfold dZ
 conv=>lhs;rw[e]
 rw[List.flatMap_append,List.flatMap_cons];simp[fQ]
theorem ail {b:ByteArray}(h:isName b=true):∀ c∈b.data.toList,(small (c.toNat:Int) || digit (c.toNat:Int))=true:=by
 unfold isName isWord EQ at h;simp only[Bool.and_eq_true,List.all_eq_true]at h;exact h.2
theorem XP {b:ByteArray}(h:isName b=true):b.size<=12:=by
 unfold isName isWord at h;simp only[Bool.and_eq_true,decide_eq_true_eq]at h;exact h.1.1.2
theorem agk {b:ByteArray}(h:isToken b=true):b.size<=12:=by
 unfold isToken isWord at h;simp only[Bool.and_eq_true,decide_eq_true_eq]at h;exact h.1.1.2
theorem ain {b c:ByteArray}{k:Nat}(h:isName c=true):hName b k≠c:=by
 intro e;have hm:(39:UInt8)∈c.data.toList:=by
  rw[<-e];unfold hName aah;simp
 have:=ail h 39 hm;revert this;decide
theorem YI {c:ByteArray}(h:isName c=true):xA≠c:=by
 intro e;rw[<-e]at h;revert h;decide
theorem Vv {b:ByteArray}(h:isToken b=true):isName b=false:=by
 unfold isToken isName isWord at *;simp only[Bool.and_eq_true,decide_eq_true_eq]at h;have h1:=h.1.2;have:small (bY b 0)=false:=by
  unfold capital at h1;unfold small;simp only[decide_eq_true_eq]at h1;simp only[decide_eq_false_iff_not];omega
 rw[this];simp
theorem agl {rs:List Rl}(hn:∀ r∈rs,isName r.name=true)(nd:(rs.map Rl.name).Nodup){j:Nat}(hj:j<rs.length):rs[j].name ∉ dZ (rs.take j):=by
 have hj1:=hn rs[j] (List.getElem_mem hj);intro h;rcases List.mem_cons.1 h with h | h
 ·exact YI hj1 h.symm
 ·obtain⟨r,hr,h⟩:=List.mem_flatMap.1 h
  unfold fQ at h;rcases List.mem_cons.1 h with h | h
  ·obtain⟨i,hi,rfl⟩:=List.getElem_of_mem hr
   rw[List.length_take]at hi;rw[List.getElem_take]at h;have hinj:=List.pairwise_iff_getElem.1 nd i j (by simp;omega) (by simpa using hj) (by omega);simp only[List.getElem_map]at hinj;exact hinj h.symm
  ·obtain⟨k,-,e⟩:=List.mem_map.1 h
   exact ain hj1 e
theorem Zm {rs:List Rl}(hn:∀ r∈rs,isName r.name=true)(nd:(rs.map Rl.name).Nodup){j:Nat}(hj:j<rs.length):fix (dZ rs) rs[j].name=(dZ (rs.take j)).length:=by
 obtain⟨R,e⟩:=ahi hj;rw[e];exact ajg (agl hn nd hj)
end Lx
theorem XQ (ar:Array Value)(w:World):(callFunc 101 ar).run prog w=.ok (.enter 101 ar) w:=by kernel_rfl
theorem ahj (ar:Array Value)(w:World):(callFunc 102 ar).run prog w=.ok (.enter 102 ar) w:=by kernel_rfl
def hlA (w:World)(v:Value)(l:List Lx.Alt):List AI:=(aT 9 w v l).filter fun p=>Lx.hlp p.2
theorem Qq {F:Nat->Prop}{w:World}{v:Value}{l:List Lx.Alt}(h:ay YP 9 F w v l):(hlA w v l).length=(aH 9 l).length:=by
 unfold hlA aH;rw[<-EK h,List.filter_map,List.length_map];rfl
theorem Zn {F:Nat->Prop}{w:World}{v:Value}{l:List Lx.Alt}(h:ay YP 9 F w v l):(hlA w v l).map Prod.snd=aH 9 l:=by
 unfold hlA aH;rw[<-EK h,List.filter_map];rfl
theorem aeT {D F G:Nat->Prop} {w:World} {mb H cb xb rb:Nat} {ta:Option Addr} {nT tc:Nat} {vP vB vK vS va:Value} {N:List ByteArray} {f:Addr->Int} {nm:ByteArray} {l:List Lx.Alt} (h:Nm D w mb H ta nT tc vP vB vK vS N G f) (hC:aj w cb #[.int .i64 0] 3) (hX:aj w xb #[.pointer (some ⟨mb,0,none⟩)] 190) (hR:aj w rb #[.string nm,va] 179)
  (dC:D cb) (dX:D xb) (dR:D rb) (hcx:xb≠cb) (hcr:rb≠cb) (ht:nL w) (dT:D rR) (htc:rR≠cb) (hG:∀ b,G b->D b/\b≠cb/\je w b) (hF:∀ b,F b->D b/\b≠cb) (hA:ay YP 9 F w va l) (Tw:∀ p∈aT 9 w va l,G p.1.block) (nd:((aT 9 w va l).map Prod.fst).Nodup) (bT:nT<=100000) (bN:N.length+(hlA w va l).length<=50000) (bs:nm.size<=2000) :
  Calls prog 94 #[va,.func (.func 101) #[] #[],.func (.func 102) #[] #[.pointer (some ⟨cb,0,none⟩),.pointer (some ⟨xb,0,none⟩),.pointer (some ⟨rb,0,none⟩)]] w fun e w'=>e=.returned (.tuple #[])/\∃ f',Nm D w' mb H ta nT tc vP vB vK vS (N++hNames nm (hlA w va l).length) G f'/\Kp (fun g=>D g/\g≠cb) w w'/\Av (nT+N.length) (hlA w va l) f f':=by
 have hnd:((hlA w va l).map Prod.fst).Nodup:=nd.sublist (List.filter_sublist.map _);have q:=PX 9 101 102 #[] #[.pointer (some ⟨cb,0,none⟩),.pointer (some ⟨xb,0,none⟩),.pointer (some ⟨rb,0,none⟩)] Lx.hlp F w (fun L w'=>∃ f',Nm D w' mb H ta nT tc vP vB vK vS (N++hNames nm L.length) G f'/\aj w' cb #[.int .i64 (L.length:Int)] 3/\Kp (fun g=>D g/\g≠cb) w w'/\Av (nT+N.length) L f f') (fun p=>G p.1.block) (hlA w va l) XQ ahj
  (fun w' n m it _ hi=>Ov hi)
  (fun w' L n m it hI _ hi hwd hq hR'=>by
   obtain⟨f',i1,i2,i3,i4⟩:=hI;obtain⟨R,hR'⟩:=hR';have hlen:L.length+1<=(hlA w va l).length:=by rw[hR'];simp
   have hnd':((L++[((⟨n,m*4,none⟩:Addr),it)]).map Prod.fst).Nodup:=by
    refine hnd.sublist (List.Sublist.map _ ?_);rw[hR',show L++(((⟨n,m*4,none⟩:Addr),it)::R)=(L++[((⟨n,m*4,none⟩:Addr),it)])++R by simp];exact List.sublist_append_left _ _
   refine (aeS (a:=⟨n,m*4,none⟩) i1 i2 (eG hX i3 ⟨dX,hcx⟩) (eG hR i3 ⟨dR,hcr⟩) dC dX dR hcx hcr (ht.move (i3.block _ ⟨dT,htc⟩)) dT htc (fun b hb=>⟨(hG b hb).1,(hG b hb).2.1,(hG b hb).2.2.move (i3.block b ⟨(hG b hb).1,(hG b hb).2.1⟩)⟩) hq bT (by rw[List.length_append,O5];omega) (by omega) bs).mono ?_;rintro e w'' ⟨rfl,j1,j2,j3⟩;refine⟨rfl,_,?_,?_,i3.trans j3 fun g hg=>hg,i4.push hnd'⟩
   ·rw[List.length_append,List.length_singleton,afD,<-List.append_assoc]
    have e:((nT+(N++hNames nm L.length).length:Nat):Int)=((nT+N.length+L.length:Nat):Int):=by rw[List.length_append,O5,Nat.add_assoc]
    rw[e]at j1;exact j1
   ·rw[List.length_append,List.length_singleton];exact j2)
  (fun L w' hI b hb=>by obtain⟨f',i1,i2,i3,i4⟩:=hI;exact i3.block b (hF b hb))
  va l hA (fun p hp=>Tw p hp) w [] ⟨f,by simpa [hNames]using h,hC,Kp.refl _ _,fun a _=>rfl,fun k p hp=>by simp at hp⟩ ⟨[],by simp[hlA]⟩
 refine q.mono ?_;rintro e w' ⟨rfl,f',i1,i2,i3,i4⟩;rw[List.nil_append]at i1 i4;exact⟨rfl,f',i1,i3,i4⟩
namespace Lx
def iV (T:List ByteArray)(b:ByteArray):Int:=if 0<=bA T b then bA T b else 0
theorem aio (a:ByteArray):iV [a]=fun _=>0:=by
 funext b;unfold iV;have:=zZ [a] b;simp only[List.length_singleton]at this
 split <;> omega
theorem ajh {T:List ByteArray}{b:ByteArray}(h:0<=bA T b)(a:ByteArray):bA (T++[a]) b=bA T b:=by
 unfold bA fix at *;rw[List.findIdx_append]
 split at h
 ·rename_i h1
  rw[if_pos h1,if_pos (by rw[List.length_append];omega),if_pos h1]
 ·omega
theorem aip {T:List ByteArray}{b:ByteArray}(h:¬ 0<=bA T b):(fun c=>if c=b then (T.length:Int) else iV T c)=iV (T++[b]):=by
 funext c
 by_cases hc:c=b
 ·rw[if_pos hc,hc]
  have hn:b ∉ T:=fun hm=>h (iG.2 hm)
  have:=QE (l:=T++[b]) (b:=b) (j:=T.length) (by simp) (fun i hi e=>hn (by rw[List.getElem?_append_left hi]at e;exact List.mem_of_getElem? e));unfold iV;rw[this,if_pos (by omega)]
 ·rw[if_neg hc]
  unfold iV
  by_cases h0:0<=bA T c
  ·rw[ajh h0]
  ·rw[if_neg h0,if_neg]
   intro h1;rcases List.mem_append.1 (iG.1 h1) with h2 | h2
   ·exact h0 (iG.2 h2)
   ·exact hc (List.mem_singleton.1 h2)
theorem XR {a b:ByteArray}{T:List ByteArray}(h:b≠a):iV (a::T) b=0↔¬ 0<=bA (a::T) b:=by
 unfold iV;constructor
 ·intro h0 h1
  rw[if_pos h1]at h0;unfold bA fix at h0;rw[List.findIdx_cons]at h0;simp[Ne.symm h]at h0
  split at h0 <;> omega
 ·intro h1
  rw[if_neg h1]
def gD (ws:List Wd):List ByteArray:=(ws.filter fun x=>decide (x.1≠1) && decide (x.1≠2)).map fun x=>x.2.1
theorem ahk (a b:List Wd):gD (a++b)=gD a++gD b:=by unfold gD;rw[List.filter_append,List.map_append]
def nX (ws:List Wd):List ByteArray:=(ws.filter fun x=>decide (x.1≠1) && decide (x.1≠2) && decide (x.1≠4)).map fun x=>x.2.1
theorem KV (a b:List Wd):nX (a++b)=nX a++nX b:=by unfold nX;rw[List.filter_append,List.map_append]
theorem Kz {α:Type} (f:α->List Wd):∀ l:List α,nX (l.flatMap f)=l.flatMap fun a=>nX (f a)
 | []=>rfl
 | a::l=>by rw[List.flatMap_cons,KV,Kz f l,List.flatMap_cons]
theorem WV {l:List ByteArray}{b c:ByteArray}(h:c∈l):c∈iM l b:=by
 unfold iM;split
 ·exact h
 ·exact List.mem_append_left _ h
theorem Vw:∀ (ws:List Wd) (L:List ByteArray),(∀ x∈ws,x.1=4->x.2.1∈L)->bQ L (gD ws)=bQ L (nX ws)
 | [],_,_=>rfl
 | x::ws,L,h=>by
  have hr:∀ L',(∀ c,c∈L->c∈L')->bQ L' (gD ws)=bQ L' (nX ws):=fun L' hL=>Vw ws L' fun y hy e=>hL _ (h y (List.mem_cons_of_mem _ hy) e)
  by_cases h12:x.1=1\/x.1=2
  ·have e1:gD (x::ws)=gD ws:=by unfold gD;rw[List.filter_cons_of_neg];rcases h12 with h | h <;> simp[h]
   have e2:nX (x::ws)=nX ws:=by unfold nX;rw[List.filter_cons_of_neg];rcases h12 with h | h <;> simp[h]
   rw[e1,e2];exact hr L fun _ h=>h
  ·have n1:x.1≠1:=fun e=>h12 (.inl e)
   have n2:x.1≠2:=fun e=>h12 (.inr e)
   have e1:gD (x::ws)=x.2.1::gD ws:=by unfold gD;rw[List.filter_cons_of_pos (by simp[n1,n2])];rfl
   by_cases h4:x.1=4
   ·have e2:nX (x::ws)=nX ws:=by unfold nX;rw[List.filter_cons_of_neg];simp[h4]
    have e3:iM L x.2.1=L:=if_pos (iG.2 (h x (List.mem_cons_self ..) h4));rw[e1,e2,show bQ L (x.2.1::gD ws)=bQ (iM L x.2.1) (gD ws) from rfl,e3];exact hr L fun _ h=>h
   ·have e2:nX (x::ws)=x.2.1::nX ws:=by unfold nX;rw[List.filter_cons_of_pos (by simp[n1,n2,h4])];rfl
    rw[e1,e2];exact hr _ fun _ h=>WV h
theorem V5:∀ (d:Nat) (l:List Alt),nX (dD d l)=jb d l
 | 0,l=>rfl
 | d+1,l=>by
  rw[Er,Kz,OY];congr 1;funext a;unfold qd;have e4:nX (if a.2.1=aM then [] else [(4,a.2.1,a.2.2)])=[]:=by split <;> rfl
  rw[KV,e4,List.append_nil,Kz];congr 1;funext x;unfold j6 mQ;rw[KV,V5 d];congr 1
  split
  ·rename_i h;rw[if_neg (by omega)];rfl
  ·split
   ·rfl
   ·rfl
theorem ahl {g:Gr}(h:∀ x∈iO g,x.1=4->x.2.1∈iD g):bQ [iY] (gD (iO g))=aA g:=by
 have e0:iO g=iC g++g.rules.flatMap fun r=>(1,r.name,r.place)::dD 9 r.alts:=rfl
 have e1:gD (iC g)=iD g:=by
  unfold gD iD eX;congr 1;refine List.filter_eq_self.2 fun x hx=>?_
  unfold iC at hx;obtain⟨lv,-,hx⟩:=List.mem_flatMap.1 hx;obtain⟨t,-,rfl⟩:=List.mem_map.1 hx;rfl
 have hm:∀ (bs l:List ByteArray) (c:ByteArray),c∈l\/c∈bs->c∈bQ l bs:=by
  intro bs
  induction bs with
  | nil =>
   intro l c h;rcases h with h | h
   ·exact h
   ·cases h
  | cons b bs ih =>
   intro l c h;refine ih (iM l b) c ?_;rcases h with h | h
   ·exact .inl (WV h)
   ·rcases List.mem_cons.1 h with h | h
    ·subst h
     refine .inl ?_;unfold iM;split
     ·rename_i h0;exact iG.1 h0
     ·simp
    ·exact .inr h
 rw[e0,ahk,Eo,e1,Vw _ _ fun x hx e=>hm _ _ _ (.inr (h x (by rw[e0];exact List.mem_append_right _ hx) e)),Kz];unfold aA;rw[Eo];congr 1;congr 1;funext r;rw[show (1,r.name,r.place)::dD 9 r.alts=[(1,r.name,r.place)]++dD 9 r.alts from rfl,KV,V5];rfl
end Lx
theorem Nm.weak {D D' G:Nat->Prop}{w:World}{mb H:Nat}{ta:Option Addr}{nT tc:Nat}{vP vB vK vS:Value}{N:List ByteArray}{f:Addr->Int}(h:Nm D w mb H ta nT tc vP vB vK vS N G f)(hD:∀ g,D' g->D g):Nm D' w mb H ta nT tc vP vB vK vS N G f:=by
 obtain⟨⟨vN,h1,h2,h3⟩,e1,e2,e3,e4,e5⟩:=h;exact⟨⟨vN,h1,h2,fun g hg=>⟨fun hd=>(h3 g hg).1 (hD g hd),(h3 g hg).2⟩⟩,e1,fun hd=>e2 (hD _ hd),fun hd=>e3 (hD _ hd),e4,fun g hg=>e5 g (hD g hg)⟩
theorem Nm.new {D G:Nat->Prop}{w:World}{mb H:Nat}{ta:Option Addr}{nT tc:Nat}{vP vB vK vS:Value}{N:List ByteArray}{f:Addr->Int}(h:Nm D w mb H ta nT tc vP vB vK vS N G f){w':World}(hb:Below w.heap.size w w')(hs:w.heap.size<w'.heap.size):Nm (fun g=>D g\/g=w.heap.size) w' mb H ta nT tc vP vB vK vS N G f/\Kp D w w':=by
 refine⟨?_,Kp.below hb h.lt⟩;have lm:=h.lm;have lH:H<w.heap.size:=iT.lt h.pm;obtain⟨⟨vN,h1,h2,h3⟩,e1,e2,e3,e4,e5⟩:=h;refine⟨⟨vN,(hb.block _ lm).trans h1,own_below h2 hb,fun g hg=>⟨?_,(h3 g hg).2⟩⟩,e1.move (hb.block _ lH),?_,?_,e4,?_⟩
 ·rintro (h' | h')
  ·exact (h3 g hg).1 h'
  ·have:=(h2.lt g hg).2;omega
 ·rintro (h' | h')
  ·exact e2 h'
  ·omega
 ·rintro (h' | h')
  ·exact e3 h'
  ·omega
 ·rintro g (h' | h')
  ·have:=e5 g h';omega
  ·omega
theorem V6 {α:Type} {f:Nat->α->List AI}:∀ (l:List α) (j:Nat),((qg f j l).map Prod.fst).Nodup->∀ {i k:Nat} {a b:α},i<k->l[i]?=some a->l[k]?=some b->∀ {p q:AI},p∈f (j+i) a->q∈f (j+k) b->p.1≠q.1
 | [],j,_,i,k,a,b,_,h,_,_,_,_,_=>by simp at h
 | x::xs,j,hn,i,k,a,b,hik,ha,hb,p,q,hp,hq=>by
  rw[qg,List.map_append,List.nodup_append]at hn;obtain⟨k',rfl⟩:∃ k',k=k'+1:=⟨k-1,by omega⟩;have hb':xs[k']?=some b:=by simpa using hb
  have hq':q∈f (j+1+k') b:=by rw[show j+1+k'=j+(k'+1) by omega];exact hq
  cases i with
  | zero =>
   simp only[List.getElem?_cons_zero,Option.some.injEq]at ha;subst ha;refine hn.2.2 _ (List.mem_map.2 ⟨p,hp,rfl⟩) _ (List.mem_map.2 ⟨q,?_,rfl⟩);have:∀ (l:List α) (j m:Nat),l[m]?=some b->q∈f (j+m) b->q∈qg f j l:=by
    intro l
    induction l with
    | nil=>intro j m h;simp at h
    | cons y l ih =>
     intro j m h hq;rw[qg,List.mem_append];cases m with
     | zero=>simp only[List.getElem?_cons_zero,Option.some.injEq]at h;subst h;exact .inl hq
     | succ m=>exact .inr (ih (j+1) m (by simpa using h) (by rw[show j+1+m=j+(m+1) by omega];exact hq))
   exact this xs (j+1) k' hb' hq'
  | succ i =>
   exact V6 xs (j+1) hn.2.1 (i:=i) (k:=k') (by omega) (by simpa using ha) hb' (by rw[show j+1+i=j+(i+1) by omega];exact hp) hq'
theorem O6 {α:Type} {f:Nat->α->List AI} {b:α} {q:AI}:∀ (l:List α) (j m:Nat),l[m]?=some b->q∈f (j+m) b->q∈qg f j l
 | [],j,m,h,_=>by simp at h
 | y::l,j,m,h,hq=>by
  rw[qg,List.mem_append];cases m with
  | zero=>simp only[List.getElem?_cons_zero,Option.some.injEq]at h;subst h;exact .inl hq
  | succ m=>exact .inr (O6 l (j+1) m (by simpa using h) (by rw[show j+1+m=j+(m+1) by omega];exact hq))
theorem Vx {α:Type} {f:Nat->α->List AI}:∀ (l:List α) (j m:Nat) (b:α),((qg f j l).map Prod.fst).Nodup->l[m]?=some b->((f (j+m) b).map Prod.fst).Nodup
 | [],j,m,b,_,h=>by simp at h
 | y::l,j,m,b,hn,h=>by
  rw[qg,List.map_append,List.nodup_append]at hn;cases m with
  | zero=>simp only[List.getElem?_cons_zero,Option.some.injEq]at h;subst h;exact hn.1
  | succ m =>
   have:=Vx l (j+1) m b hn.2.1 (by simpa using h);rw[show j+1+m=j+(m+1) by omega]at this;exact this
structure vQ (nT:Nat) (rs:List Lx.Rl) (j:Nat) (f0 f:ByteArray->Int):Prop where
 rule:∀ i (hi:i<rs.length),i<j->f rs[i].name=((nT+(dZ (rs.take i)).length:Nat):Int)
 tok:∀ c,(∀ i (hi:i<rs.length),i<j->rs[i].name≠c)->f c=f0 c
theorem vQ.step {nT:Nat}{rs:List Lx.Rl}{j:Nat}{f0 f:ByteArray->Int}(h:vQ nT rs j f0 f)(nd:(rs.map Lx.Rl.name).Nodup)(hj:j<rs.length):vQ nT rs (j+1) f0 (fun c=>if c=rs[j].name then ((nT+(dZ (rs.take j)).length:Nat):Int) else f c):=by
 refine⟨fun i hi hlt=>?_,fun c hc=>?_⟩
 ·by_cases e:i=j
  ·subst e;simp
  ·have hne:rs[i].name≠rs[j].name:=by
    have:=List.pairwise_iff_getElem.1 nd i j (by simpa using hi) (by simpa using hj) (by omega);simpa using this
   simp only[if_neg hne];exact h.rule i hi (by omega)
 ·have hne:c≠rs[j].name:=fun e=>hc j hj (by omega) e.symm
  simp only[if_neg hne];exact h.tok c fun i hi hlt=>hc i hi (by omega)
def vU (w:World)(gR nT:Nat)(rs:List Lx.Rl)(j:Nat)(f:Addr->Int):Prop:=∀ i (hi:i<rs.length),i<j->∀ k p,(hlA w (cv w ⟨gR,i*2+1,none⟩) rs[i].alts)[k]?=some p->f p.1=((nT+(dZ (rs.take i)).length+1+k:Nat):Int)
theorem vU.step {w:World}{gR nT:Nat}{rs:List Lx.Rl}{j:Nat}{f f':Addr->Int}(h:vU w gR nT rs j f)(hj:j<rs.length)(nd:((Qo w gR 0 rs).map Prod.fst).Nodup)(ht:Av (nT+(dZ (rs.take j)).length+1) (hlA w (cv w ⟨gR,j*2+1,none⟩) rs[j].alts) f f'):vU w gR nT rs (j+1) f':=by
 intro i hi hlt k p hp
 by_cases e:i=j
 ·subst e
  exact ht.2 k p hp
 ·rw[ht.1 p.1 fun q hq e'=>?_]
  ·exact h i hi (by omega) k p hp
  ·have h1:p∈aT 9 w (cv w ⟨gR,i*2+1,none⟩) rs[i].alts:=(List.mem_filter.1 (List.mem_of_getElem? hp)).1
   have h2:q∈aT 9 w (cv w ⟨gR,j*2+1,none⟩) rs[j].alts:=(List.mem_filter.1 hq).1;exact V6 rs 0 nd (i:=i) (k:=j) (by omega) (List.getElem?_eq_getElem hi) (List.getElem?_eq_getElem hj) (by rw[Nat.zero_add];exact h1) (by rw[Nat.zero_add];exact h2) e'.symm
structure akv (D G:Nat->Prop) (w:World) (mb S H gR:Nat) (ta:Option Addr) (nT tc:Nat) (vP vB vK:Value) (rs:List Lx.Rl) (j:Nat) (f0:ByteArray->Int) (w':World):Prop where
 ex:∃ f fS,Nm (fun g=>D g\/g=S) w' mb H ta nT tc vP vB vK (.map (some S)) (dZ (rs.take j)) G f/\SMap w' S fS/\vQ nT rs j f0 fS/\vU w gR nT rs j f
 kp:Kp D w w'
theorem afb {D F:Nat->Prop} {w:World} {mb S H:Nat} {ta:Option Addr} {nT tc:Nat} {vP vB vK vR:Value} {rs:List Lx.Rl} {f0:ByteArray->Int} (kM:aj w mb #[.slice ta nT tc,.slice none 0 0,vP,vB,vK,.map (some S),.map (some H)] 125) (hS:SMap w S f0) (hH:sV (fun b=>F b/\je w b) w H (fun _=>0)) (hR:Tr.eO F w 179 2 cR KR vR rs) (hF:∀ b,F b->D b) (hD:∀ b,D b->b<w.heap.size) (nM:¬ D mb) (nS:¬ D S) (nH:¬ D H) (hSH:S≠H) (ht:nL w) (dT:D rR) (nd:(rs.map Lx.Rl.name).Nodup) (hn:∀ r∈rs,r.name.size<=2000) (bT:nT<=100000) (bN:(dZ rs).length<=50000) (bR:rs.length<=100000) :
  Calls prog 57 #[.pointer (some ⟨mb,0,none⟩),vR] w fun e w'=>e=.returned (.tuple #[])/\akv D (fun b=>F b/\je w b) w mb S H (aZ vR) ta nT tc vP vB vK rs rs.length f0 w':=by
 have zG:mH F w vR rs:=⟨fun b hb=>hD b (hF b hb),eO.weak hR fun A v x hA hk=>fD.weak hA hk⟩;have hap:=U5 hR;obtain⟨a,c,rfl,hm⟩:=zG.len;have lm:=kM.lt;have lS:=hS.lt;have lH:H<w.heap.size:=iT.lt hH;have DI:mb≠S:=fun e=>by
  obtain⟨es,clock,h1,-⟩:=hS;unfold aj at kM;rw[e,h1]at kM;cases kM
 have hmH:mb≠H:=fun e=>by
  obtain⟨es,clock,h1,-⟩:=hH;unfold aj at kM;rw[e,h1]at kM;cases kM
 unfold maxLen at hm;obtain⟨W,hW⟩:∃ W,W=w.alloc (.cells #[.pointer (some ⟨mb,0,none⟩)] 190):=⟨_,rfl⟩;have hbW:Below w.heap.size w W:=by rw[hW];exact (Below.refl _ _).alloc (lr0) _
 have wL:W.heap.size=w.heap.size+1:=by rw[hW];simp
 have kX:aj W w.heap.size #[.pointer (some ⟨mb,0,none⟩)] 190:=by rw[hW];exact aj.new w _ 190
 have nW:Nm (fun g=>D g\/g=S\/g=w.heap.size) W mb H ta nT tc vP vB vK (.map (some S)) [] (fun b=>F b/\je w b) (fun _=>0):=by
  refine⟨⟨.slice none 0 0,(hbW.block _ lm).trans kM,World.ownsRow_nil _ _ _ _,fun g hg=>(by cases hg)⟩,hH.move (hbW.block _ lH),?_,?_,hmH,?_⟩
  ·rintro (h | h | h)
   ·exact nM h
   ·exact DI h
   ·omega
  ·rintro (h | h | h)
   ·exact nH h
   ·exact hSH h.symm
   ·omega
  ·rintro g (h | h | h)
   ·have:=hD g h;omega
   ·omega
   ·omega
 have q0:=nW.call bT (by simp) xA;have x0:W.cell? ⟨w.heap.size,0,none⟩=some (.pointer (some ⟨mb,0,none⟩)):=kX.cell 0;go_enter func57,ntmps57;go_wp2_with fail;rw[<-hW];refine q0.mono ?_;rintro e w1 ⟨rfl,n1,hk1⟩;have sj:aj w1 w.heap.size _ 190:=eG kX hk1 (.inr (.inr rfl));have hS1:SMap w1 S f0:=(hS.move (hbW.block _ lS)).move (hk1.block S (.inr (.inl rfl)));have xJ:Kp D w w1:=(Kp.below hbW hD).trans hk1 fun g hg=>.inl hg
 have sy0:vQ nT rs 0 f0 f0:=⟨fun i hi h=>absurd h (by omega),fun _ _=>rfl⟩;have he0:vU w (aZ (.slice a rs.length c)) nT rs 0 (fun _=>0):=fun i hi h=>absurd h (by omega)
 clear q0 x0 hW hbW wL kX nW hk1 hS hH;go_wp2_with fail
 go_loopg [11] rs.length (fun k i wr=>∃ (j:Nat) (f:Addr->Int) (fS:ByteArray->Int),j+k=rs.length/\i=.int .i64 j/\Nm (fun g=>D g\/g=S\/g=w.heap.size) wr mb H ta nT tc vP vB vK (.map (some S)) (dZ (rs.take j)) (fun b=>F b/\je w b) f/\SMap wr S fS/\aj wr w.heap.size #[.pointer (some ⟨mb,0,none⟩)] 190/\Kp D w wr/\vQ nT rs j f0 fS/\vU w (aZ (.slice a rs.length c)) nT rs j f)
 case atStart=>exact⟨0,_,_,by omega,rfl,n1,hS1,sj,xJ,sy0,he0⟩
 case round =>
  clear n1 hS1 sj xJ sy0 he0;clear w1;obtain⟨j,f,fS,hk,rfl,nr,hSr,kXr,hkr,sy,he⟩:=hrel
  by_cases hlt:j<rs.length
  ·obtain⟨gR,MC,va,hv,hFg,hA,c0,c1⟩:=zG.at hlt
   cases hv;have Tx:aZ (.slice (some ⟨gR,0,none⟩) rs.length c)=gR:=rfl;rw[Tx]at he hap;have wM:cv w ⟨gR,j*2+1,none⟩=va:=by unfold cv;rw[c1];rfl
   have bkr:=hkr.block gR (hF gR hFg);have d0:wr.cell? ⟨gR,j*2,none⟩=some (.string rs[j].name):=(World.cell?_of_block (w:=w) bkr).trans c0;have d1:wr.cell? ⟨gR,j*2+1,none⟩=some va:=(World.cell?_of_block (w:=w) bkr).trans c1;have hnj:=hn rs[j] (List.getElem_mem hlt);have hys:=sy.step nd hlt;have hlen:(dZ (rs.take (j+1))).length<=50000:=by
    obtain⟨R,e⟩:∃ R,dZ rs=dZ (rs.take (j+1))++R:=by
     refine⟨(rs.drop (j+1)).flatMap fQ,?_⟩;unfold dZ
     conv=>lhs;rw[<-List.take_append_drop (j+1) rs]
     rw[List.flatMap_append,List.cons_append]
    rw[e,List.length_append]at bN;omega
   have hsc:=aik hlt;have hnr:fQ rs[j]=rs[j].name::hNames rs[j].name (hlA w va rs[j].alts).length:=by rw[Qq hA];rfl
   rw[hsc,hnr]at hlen;have Tw:∀ p∈aT 9 w va rs[j].alts,F p.1.block/\je w p.1.block:=fun p hp=>hap.1 p (O6 rs 0 j (List.getElem?_eq_getElem hlt) (by rw[Nat.zero_add,wM];exact hp))
   have Fq:((aT 9 w va rs[j].alts).map Prod.fst).Nodup:=by
    have:=Vx rs 0 j _ hap.2 (List.getElem?_eq_getElem hlt);rw[Nat.zero_add,wM]at this;exact this
   have hstep:∀ f',Av (nT+(dZ (rs.take j)).length+1) (hlA w va rs[j].alts) f f'->vU w gR nT rs (j+1) f':=fun f' ht'=>he.step hlt hap.2 (by rw[wM];exact ht')
   have HST:Hid (∀ f',Av (nT+(dZ (rs.take j)).length+1) (hlA w va rs[j].alts) f f'->vU w gR nT rs (j+1) f'):=hstep;have HSC:Hid (dZ (rs.take (j+1))=dZ (rs.take j)++rs[j].name::hNames rs[j].name (hlA w va rs[j].alts).length):=by show _=_;rw[hsc,hnr]
   clear hstep hsc hnr c0 c1 wM he hap sy;have Rt:vQ nT rs (j+1) f0 fun c=>if c=rs[j].name then ((nT+(dZ (rs.take j)).length:Nat):Int) else fS c:=hys
   clear hys;generalize rs[j].alts=al at *;generalize rs[j].name=nm at *;obtain⟨N,hN⟩:∃ N,N=dZ (rs.take j):=⟨_,rfl⟩;rw[<-hN]at nr hlen HST HSC Rt;clear hN;obtain⟨sa,sc,rfl,-⟩:=ay.len hA;obtain⟨W1,hW1⟩:∃ W1,W1=wr.alloc (.cells #[.string nm,.slice sa al.length sc] 179):=⟨_,rfl⟩;have hb1:Below wr.heap.size wr W1.drew:=by rw[hW1];exact ((Below.refl _ _).alloc (lr0) _).drew
   have hs1:W1.heap.size=wr.heap.size+1:=by rw[hW1];simp
   have kR:aj W1 wr.heap.size #[.string nm,.slice sa al.length sc] 179:=by rw[hW1];exact aj.new wr _ 179
   obtain⟨n1,hk1⟩:=nr.new hb1 (by show wr.heap.size<W1.heap.size;omega);have lXr:=kXr.lt;have sj:aj W1.drew w.heap.size _ 190:=(hb1.block _ lXr).trans kXr;have e1x:W1.drew.cell? ⟨w.heap.size,0,none⟩=some (.pointer (some ⟨mb,0,none⟩)):=sj.cell 0;have e1r:W1.drew.cell? ⟨wr.heap.size,0,none⟩=some (.string nm):=kR.drew.cell 0;have e15:=n1.Co.2;have hlN:N.length<=50000:=by rw[List.length_append]at hlen;omega
   have q1:=n1.call bT (by omega) nm;have hS1:SMap W1.drew S fS:=hSr.move (hb1.block _ (nr.lt S (.inr (.inl rfl))));go_wp2_with fail;rw[<-hW1];clear hW1 d0 d1
   go_region_held3 (fun w'=>w'.cell? ⟨w.heap.size,0,none⟩=some (.pointer (some ⟨mb,0,none⟩))/\w'.cell? ⟨wr.heap.size,0,none⟩=some (.string nm)/\w'.cell? ⟨mb,5,none⟩=some (.map (some S))) (first | go_keep | assumption) ((go_at_call 100;refine q1.mono ?_;rintro e w3 ⟨rfl,n3,hk3⟩;have S3:w3.cell? ⟨w.heap.size,0,none⟩=some (.pointer (some ⟨mb,0,none⟩))/\w3.cell? ⟨wr.heap.size,0,none⟩=some (.string nm)/\w3.cell? ⟨mb,5,none⟩=some (.map (some S)):=⟨(eG sj hk3 (.inl (.inr (.inr rfl)))).cell 0,(eG kR.drew hk3 (.inr rfl)).cell 0,n3.Co.2⟩;obtain⟨w4,DJ,qF,hg4,hs4⟩:=SMap.put (w:=w3) (hS1.move (hk3.block S (.inl (.inr (.inl rfl))))) nm ((nT:Int)+(N.length:Int));have n4:=n3.other (w':=w4) (fun g hg hd=>hg4.block g hg fun e=>hd (.inl (.inr (.inl (Option.some.inj e))))) (by omega);have gW:aj w4 w.heap.size #[.pointer (some ⟨mb,0,none⟩)] 190:=(hg4.block _ (by have:=n3.lt w.heap.size (.inl (.inr (.inr rfl)));exact this) (fun e=>by have:=Option.some.inj e;omega)).trans (eG sj hk3 (.inl (.inr (.inr rfl))));have qY:aj w4 wr.heap.size #[.string nm,.slice sa al.length sc] 179:=(hg4.block _ (n3.lt _ (.inr rfl)) (fun e=>by have:=Option.some.inj e;omega)).trans (eG kR.drew hk3 (.inr rfl));have S4:w4.cell? ⟨w.heap.size,0,none⟩=some (.pointer (some ⟨mb,0,none⟩))/\w4.cell? ⟨wr.heap.size,0,none⟩=some (.string nm)/\w4.cell? ⟨mb,5,none⟩=some (.map (some S)):=⟨gW.cell 0,qY.cell 0,n4.Co.2⟩))
   clear q1 DJ S3 S4 e1x e1r e15;have zi:∀ (fn:Fn) (first cap:Array Value) (w:World),(Instr.makeFunc fn first cap).run prog w=.ok (.func fn first cap) w:=fun _ _ _ _=>rfl
   have r41:w4.cell? ⟨wr.heap.size,1,none⟩=some (.slice sa al.length sc):=qY.cell 1;have lr4:=qY.lt;have lx4:=gW.lt;have HS4:Hid (w4.heap.size=w3.heap.size):=hs4;clear hs4;obtain⟨W5,xS⟩:∃ W5,W5=w4.alloc (.cells #[.int .i64 0] 3):=⟨_,rfl⟩;have hb5:Below w4.heap.size w4 W5:=by rw[xS];exact (Below.refl _ _).alloc (lr0) _
   have hs5:W5.heap.size=w4.heap.size+1:=by rw[xS];simp
   have mG:aj W5 w4.heap.size #[.int .i64 0] 3:=by rw[xS];exact aj.new w4 _ 3
   obtain⟨n5,hk5⟩:=n4.new hb5 (by omega);have lS4:S<w4.heap.size:=n4.lt S (.inl (.inr (.inl rfl)));have aaS:Kp D w w4:=⟨hg4.os.trans (hk3.os.trans (hk1.os.trans hkr.os)),hg4.tape.trans (hk3.tape.trans (hk1.tape.trans hkr.tape)),hg4.output.trans (hk3.output.trans (hk1.output.trans hkr.output)),Nat.le_trans hkr.size (Nat.le_trans hk1.size (Nat.le_trans hk3.size hg4.size)),fun g hg=>(hg4.block g (n3.lt g (.inl (.inl hg))) (fun e=>nS ((Option.some.inj e) ▸ hg))).trans ((hk3.block g (.inl (.inl hg))).trans ((hk1.block g (.inl hg)).trans (hkr.block g hg)))⟩;have Fu:Kp D w W5:=aaS.trans hk5 fun g hg=>.inl (.inl hg)
   have hA5:ay YP 9 F W5 (.slice sa al.length sc) al:=ay.move (fun b hb=>Fu.block b (hF b hb)) (fun _ h=>h) hA;have NC:aT 9 W5 (.slice sa al.length sc) al=aT 9 w (.slice sa al.length sc) al:=GY hA fun b hb=>Fu.block b (hF b hb)
   have Tz:hlA W5 (.slice sa al.length sc) al=hlA w (.slice sa al.length sc) al:=by unfold hlA;rw[NC]
   have q5:=aeT (cb:=w4.heap.size) (xb:=w.heap.size) (rb:=wr.heap.size) n5 mG ((hb5.block _ lx4).trans gW) ((hb5.block _ lr4).trans qY) (.inr rfl) (.inl (.inl (.inr (.inr rfl)))) (.inl (.inr rfl)) (by omega) (by omega) (ht.move (Fu.block _ dT)) (.inl (.inl (.inl dT))) (by have:=n4.lt rR (.inl (.inl dT));omega) (fun b hb=>⟨.inl (.inl (.inl (hF b hb.1))),by have:=n4.lt b (.inl (.inl (hF b hb.1)));omega,hb.2.move (Fu.block b (hF b hb.1))⟩) (fun b hb=>⟨.inl (.inl (.inl (hF b hb))),by have:=n4.lt b (.inl (.inl (hF b hb)));omega⟩) hA5 (fun p hp=>Tw p (by rw[<-NC];exact hp)) (by rw[NC];exact Fq) bT (by rw[Tz];rw[List.length_append,List.length_cons,O5]at hlen;rw[List.length_append,List.length_singleton];omega) hnj;rw[Tz]at q5;go_wp2_with fail;rw[<-xS];refine q5.mono ?_;rintro e w6 ⟨rfl,f6,n6,zH,ht6⟩;have mI:SMap w6 S _:=(qF.move (hb5.block _ lS4)).move (zH.block S ⟨.inl (.inl (.inr (.inl rfl))),by omega⟩);have kX6:aj w6 w.heap.size #[.pointer (some ⟨mb,0,none⟩)] 190:=(zH.block _ ⟨.inl (.inl (.inr (.inr rfl))),by omega⟩).trans ((hb5.block _ lx4).trans gW);have akw:Kp D w w6:=Fu.trans zH fun g hg=>⟨.inl (.inl (.inl hg)),by have:=n4.lt g (.inl (.inl hg));omega⟩
   have he6:vU w gR nT rs (j+1) f6:=HST.out f6 (by rw[show nT+N.length+1=nT+(N++[nm]).length by rw[List.length_append,List.length_singleton];omega];exact ht6);have n6':=n6.weak (D':=fun g=>D g\/g=S\/g=w.heap.size) fun g hg=>.inl (.inl hg)
   rw[List.append_assoc,List.singleton_append,<-HSC.out]at n6';have en:((nT+N.length:Nat):Int)=(nT:Int)+(N.length:Int):=by omega
   rw[en]at Rt;have HNF:Hid _:=n6';clear q5 n6 n6' n4 n5 n3 hA5 NC Tz hk5 aaS Fu zi r41;go_wp2_with fail;go_roundg (rs.length - (j+1))
   case measure=>omega
   case rel=>exact⟨j+1,f6,_,by omega,by go_num,HNF.out,mI,kX6,akw,Rt,he6⟩
  ·have:j=rs.length:=by omega
   subst this;go_wp2_with fail
   go_end0
   exact⟨rfl,⟨f,fS,nr.weak (fun g hg=>by rcases hg with hg | hg;exact .inl hg;exact .inr (.inl hg)),hSr,sy,he⟩,hkr⟩
theorem Tryz.ajC:(prog.info? 58).map (fun i=>(i.zero,i.size,i.bytes))=some (some (.agg #[.int .i64 0,.slice none 0 0,.int .i64 0]),3,40):=by kernel_rfl
theorem Tryz.aeU:prog.underlying 23=some (.slice 58):=by kernel_rfl
theorem agm {w:World}{v:Value}{r:List Nat}(h:IR 0 w v r)(hl:r.length<=1000000):Calls prog 135 #[v] w fun e w'=>∃ v',e=.returned v'/\IR w.heap.size w' v' r/\Below w.heap.size w w':=by
 have h':=h;unfold IR at h';rcases h'.2 with h0 | ⟨g,cap,cur,hv,hg,hh,hc1,hc2,hc3,hc4⟩
 ·obtain⟨a,c,rfl,-⟩:=aI h
  have hz:a=none/\r=[]:=by
   have e:=h0.1;have hn:=h0.2;simp only[Value.slice.injEq]at e;refine⟨e.1,List.eq_nil_of_length_eq_zero ?_⟩;omega
  obtain⟨rfl,rfl⟩:=hz;refine (Tryz.slices_Clone_int_nil _ _ w).mono ?_;rintro e w' ⟨rfl,rfl⟩;exact⟨_,rfl,World.ownsRow_nil _ _ _ _,Below.refl _ _⟩
 ·subst hv
  refine (Tryz.slices_Clone_int g 0 r.length cap (r.map fun (s:Nat)=>(s:Int)) w (by simp) (by omega) (fun j hj=>?_)).mono ?_
  ·simp only[List.length_map]at hj
   rw[Nat.zero_add,h'.cellAt j (by omega)];unfold gV;simp[List.getD,hj]
  ·rintro e w' ⟨v',rfl,ho,-,hb⟩
   refine⟨v',rfl,?_,hb⟩;unfold IR;have e:(List.take r.length (r.map fun (s:Nat)=>(s:Int))).map (Value.int .i64)=gV r:=by
    rw[List.take_of_length_le (by simp),List.map_map];rfl
   rw[e]at ho;exact ho
def PP (D:Nat->Prop)(w:World)(v:Value)(P:List Lx.Pd):Prop:=∃ ps:List (Value × Lx.Pd),ps.map Prod.snd=P/\w.ownsRow 0 58 3 v P.length (ps.flatMap kH)/\(∀ q,q∈ps->IR 0 w q.1 q.2.right/\∀ g,q.1.ownBlock=some g->D g)/\ps.Pairwise fun a b=>∀ g,a.1.ownBlock=some g->b.1.ownBlock≠some g
structure Mp (D G:Nat->Prop) (w:World) (mb S H:Nat) (ta:Option Addr) (nT tc:Nat) (vN vB vK:Value) (fS:ByteArray->Int) (fH:Addr->Int) (P:List Lx.Pd):Prop where
 ex:∃ vP,aj w mb #[.slice ta nT tc,vN,vP,vB,vK,.map (some S),.map (some H)] 125/\PP (fun g=>D g/\mb<g) w vP P/\∀ g,vP.ownBlock=some g->¬ D g/\mb<g
 sm:SMap w S fS
 pm:sV G w H fH
 dS:D S
 dH:D H
 nm:¬ D mb
 lt:∀ g,D g->g<w.heap.size
 gc:∀ b,G b->D b/\je w b
section
variable {D G:Nat -> Prop} {w:World} {mb S H:Nat} {ta:Option Addr} {nT tc:Nat} {vN vB vK:Value} {fS:ByteArray -> Int} {fH:Addr -> Int} {P:List Lx.Pd}
theorem Mp.lm (h:Mp D G w mb S H ta nT tc vN vB vK fS fH P):mb<w.heap.size:=by
 obtain⟨vP,h1,-⟩:=h.ex;exact h1.lt
theorem Mp.below {w':World}(h:Mp D G w mb S H ta nT tc vN vB vK fS fH P)(hb:Below w.heap.size w w'):Mp D G w' mb S H ta nT tc vN vB vK fS fH P:=by
 obtain⟨⟨vP,h1,⟨ps,p1,p2,p3,p4⟩,h3⟩,e1,e2,e3,e4,e5,e6,e7⟩:=h;exact⟨⟨vP,(hb.block _ h1.lt).trans h1,⟨ps,p1,own_below p2 hb,fun q hq=>⟨own_below (p3 q hq).1 hb,(p3 q hq).2⟩,p4⟩,h3⟩,e1.move (hb.block _ (e6 _ e3)),e2.move (hb.block _ (e6 _ e4)),e3,e4,e5,fun g hg=>Nat.lt_of_lt_of_le (e6 g hg) hb.size,fun b hb'=>⟨(e7 b hb').1,(e7 b hb').2.move (hb.block b (e6 b (e7 b hb').1))⟩⟩
end
theorem Mp.push {D G:Nat->Prop} {w w3 w4:World} {o:Obj} {mb S H:Nat} {ta:Option Addr} {nT tc:Nat} {vN vP vB vK u:Value} {fS:ByteArray->Int} {fH:Addr->Int} {P:List Lx.Pd} {ps:List (Value × Lx.Pd)} {left:Nat} {r:List Nat} {pv:Int} {g4 cap4:Nat} (h:Mp D G w mb S H ta nT tc vN vB vK fS fH P) (h1:aj w mb #[.slice ta nT tc,vN,vP,vB,vK,.map (some S),.map (some H)] 125) (hp1:ps.map Prod.snd=P) (hp2:w.ownsRow 0 58 3 vP P.length (ps.flatMap kH)) (hp3:∀ q,q∈ps->IR 0 w q.1 q.2.right/\∀ g,q.1.ownBlock=some g->D g/\mb<g) (Jl:ps.Pairwise fun a b=>∀ g,a.1.ownBlock=some g->b.1.ownBlock≠some g) (h3:∀ g,vP.ownBlock=some g->¬ D g/\mb<g)
  (hb3:Below w.heap.size w w3) (hu3:IR w.heap.size w3 u r) (ho:w4.ownsRow 0 58 3 (.slice (some ⟨g4,0,none⟩) (P.length+1) cap4) (P.length+1) (ps.flatMap kH++[.int .i64 (left:Int),u,.int .i64 pv])) (hg:(w3.alloc o).grownBy w4 vP.ownBlock) (hat:vP.ownBlock=some g4\/w3.heap.size<=g4) (hpv:pv=j5 nT r) :
  ∃ D',(∀ g,D g->D' g)/\Mp D' G (w4.setCell ⟨mb,2,none⟩ (.slice (some ⟨g4,0,none⟩) (P.length+1) cap4)) mb S H ta nT tc vN vB vK fS fH (P++[aS nT left r])/\Kp D w (w4.setCell ⟨mb,2,none⟩ (.slice (some ⟨g4,0,none⟩) (P.length+1) cap4)):=by
 have jL:=h1.lt;have hs3:=hb3.size;have hs4:w3.heap.size+1<=w4.heap.size:=by have:=hg.size;simpa using this
 have akx:mb<g4:=by
  rcases hat with e | e
  ·exact (h3 g4 e).2
  ·omega
 have bk:∀ g,g<w3.heap.size->g≠mb->vP.ownBlock≠some g->(w4.setCell ⟨mb,2,none⟩ (.slice (some ⟨g4,0,none⟩) (P.length+1) cap4)).heap[g]?=w3.heap[g]?:=fun g hl hm hv=>by
  rw[hs0 hm,hg.block g (by simp;omega) (fun e=>hv e.symm),Below.heap_alloc _ _ _ hl]
 have bD:∀ g,D g->(w4.setCell ⟨mb,2,none⟩ (.slice (some ⟨g4,0,none⟩) (P.length+1) cap4)).heap[g]?=w.heap[g]?:=fun g hd=>by
  have:=h.lt g hd;rw[bk g (by omega) (fun e=>h.nm (e ▸ hd)) (fun e=>(h3 g e).1 hd),hb3.block g this]
 have hub:∀ g,u.ownBlock=some g->w.heap.size<=g/\g<w3.heap.size:=fun g hg=>hu3.lt g hg
 have hvb:∀ g,vP.ownBlock=some g->g<w.heap.size:=fun g hg=>(hp2.lt g hg).2
 have bU:∀ g,u.ownBlock=some g->(w4.setCell ⟨mb,2,none⟩ (.slice (some ⟨g4,0,none⟩) (P.length+1) cap4)).heap[g]?=w3.heap[g]?:=fun g hu=>by
  have h5:=hub g hu;exact bk g h5.2 (by omega) (fun e=>by have:=hvb g e;omega)
 have hsz:w.heap.size<=(w4.setCell ⟨mb,2,none⟩ (.slice (some ⟨g4,0,none⟩) (P.length+1) cap4)).heap.size:=by simp[World.setCell];omega
 have k4:aj w4 mb #[.slice ta nT tc,vN,vP,vB,vK,.map (some S),.map (some H)] 125:=by
  unfold aj;rw[hg.block mb (by simp;omega) (fun e=>Nat.lt_irrefl _ (h3 mb e.symm).2),Below.heap_alloc _ _ _ (by omega),hb3.block mb jL];exact h1
 refine⟨fun g=>D g\/u.ownBlock=some g,fun g hd=>.inl hd,⟨⟨_,k4.set 2 _,⟨ps++[(u,aS nT left r)],?_,?_,?_,?_⟩,?_⟩,h.sm.move (bD S h.dS),h.pm.move (bD H h.dH),.inl h.dS,.inl h.dH,?_,?_,fun b hb=>⟨.inl (h.gc b hb).1,(h.gc b hb).2.move (bD b (h.gc b hb).1)⟩⟩,⟨hg.os.trans hb3.os,hg.tape.trans hb3.tape,hg.output.trans hb3.output,hsz,bD⟩⟩
 ·rw[List.map_append,hp1];rfl
 ·rw[List.flatMap_append,List.length_append]
  refine aD (by simpa [kH,aS,hpv]using ho) fun g hgo=>hs0 (fun e=>?_)
  have e1:g4=g:=by simpa [Value.ownBlock]using hgo
  have e2:g=mb:=e;omega
 ·intro q hq
  rcases List.mem_append.1 hq with hq | hq
  ·exact⟨aD (hp3 q hq).1 fun g hgo=>bD g ((hp3 q hq).2 g hgo).1,fun g hgo=>⟨.inl ((hp3 q hq).2 g hgo).1,((hp3 q hq).2 g hgo).2⟩⟩
  ·rw[List.mem_singleton.1 hq]
   exact⟨dO (aD hu3 fun g hgo=>bU g hgo) (Nat.zero_le _),fun g hgo=>⟨.inr hgo,by have:=hub g hgo;omega⟩⟩
 ·rw[List.pairwise_append]
  refine⟨Jl,List.pairwise_singleton _ _,fun a ha b hb g hga hgb=>?_⟩;rw[List.mem_singleton.1 hb]at hgb;have:=h.lt g ((hp3 a ha).2 g hga).1;have:=hub g hgb;omega
 ·intro g hgo
  have e1:g4=g:=by simpa [Value.ownBlock]using hgo
  subst e1;refine⟨?_,akx⟩;rintro (hd | hd)
  ·rcases hat with e | e
   ·exact (h3 _ e).1 hd
   ·have:=h.lt _ hd;omega
  ·have:=hub _ hd
   rcases hat with e | e
   ·have:=hvb _ e;omega
   ·omega
 ·rintro (hd | hd)
  ·exact h.nm hd
  ·have:=hub _ hd;omega
 ·rintro g (hd | hd)
  ·have:=h.lt g hd;omega
  ·have:=hub g hd;simp[World.setCell];omega
theorem yG {D G:Nat->Prop} {w:World} {mb S H:Nat} {ta:Option Addr} {nT tc:Nat} {vN vB vK:Value} {fS:ByteArray->Int} {fH:Addr->Int} {P:List Lx.Pd} (h:Mp D G w mb S H ta nT tc vN vB vK fS fH P) (left:Nat) (vR:Value) (r:List Nat) (hr:IR 0 w vR r) (hrl:r.length<=1000000) (hP:P.length<=1000000000000) :
  Calls prog 104 #[.pointer (some ⟨mb,0,none⟩),.int .i64 (left:Int),vR] w fun e w'=>e=.returned (.tuple #[])/\∃ D',(∀ g,D g->D' g)/\Mp D' G w' mb S H ta nT tc vN vB vK fS fH (P++[aS nT left r])/\Kp D w w':=by
 obtain⟨i0,hii,hz0,hz1,hz2⟩:=info_parts Tryz.ajC;obtain⟨vP,h1,om,h3⟩:=h.ex;obtain⟨ps,hp1,hp2,hp3,Jl⟩:=om;obtain⟨pa,pc,rfl,Jm⟩:=aI hp2;obtain⟨ra,rc,rfl,hrm⟩:=aI hr;have jL:=h1.lt;have m0:w.cell? ⟨mb,0,none⟩=some (.slice ta nT tc):=h1.cell 0;go_enter func104,ntmps104;go_wp2_with fail
 go_loopg [6,11] r.length (fun k p i wr=>∃ (m:Nat) (pv:Int),m+k=r.length/\p=.int .i64 pv/\i=.int .i64 m/\wr=w/\Hid (pv=j5 nT (r.take m)))
 case atStart=>exact⟨0,-1,by omega,rfl,rfl,rfl,rfl⟩
 case round =>
  obtain⟨m,pv,hkm,rfl,rfl,rfl,Dy⟩:=hrel
  by_cases hlt:m<r.length
  ·obtain⟨gR,cR,hv,lR,hcR⟩:=hr.at hlt
   cases hv;have htk:=V4 (n:=nT) hlt;rw[<-Dy.out]at htk;generalize r[m]=s at hcR htk
   by_cases hst:s<nT
   ·have gJ:Hid ((s:Int)=j5 nT (r.take (m+1))):=by rw[if_pos hst]at htk;exact htk.symm
    clear htk;go_wp2_with fail;go_roundg (r.length - (m+1))
    case measure=>omega
    case rel=>exact⟨m+1,_,by omega,rfl,by go_num,rfl,gJ⟩
   ·have gJ:Hid (pv=j5 nT (r.take (m+1))):=by rw[if_neg hst]at htk;exact htk.symm
    clear htk;go_wp2_with fail;go_roundg (r.length - (m+1))
    case measure=>omega
    case rel=>exact⟨m+1,_,by omega,rfl,by go_num,rfl,gJ⟩
  ·have:m=r.length:=by omega
   subst this;have gJ:Hid (pv=j5 nT r):=by have:=Dy.out;rw[List.take_length]at this;exact this
   clear Dy;have iw:IR 0 wr.drew (.slice ra r.length rc) r:=aD hr fun _ _=>rfl
   have qC:=agm iw hrl;have m2:wr.drew.cell? ⟨mb,2,none⟩=some (.slice pa P.length pc):=h1.drew.cell 2;have u6:(Value.slice pa P.length pc).ownBlock≠some mb:=fun e=>Nat.lt_irrefl _ (h3 mb e).2
   unfold maxLen at Jm;go_wp2_with fail
   go_region_law (first | (refine mZ rfl 135 #[.slice ra r.length rc] (by go_simp) qC ?_;rintro e w3 ⟨u3,rfl,hu3,hb3⟩;have k3:aj w3 mb _ 125:=(hb3.block mb jL).trans h1;obtain⟨ua,uc,rfl,-⟩:=aI hu3;have o3:=own_below (aD (w':=wr.drew) hp2 fun _ _=>rfl) hb3;have oA:=o3.alloc (.cells #[.int .i64 (left:Int),.slice ua r.length uc,.int .i64 pv] 58);have e3:w3.cell? ⟨mb,2,none⟩=some (.slice pa P.length pc):=k3.cell 2;have Tp:=k3.lt;refine⟨_,rfl,?_⟩) | (refine step_append_lies _ rfl (.tmp 30) (.tmp 36) 23 rfl 0 58 i0 _ 3 40 Tryz.aeU hii hz0 hz1 hz2 rfl (by decide) (.slice pa P.length pc) P.length (ps.flatMap kH) (by simp[Act.eval]) oA ⟨w3.heap.size,0,none⟩ 1 1 [.int .i64 (left:Int),.slice ua r.length uc,.int .i64 pv] (by simp[Act.eval]) rfl (bP (aj.new w3 _ 58)) (by simp[Value.oneCell']) (by decide) (by unfold maxLen;omega) (by omega) (by simp) _ rfl ?_;intro g4 cap4 w4 vG bX nE xE;have k4:=(k3.alloc (.cells #[.int .i64 (left:Int),.slice ua r.length uc,.int .i64 pv] 58)).grown bX (fun e=>u6 e.symm);have c40:w4.cell? ⟨mb,2,none⟩=some (.slice pa P.length pc):=k4.cell 2;have f4:∀ i,w4.frozen? ⟨mb,i,none⟩=false:=k4.frozen))
   all_goals
    have hfin:=Mp.push h h1 hp1 hp2 hp3 Jl h3 (((Below.refl wr.heap.size wr).drew).trans hb3) hu3 vG bX (nE.imp id fun e=>by rw[e];simp) gJ.out;clear k4 c40 f4 bX vG nE xE o3 oA e3 hb3 k3 hu3 qC m2 iw;go_wp2_with fail
    go_end0
    exact⟨rfl,hfin⟩
theorem Kl {sub:Value->List Lx.Alt->List AI} {w:World} {g:Nat} {p:AI}:∀ (its:List Lx.It) (i:Nat),p∈eY sub w g i its↔∃ m x,its[m]?=some x/\(p=((⟨g,(i+m)*4,none⟩:Addr),x)\/p∈sub (cv w ⟨g,(i+m)*4+3,none⟩) x.alts)
 | [],i=>by simp[eY]
 | x::xs,i=>by
  rw[eY,List.mem_cons,List.mem_append,Kl xs (i+1)];constructor
  ·rintro (h | h | ⟨m,y,h1,h2⟩)
   ·exact⟨0,x,rfl,.inl h⟩
   ·exact⟨0,x,rfl,.inr h⟩
   ·exact⟨m+1,y,by simpa using h1,by rw[show i+(m+1)=i+1+m by omega];exact h2⟩
  ·rintro⟨m,y,h1,h2⟩
   cases m with
   | zero =>
    simp only[List.getElem?_cons_zero,Option.some.injEq]at h1;subst h1;rcases h2 with h2 | h2
    ·exact .inl h2
    ·exact .inr (.inl h2)
   | succ m=>exact .inr (.inr ⟨m,y,by simpa using h1,by rw[show i+1+m=i+(m+1) by omega];exact h2⟩)
theorem KE {sub:Value->List Lx.Alt->List AI} {w:World} {g:Nat} {p:AI}:∀ (l:List Lx.Alt) (j:Nat),p∈eu sub w g j l↔∃ k a,l[k]?=some a/\p∈eY sub w (aZ (cv w ⟨g,(j+k)*2,none⟩)) 0 a.1
 | [],j=>by simp[eu]
 | a::l,j=>by
  rw[eu,List.mem_append,KE l (j+1)];constructor
  ·rintro (h | ⟨k,b,h1,h2⟩)
   ·exact⟨0,a,rfl,h⟩
   ·exact⟨k+1,b,by simpa using h1,by rw[show j+(k+1)=j+1+k by omega];exact h2⟩
  ·rintro⟨k,b,h1,h2⟩
   cases k with
   | zero =>
    simp only[List.getElem?_cons_zero,Option.some.injEq]at h1;subst h1;exact .inl h2
   | succ k=>exact .inr ⟨k,b,by simpa using h1,by rw[show j+1+k=j+(k+1) by omega];exact h2⟩
theorem Zo {d:Nat}{F:Nat->Prop}{w:World}{v:Value}{l:List Lx.Alt}(h:ay YP (d+1) F w v l){k:Nat}(hk:k<l.length):∃ vi,w.cell? ⟨aZ v,k*2,none⟩=some vi/\bJ YP d F w vi l[k].1/\∀ m (hm:m<l[k].1.length),((⟨aZ vi,m*4,none⟩:Addr),l[k].1[m])∈aT (d+1) w v l:=by
 obtain⟨-,vi,hc,hi⟩:=Eu h hk;refine⟨vi,hc,hi,fun m hm=>?_⟩;show _∈eu (aT d w) w (aZ v) 0 l;rw[KE];refine⟨k,l[k],List.getElem?_eq_getElem hk,?_⟩;have e1:cv w ⟨aZ v,(0+k)*2,none⟩=vi:=by unfold cv;rw[Nat.zero_add,hc];rfl
 rw[e1,Kl];exact⟨m,l[k].1[m],List.getElem?_eq_getElem hm,.inl (by rw[Nat.zero_add])⟩
theorem Zp:∀ {d:Nat} {F:Nat->Prop} {w:World} {v:Value} {l:List Lx.Alt},ay YP d F w v l->∀ {p:AI},p∈aT d w v l->∃ n m d' va,p.1=⟨n,m*4,none⟩/\F n/\o7 w n m p.2/\w.cell? ⟨n,m*4+3,none⟩=some va/\ay YP d' F w va p.2.alts/\∀ q∈aT d' w va p.2.alts,q∈aT d w v l
 | 0,_,_,_,_,_,p,hp=>by cases hp
 | d+1,F,w,v,l,h,p,hp=>by
  have hp':p∈eu (aT d w) w (aZ v) 0 l:=hp;rw[KE]at hp';obtain⟨k,a,ha,hp2⟩:=hp';obtain⟨hk,rfl⟩:=List.getElem?_eq_some_iff.1 ha;obtain⟨-,vi,hc,hi⟩:=Eu h hk;have e1:cv w ⟨aZ v,(0+k)*2,none⟩=vi:=by unfold cv;rw[Nat.zero_add,hc];rfl
  rw[e1,Kl]at hp2;obtain⟨m,x,hx,hp3⟩:=hp2;obtain⟨hm,rfl⟩:=List.getElem?_eq_some_iff.1 hx;have hi':=hi;unfold bJ nV at hi';obtain⟨n,rP,va,hv,hn,hA,hcc⟩:=Seq.at hi' (fun _=>rfl) hm;have eb:aZ vi=n:=by rw[hv];rfl
  have hc3:w.cell? ⟨n,m*4+3,none⟩=some va:=hcc 3 (by decide);have e2:cv w ⟨aZ vi,(0+m)*4+3,none⟩=va:=by unfold cv;rw[Nat.zero_add,eb,hc3];rfl
  have hin:∀ q,q∈aT d w va l[k].1[m].alts->q∈aT (d+1) w v l:=by
   intro q hq;show _∈eu (aT d w) w (aZ v) 0 l;rw[KE];refine⟨k,l[k],ha,?_⟩;rw[e1,Kl];exact⟨m,_,hx,.inr (by rw[e2];exact hq)⟩
  rw[e2]at hp3;rcases hp3 with rfl | hp3
  ·exact⟨n,m,d,va,by rw[eb,Nat.zero_add],hn,⟨hcc 0 (by decide),hcc 1 (by decide),hcc 2 (by decide)⟩,hc3,hA,hin⟩
  ·obtain⟨n',m',d',tJ,h1,h2,h3,h4,h5,h6⟩:=Zp hA hp3
   exact⟨n',m',d',tJ,h1,h2,h3,h4,h5,fun q hq=>hin q (h6 q hq)⟩
def yT (fS:ByteArray->Int)(fH:Addr->Int)(p:AI):Int:=if Lx.hlp p.2=true then fH p.1 else fS p.2.name
section
variable {D G:Nat -> Prop} {w:World} {mb S H:Nat} {ta:Option Addr} {nT tc:Nat} {vN vB vK:Value} {fS:ByteArray -> Int} {fH:Addr -> Int} {P:List Lx.Pd}
theorem Mp.cells (h:Mp D G w mb S H ta nT tc vN vB vK fS fH P):w.cell? ⟨mb,0,none⟩=some (.slice ta nT tc)/\w.cell? ⟨mb,5,none⟩=some (.map (some S))/\w.cell? ⟨mb,6,none⟩=some (.map (some H)):=by
 obtain⟨vP,h1,-⟩:=h.ex;exact⟨h1.cell 0,h1.cell 5,h1.cell 6⟩
end
theorem o7.move {w w':World}{n m:Nat}{it:Lx.It}(h:o7 w n m it)(hb:w'.heap[n]?=w.heap[n]?):o7 w' n m it:=⟨(World.cell?_of_block (w:=w) hb).trans h.kind,(World.cell?_of_block (w:=w) hb).trans h.name,(World.cell?_of_block (w:=w) hb).trans h.mark⟩
theorem agn {D G:Nat->Prop} {w:World} {mb S H:Nat} {ta:Option Addr} {nT tc:Nat} {vN vB vK:Value} {fS:ByteArray->Int} {fH:Addr->Int} {P:List Lx.Pd} (h:Mp D G w mb S H ta nT tc vN vB vK fS fH P) {n m:Nat} {it:Lx.It} (hi:o7 w n m it) (hG:G n) (s:Nat) (hs:yT fS fH (⟨n,m*4,none⟩,it)=(s:Int)) :
  Calls prog 136 #[.pointer (some ⟨mb,0,none⟩),.pointer (some ⟨n,m*4,none⟩)] w fun e w'=>e=.returned (.int .i64 (s:Int))/\Below w.heap.size w w':=by
 have q1:=Ov hi;obtain⟨m0,m5,m6⟩:=h.cells;have hnm:=hi.name;unfold yT at hs;go_enter func136,ntmps136;go_wp2_with fail;refine q1.mono ?_;rintro e w1 ⟨rfl,hw1⟩;obtain rfl:=hw1.symm;cases hh:Lx.hlp it with
 | true =>
  rw[if_pos hh]at hs;have hl:=sV.look h.pm (fun b hb=>(h.gc b hb).2) (a:=⟨n,m*4,none⟩) hG;rw[hs]at hl;clear q1 hh hs;go_wp2_with fail;go_ret;exact⟨rfl,Below.refl _ _⟩
 | false =>
  rw[if_neg (by rw[hh];decide)]at hs;have hl:=SMap.look (w:=w.drew) (h.sm.move rfl) it.name;have hs':fS it.name=(s:Int):=hs;rw[hs']at hl;have d5:w.drew.cell? ⟨mb,5,none⟩=some (.map (some S)):=m5;have dn:w.drew.cell? ⟨n,m*4+1,none⟩=some (.string it.name):=hnm;have hbd:Below w.heap.size w w.drew:=(Below.refl _ _).drew;clear q1 hh hs hs' m0 m5 m6 hnm hi;go_wp2_with fail
  go_region
  all_goals
   go_wp2_with fail;go_ret;exact⟨rfl,hbd⟩
theorem WX {D F G:Nat->Prop} {w:World} {mb S H:Nat} {ta:Option Addr} {nT tc:Nat} {vN vB vK:Value} {fS:ByteArray->Int} {fH:Addr->Int} {P:List Lx.Pd} (h:Mp D G w mb S H ta nT tc vN vB vK fS fH P) {d:Nat} (its:List Lx.It) (vi:Value) (hi:bJ YP d F w vi its) (hF:∀ b,F b->D b) (r:List Nat) (hrl:r.length=its.length) (hsy:∀ k (hk:k<its.length),G (aZ vi)/\yT fS fH (⟨aZ vi,k*4,none⟩,its[k])=(r[k]:Int)) (hil:its.length<=10000) (prec:ByteArray) :
  Calls prog 105 #[.pointer (some ⟨mb,0,none⟩),.agg #[vi,.string prec]] w fun e w'=>∃ u,e=.returned u/\IR w.heap.size w' u r/\Below w.heap.size w w':=by
 obtain⟨i0,hii,hz0,hz1,hz2⟩:=info_parts Tryz.info3;obtain⟨ia,ic,rfl,him⟩:∃ a c,vi=.slice a its.length c/\its.length<=maxLen:=Seq.len (show Tr.Seq F w YP.eI YP.sI YP.cI (fun va it=>ay YP d F w va it.alts) vi its from hi);unfold maxLen at him;go_enter func105,ntmps105;go_wp2_with fail;obtain⟨W,hW⟩:∃ W,W=w.alloc (.cells #[.slice ia its.length ic,.string prec] 194):=⟨_,rfl⟩;rw[<-hW];have hB:Below w.heap.size w W:=by rw[hW];exact (Below.refl _ _).alloc (lr0) _
 have hWs:W.heap.size=w.heap.size+1:=by rw[hW];simp
 have kA:aj W w.heap.size #[.slice ia its.length ic,.string prec] 194:=by rw[hW];exact aj.new w _ 194
 clear hW
 go_loopg [5,10] its.length (fun k vo i wr=>∃ (j:Nat) (acc:List Nat),j+k=its.length/\i=.int .i64 j/\IR W.heap.size wr vo acc/\Below W.heap.size W wr/\Hid (acc=r.take j))
 case atStart=>exact⟨0,[],by omega,rfl,World.ownsRow_nil _ _ _ _,Below.refl _ _,rfl⟩
 case round =>
  revert wr;intro wz hrel;obtain⟨j,acc,hk,rfl,ho,hbz,tT⟩:=hrel;have hac:acc.length<=10000:=by rw[tT.out,List.length_take];omega
  obtain⟨oa,oc,rfl,uZ⟩:=aI ho;have hsz:=hbz.size;have hbw:Below w.heap.size w wz:=hB.trans (hbz.mono (by omega));have dY:aj wz w.heap.size _ 194:=(hbz.block _ (by omega)).trans kA;have a0:wz.cell? ⟨w.heap.size,0,none⟩=some (.slice ia its.length ic):=dY.cell 0
  by_cases hlt:j<its.length
  ·have hz:=h.below hbw
   have hiz:bJ YP d F wz _ its:=bJ.move (fun b hb=>hbw.block b (h.lt b (hF b hb))) (fun _ h=>h) hi;unfold bJ nV at hiz;obtain⟨n,rP,va,hv,hn,ha',hcc⟩:=Seq.at hiz (fun _=>rfl) hlt;cases hv;obtain⟨hGn,hs⟩:=hsy j hlt;have hia:o7 wz n j its[j]:=⟨hcc 0 (by decide),hcc 1 (by decide),hcc 2 (by decide)⟩;have q1:=agn hz hia hGn _ hs;have bH:Hid (r.take (j+1)=acc++[r[j]]):=by show _=_;rw[tT.out,List.take_succ_eq_append_getElem (by omega)]
   generalize r[j]=s at q1 bH;clear hs hcc hiz hia;go_wp2_with fail;refine q1.mono ?_;rintro e w1 ⟨rfl,hb1⟩;have ho1:=own_below ho hb1;have hs1:=hb1.size;have AB:Below W.heap.size W w1:=hbz.trans (hb1.mono hsz);have oA:=ho1.alloc (.cells #[.int .i64 (s:Int)] 3);clear q1
   go_wp2_with (at_builtin;go_loud (refine wpList_append_own_at _ rfl _ _ 24 rfl W.heap.size 3 i0 _ 1 8 underlying24 hii hz0 hz1 hz2 rfl (by decide) (.slice oa acc.length oc) _ _ rfl oA ⟨_,0,none⟩ 1 1 [.int .i64 (s:Int)] rfl rfl (bP (aj.new _ _ 3)) (by simp[Value.oneCell']) (by unfold maxLen;omega) (by omega) (by simp;omega) ?_;intro v5 w5 hown5 bf _ jT;obtain⟨dL,dM,hv5,-⟩:=aI hown5;subst hv5))
   have hb5:Below W.heap.size W w5:=(AB.alloc (by omega) _).grown bf (by simp;omega) (fun k hk=>(ho.lt k hk).1);go_roundg (its.length - (j+1))
   case measure=>omega
   case rel=>exact⟨j+1,acc++[s],by omega,by go_num,by unfold IR;rw[List.length_append,yE];exact hown5,hb5,bH.out.symm⟩
  ·have:j=its.length:=by omega
   subst this;have HA2:Hid (acc=r):=by have:=tT.out;rw[<-hrl,List.take_length]at this;exact this
   clear tT;go_wp2_with fail;go_ret;exact⟨_,rfl,by rw[<-HA2.out];exact dO ho (by omega),hbw⟩
theorem aiq {n:Nat}(hn:1<=n)(hl:n<=1000000)(w:World):Calls prog 149 #[.slice none 0 0,.int .i64 (n:Int)] w fun e w'=>∃ v,e=.returned v/\w'.ownsRow w.heap.size 3 1 v 0 []/\Below w.heap.size w w':=by
 obtain⟨i0,hi,hz0,hz1,hz2⟩:=info_parts Tryz.info3;have happ:=Lib.run_append_nil_zeros (P:=prog) w 24 3 24 3 i0 (.int .i64 0) .i64 .i64 underlying24 (by kernel_rfl) hi hz0 n (by omega) (by omega) (by omega) (by rw[hz2];omega);generalize hcap:grownCap w n 0 3=cap2 at happ;have hcapge:n<=cap2:=by rw[<-hcap];exact grownCap_ge w _ 0 3
 have hcaple:cap2<=maxLen:=by rw[<-hcap];exact grownCap_le_maxLen w _ 0 3 (by unfold maxLen;omega)
 generalize hZ:(Builtin.zeroCells (Value.int .i64 0).cells n++Builtin.zeroCells (Value.int .i64 0).cells (cap2-n))=Z at happ;have hZs:Z.size=cap2:=by rw[<-hZ];simp[size_zeroCells,Value.cells];omega
 clear hcap hZ;have g0:¬ (n:Int)<0:=by omega
 have g1:0<(n:Int):=by omega
 go_enter func149,ntmps149
 go_wp2_with (at_builtin;refine Lib.wpList_append_run _ rfl _ _ _ _ rfl _ _ rfl rfl _ _ happ ?_)
 go_ret;have hk:aj (w.drew.alloc (.cells Z 3)) w.heap.size Z 3:=aj.new w.drew Z 3;have hbb:Below w.heap.size w (w.drew.alloc (.cells Z 3)):=((Below.refl _ _).drew).alloc (lr0) _;refine⟨_,rfl,⟨rfl,.inr ⟨w.heap.size,cap2,Z,rfl,lr0,hk,Nat.zero_le _,hcaple,by omega,by simp⟩⟩,hbb⟩
theorem afF {P:Program}{t e:TypeId}{i:TypeInfo}(ht:P.underlying t=some (.slice e))(hi:P.info? e=some i)(ty:TypeId)(base:Option Addr)(n cap:Nat)(hle:n<=cap)(w:World):(Builtin.append_ #[t,t] ty #[.slice base n cap,.slice none 0 0]).run P w=.ok (.slice base n cap) w:=by
 cases base <;> simp[Builtin.append_,run_underlying ht,sizeOf,typeInfo,hi,Builtin.lenOf,Builtin.firstCells,storeCells,hle]
theorem Zq {w:World}{B e z:Nat}{a:Option Addr}{n c:Nat}{xs:List Value}(h:w.ownsRow B e z (.slice a n c) n xs):n<=c:=by
 rcases h.2 with ⟨e1,e2⟩ | ⟨g,cap,cur,hv,-,-,hc,-⟩
 ·omega
 ·simp only[Value.slice.injEq]at hv;omega
theorem Pw (ps:List (List Nat)){j:Nat}(hj:j<ps.length):(ps.take (j+1)).flatten=(ps.take j).flatten++ps[j]:=by rw[List.take_succ_eq_append_getElem hj,List.flatten_append];simp
theorem Qr (ps:List (List Nat))(j:Nat):(ps.take j).flatten.length<=ps.flatten.length:=by
 conv=>rhs;rw[<-List.take_append_drop j ps,List.flatten_append,List.length_append]
 omega
theorem WY {B:Nat}{w:World}{v:Value}{ps:List (List Nat)}(h:oM B w v ps)(h1:1<=ps.flatten.length)(hl:ps.flatten.length<=1000000):Calls prog 138 #[v] w fun e w'=>∃ u,e=.returned u/\IR w.heap.size w' u ps.flatten/\Below w.heap.size w w':=by
 obtain⟨i0,hii,hz0,hz1,hz2⟩:=info_parts Tryz.info3;obtain⟨a,c,rfl,hm⟩:=h.len;unfold maxLen at hm;go_enter func138,ntmps138;go_wp2_with fail
 go_loopg [3,11] ps.length (fun k z i wr=>∃ (j zn:Nat),j+k=ps.length/\z=.int .i64 (zn:Int)/\i=.int .i64 j/\wr=w/\Hid (zn=(ps.take j).flatten.length))
 case atStart=>exact⟨0,0,by omega,rfl,rfl,rfl,by show _=_;simp⟩
 case round =>
  revert wr;intro wA hrel;obtain⟨j,zn,hk,rfl,rfl,DK,HZ⟩:=hrel;subst DK
  by_cases hlt:j<ps.length
  ·obtain⟨g,cap,u,hv,hBg,hg,hc,hu⟩:=h.at hlt
   cases hv;obtain⟨ua,uc,rfl,-⟩:=aI hu;have hz:=Pw ps hlt;have hle:=Qr ps (j+1);rw[hz,List.length_append,<-HZ.out]at hle;have HZ2:Hid (zn+ps[j].length=(ps.take (j+1)).flatten.length):=by show _=_;rw[hz,List.length_append,<-HZ.out]
   generalize ps[j].length=m at hc hle HZ2;have hw1:IntKind.i64.wrap ((zn:Int)+(m:Int))=((zn+m:Nat):Int):=by rw[<-Int.natCast_add];exact wrap64 (by omega)
   obtain⟨zm,hzm⟩:∃ zm,zm=zn+m:=⟨_,rfl⟩;rw[<-hzm]at hw1 HZ2 hle;have hneg:¬ (zm:Int)<0:=by omega
   clear hz hzm hu;go_wp2_with fail;go_roundg (ps.length - (j+1))
   case measure=>omega
   case rel=>exact⟨j+1,zm,by omega,rfl,by go_num,rfl,HZ2⟩
  ·have:j=ps.length:=by omega
   subst this;have HZ2:Hid (zn=ps.flatten.length):=by have:=HZ.out;rw[List.take_length]at this;exact this
   clear HZ;have q1:=aiq (n:=zn) (by rw[HZ2.out];exact h1) (by rw[HZ2.out];exact hl) wA;go_wp2_with fail;refine q1.mono ?_;rintro e w1 ⟨u1,rfl,ho1,hb1⟩;obtain⟨ua,uc,rfl,-⟩:=aI ho1;clear q1;go_wp2_with fail
   go_loopg [6,27] ps.length (fun k vo i wr=>∃ (j:Nat) (acc:List Nat),j+k=ps.length/\i=.int .i64 j/\IR wA.heap.size wr vo acc/\Below wA.heap.size wA wr/\Hid (acc=(ps.take j).flatten))
   case atStart=>exact⟨0,[],by omega,rfl,ho1,hb1,by show _=_;simp⟩
   case round =>
    clear ho1 hb1 hk hlt HZ2;obtain⟨j,acc,hk,rfl,ho,hbz,HA⟩:=hrel;obtain⟨oa,oc,rfl,-⟩:=aI ho;have amY:acc.length<=1000000:=by rw[HA.out];exact Nat.le_trans (Qr ps j) hl
    by_cases hlt:j<ps.length
    ·have hz:=h.move (w':=wr) fun g _ hg=>hbz.block g hg
     obtain⟨g,cap,u,hv,hBg,hg,hc,hu⟩:=hz.at hlt;cases hv;have hle:=Qr ps (j+1);rw[Pw ps hlt,List.length_append,<-HA.out]at hle;have HA2:Hid (acc++ps[j]=(ps.take (j+1)).flatten):=by show _=_;rw[Pw ps hlt,<-HA.out]
     generalize ps[j]=x at hc hu hle HA2;obtain⟨ua,uc,rfl,-⟩:=aI hu;have hu2:=hu;unfold IR at hu2;rcases hu2.2 with ⟨e1,e2⟩ | ⟨g3,nD,amZ,hv3,-,hh3,hx1,hx2,hx3,hx4⟩
     ·have hx0:x=[]:=List.eq_nil_of_length_eq_zero e2
      subst hx0;have happ:=afF (P:=prog) underlying24 hii 24 oa acc.length oc (Zq ho) wr;rw[List.append_nil]at HA2;simp only[Value.slice.injEq]at e1;obtain⟨rfl,-,rfl⟩:=e1;clear e2 hu hu2
      go_wp2_with (at_builtin;refine Lib.wpList_append_run _ rfl _ _ _ _ rfl _ _ rfl rfl _ _ happ ?_)
      go_roundg (ps.length - (j+1))
      case measure=>omega
      case rel=>exact⟨j+1,acc,by omega,by go_num,ho,hbz,HA2.out⟩
     ·cases hv3
      have hnews:∀ i y,(gV x)[i]?=some y->wr.cell? ((⟨g3,0,none⟩:Addr).add i)=some y:=hu2.cells (g:=g3) rfl
      go_wp2_with (at_builtin;go_loud (refine wpList_append_own_at _ rfl _ _ 24 rfl wA.heap.size 3 i0 _ 1 8 underlying24 hii hz0 hz1 hz2 rfl (by decide) (.slice oa acc.length oc) _ _ rfl ho ⟨g3,0,none⟩ x.length _ (gV x) rfl (by rw[xg,Nat.mul_one]) hnews (KU x) (by unfold maxLen;omega) (by omega) hbz.size ?_;intro v5 w5 hown5 bf _ jT;obtain⟨dL,dM,hv5,-⟩:=aI hown5;subst hv5))
      have hb5:Below wA.heap.size wA w5:=hbz.grown bf hbz.size (fun k hk=>(ho.lt k hk).1);go_roundg (ps.length - (j+1))
      case measure=>omega
      case rel=>exact⟨j+1,acc++x,by omega,by go_num,by unfold IR;rw[List.length_append,yE];exact hown5,hb5,HA2.out⟩
    ·have:j=ps.length:=by omega
     subst this;have HA2:Hid (acc=ps.flatten):=by have:=HA.out;rw[List.take_length]at this;exact this
     clear HA;go_wp2_with fail;go_ret;exact⟨_,rfl,by rw[<-HA2.out];exact ho,hbz⟩
theorem oM.push {B:Nat}{w w2 w5:World}{v v5 u:Value}{ps:List (List Nat)}{qs:List (Value × List Nat)}{rr:List Nat}{o:Obj}(h:Rj B w v ps qs)(hB:B<=w.heap.size)(hb2:Below w.heap.size w w2)(hu:IR w.heap.size w2 u rr)(ho:w5.ownsRow B 24 1 v5 (ps.length+1) (qs.map Prod.fst++[u]))(hg5:(w2.alloc o).grownBy w5 v.ownBlock)(jT:v5.ownBlock=v.ownBlock\/v5.ownBlock=some (w2.alloc o).heap.size):oM B w5 v5 (ps++[rr]):=by
 obtain⟨hq1,hq2,hq3,hq4⟩:=h;have hs2:=hb2.size;have hat:∀ g,v5.ownBlock=some g->v.ownBlock=some g\/w2.heap.size<=g:=by
  intro g hg;rcases jT with h' | h'
  ·exact .inl (h' ▸ hg)
  ·rw[h']at hg;simp at hg;exact .inr (by omega)
 have bl:∀ g,g<w2.heap.size->v.ownBlock≠some g->w5.heap[g]?=w2.heap[g]?:=fun g hg hn=>(hg5.block g (by simp;omega) (fun e=>hn e.symm)).trans (Below.heap_alloc _ _ _ hg)
 refine⟨qs++[(u,rr)],by rw[List.map_append,hq1];rfl,?_,?_,?_⟩
 ·rw[List.length_append,List.map_append];exact ho
 ·intro q hq
  rcases List.mem_append.1 hq with hq | hq
  ·refine aD (hq3 q hq) fun g hg=>?_
   have Bh:=(hq3 q hq).lt g hg;exact (bl g (by omega) (hq4 q hq g hg)).trans (hb2.block g Bh.2)
  ·rw[List.mem_singleton.1 hq]
   refine aD (dO hu hB) fun g hg=>bl g (hu.lt g hg).2 fun e=>?_
   have:=(hu.lt g hg).1;have:=(hq2.lt g e).2;omega
 ·intro q hq g hg e
  rcases hat g e with h' | h'
  ·rcases List.mem_append.1 hq with hq | hq
   ·exact hq4 q hq g hg h'
   ·rw[List.mem_singleton.1 hq]at hg
    have:=(hu.lt g hg).1;have:=(hq2.lt g h').2;omega
  ·rcases List.mem_append.1 hq with hq | hq
   ·have:=((hq3 q hq).lt g hg).2;omega
   ·rw[List.mem_singleton.1 hq]at hg
    have:=(hu.lt g hg).2;omega
def Qs (w:World)(G:Nat->Prop)(fS:ByteArray->Int)(fH:Addr->Int)(g:Nat)(l:List Lx.Alt)(ps:List (List Nat)):Prop:=ps.length=l.length/\∀ k (hk:k<l.length) (hk':k<ps.length),l[k].1.length<=10000/\ps[k].length=l[k].1.length/\∀ vi,w.cell? ⟨g,k*2,none⟩=some vi->∀ q (hq:q<l[k].1.length) (hq':q<ps[k].length),G (aZ vi)/\yT fS fH (⟨aZ vi,q*4,none⟩,l[k].1[q])=(ps[k][q]:Int)
theorem agp {D F G:Nat->Prop} {w:World} {mb S H:Nat} {ta:Option Addr} {nT tc:Nat} {vN vB vK:Value} {fS:ByteArray->Int} {fH:Addr->Int} {P:List Lx.Pd} (h:Mp D G w mb S H ta nT tc vN vB vK fS fH P) {n m d:Nat} {it:Lx.It} {va:Value} (hi:o7 w n m it) (hva:w.cell? ⟨n,m*4+3,none⟩=some va) (hA:ay YP d F w va it.alts) (hF:∀ b,F b->D b) (ps:List (List Nat)) (hp1:it.kind≠2->∃ s:Nat,ps=[[s]]/\fS it.name=(s:Int)) (hp2:it.kind=2->Qs w G fS fH (aZ va) it.alts ps) (hl:it.alts.length<=10000) :
  Calls prog 137 #[.pointer (some ⟨mb,0,none⟩),.pointer (some ⟨n,m*4,none⟩)] w fun e w'=>∃ u,e=.returned u/\oM w.heap.size w' u ps/\Below w.heap.size w w':=by
 obtain⟨i0,hii,hz0,hz1,hz2⟩:=info_parts Tryz.QI;obtain⟨sa,sc,rfl,-⟩:=ay.len hA;have hk0:=hi.kind;have hn0:=hi.name;go_enter func137,ntmps137
 by_cases hk:it.kind=2
 ·have hkn:((it.kind:Int) != 2)=false:=by simp[hk]
  obtain⟨hpl,hps⟩:=hp2 hk;have HK:Hid (it.kind=2):=hk;clear hk hp1 hp2;go_wp2_with fail
  go_loopg [5,29] it.alts.length (fun k vo i wr=>∃ (j:Nat) (acc:List (List Nat)),j+k=it.alts.length/\i=.int .i64 j/\oM w.heap.size wr vo acc/\Below w.heap.size w wr/\Hid (acc=ps.take j))
  case atStart=>exact⟨0,[],by omega,rfl,⟨[],rfl,World.ownsRow_nil _ _ _ _,fun q hq=>(by cases hq),fun q hq=>(by cases hq)⟩,Below.refl _ _,rfl⟩
  case round =>
   revert wr;intro wz hrel;obtain⟨j,acc,hk,rfl,ho,hbz,tT⟩:=hrel;have hsz:=hbz.size;obtain⟨qs,TA⟩:=ho;have hq2:=TA.2.1;obtain⟨oa,oc,rfl,uZ⟩:=aI hq2;have hac:acc.length<=10000:=by rw[tT.out,List.length_take];omega
   by_cases hlt:j<it.alts.length
   ·obtain⟨d',rfl⟩:∃ d',d=d'+1:=by
     cases d with
     | zero=>have:=hA.2;rw[this]at hlt;simp at hlt
     | succ d'=>exact⟨d',rfl⟩
    have FP:ay YP (d'+1) F wz _ it.alts:=ay.move (fun b hb=>hbz.block b (h.lt b (hF b hb))) (fun _ h=>h) hA;obtain⟨gb,cap,vi,hv,hg,ME,hc⟩:=Seq.at FP (fun _=>rfl) hlt;cases hv;have aaT:j<ps.length:=by omega
    obtain⟨hj1,hj2,hj3⟩:=hps j hlt aaT;have aaU:w.cell? ⟨gb,j*2,none⟩=some vi:=by
     have:wz.cell? ⟨gb,j*2,none⟩=some vi:=hc 0 (by decide)
     rwa [World.cell?_of_block (w:=w) (hbz.block gb (h.lt gb (hF gb hg)))]at this
    have MF:=hj3 vi aaU;have bH:Hid (ps.take (j+1)=acc++[ps[j]]):=by show _=_;rw[tT.out,List.take_succ_eq_append_getElem aaT]
    generalize it.alts[j]=x at ME hc hj1 hj2 MF;generalize ps[j]=rr at hj2 MF bH;obtain⟨its,prec,pa⟩:=x;have hi':bJ YP d' F wz vi its:=ME;obtain⟨ia,ic,rfl,him⟩:=Seq.len ME;have c0:wz.cell? ⟨gb,j*2,none⟩=some (.slice ia its.length ic):=hc 0 (by decide);have c1:wz.cell? ⟨gb,j*2+1,none⟩=some (.string prec):=hc 1 (by decide);obtain⟨W1,hW1⟩:∃ W1,W1=wz.alloc (.cells #[.slice ia its.length ic,.string prec] 194):=⟨_,rfl⟩;have hb1:Below wz.heap.size wz W1:=by rw[hW1];exact (Below.refl _ _).alloc (lr0) _
    have hs1:W1.heap.size=wz.heap.size+1:=by rw[hW1];simp
    have dV:Below w.heap.size w W1:=hbz.trans (hb1.mono hsz);have q1:=WX (h.below dV) its _ (bJ.move (fun b hb=>hb1.block b (Nat.lt_of_lt_of_le (h.lt b (hF b hb)) hsz)) (fun _ h=>h) hi') hF rr hj2 (fun k hk=>MF k hk (by rw[hj2];exact hk)) hj1 prec;have kl:aj W1 wz.heap.size #[.slice ia its.length ic,.string prec] 194:=by rw[hW1];exact aj.new wz _ 194
    have l0:W1.cell? ⟨wz.heap.size,0,none⟩=some (.slice ia its.length ic):=kl.cell 0;have l1:W1.cell? ⟨wz.heap.size,1,none⟩=some (.string prec):=kl.cell 1;have HJ2:Hid (rr.length=(its,prec,pa).1.length):=hj2;clear hc ME hj3 MF hps aaU hj2;go_wp2_with fail;rw[<-hW1];clear hW1 c0 c1 l0 l1;refine q1.mono ?_;rintro e w2 ⟨u,rfl,hu,hb2⟩;obtain⟨ua,uc,rfl,-⟩:=aI hu;have hs2:=hb2.size;have Ru:Below wz.heap.size wz w2:=hb1.trans (hb2.mono (by omega));have Rk:=own_below hq2 Ru;clear q1
    go_wp2_with (at_builtin;go_loud (refine wpList_append_own_at _ rfl _ _ 40 rfl w.heap.size 24 i0 _ 1 24 Tryz.Vt hii hz0 hz1 hz2 rfl (by decide) (.slice oa acc.length oc) _ _ rfl (Rk.alloc _) ⟨_,0,none⟩ 1 1 [.slice ua rr.length uc] rfl rfl (bP (aj.new _ _ 24)) (by simp[Value.oneCell']) (by unfold maxLen;omega) (by omega) (by simp;omega) ?_;intro v5 w5 hown5 bf _ jT;obtain⟨dL,dM,hv5,-⟩:=aI hown5;subst hv5))
    have hb5:Below w.heap.size w w5:=((hbz.trans (Ru.mono hsz)).alloc (by omega) _).grown bf (by simp;omega) (fun k hk=>(hq2.lt k hk).1);have hpt:=oM.push TA hsz Ru (dO hu (by omega)) hown5 bf jT;go_roundg (it.alts.length - (j+1))
    case measure=>omega
    case rel=>exact⟨j+1,_,by omega,by go_num,hpt,hb5,bH.out.symm⟩
   ·have:j=it.alts.length:=by omega
    subst this;have HA2:Hid (acc=ps):=by have:=tT.out;rw[<-hpl,List.take_length]at this;exact this
    clear tT;go_wp2_with fail;go_ret;refine⟨_,rfl,?_,hbz⟩;rw[<-HA2.out];exact⟨qs,TA⟩
 ·have hkn:((it.kind:Int) != 2)=true:=bne_iff_ne.2 (by omega)
  have hkd:¬ (it.kind:Int)=2:=by omega
  obtain⟨s,hps,hs⟩:=hp1 hk;have FN:Hid (ps=[[s]]):=hps;clear hk hp1 hp2 hps;have hl1:=SMap.look (w:=w.drew) (h.sm.move rfl) it.name;rw[hs]at hl1;have d5:w.drew.cell? ⟨mb,5,none⟩=some (.map (some S)):=h.cells.2.1;have dn:w.drew.cell? ⟨n,m*4+1,none⟩=some (.string it.name):=hn0;clear hs;have m5:=h.cells.2.1;have n1:=World.new_ne w ⟨mb,5,none⟩ m5;have n2:=World.new_ne w ⟨n,m*4+1,none⟩ hn0;go_wp2_with fail
  go_region_held3 (fun w'=>w'.cell? ⟨mb,5,none⟩=some (.map (some S))/\w'.cell? ⟨n,m*4+1,none⟩=some (.string it.name)) (go_keep) (fail)
  go_wp2_with fail;go_ret;refine⟨_,rfl,?_,(((Below.refl _ _).alloc (lr0) _).alloc (by simp) _).drew⟩;rw[FN.out];have ka:=((aj.new w #[.int .i64 (s:Int)] 3).alloc (.cells #[.slice (some ⟨w.heap.size,0,none⟩) 1 1] 24)).drew;have kb:aj ((w.alloc (.cells #[.int .i64 (s:Int)] 3)).alloc (.cells #[.slice (some ⟨w.heap.size,0,none⟩) 1 1] 24)).drew (w.heap.size+1) #[.slice (some ⟨w.heap.size,0,none⟩) 1 1] 24:=by simpa using (aj.new (w.alloc (.cells #[.int .i64 (s:Int)] 3)) #[.slice (some ⟨w.heap.size,0,none⟩) 1 1] 24).drew
  refine⟨[(.slice (some ⟨w.heap.size,0,none⟩) 1 1,[s])],rfl,?_,?_,?_⟩
  ·exact⟨rfl,.inr ⟨w.heap.size+1,1,_,rfl,by omega,kb,lr0,by decide,rfl,rfl⟩⟩
  ·intro q hq
   rw[List.mem_singleton.1 hq];exact⟨rfl,.inr ⟨w.heap.size,1,_,rfl,by omega,ka,lr0,by decide,rfl,rfl⟩⟩
  ·intro q hq g hg
   rw[List.mem_singleton.1 hq]at hg;simp[Value.ownBlock]at hg |-;omega
end Go.Proofs.YtlcppnabbicmoaaGreatDoor
