import Derived.Test.YtjaalkocdbkdeaaGreatDoorSA24
import Derived.Test.YtjaalkocdbkdeaaGreatDoorSA25
import Derived.Lib.AppendZeros
set_option maxHeartbeats 8000000
set_option maxRecDepth 1000000
namespace Go.Proofs.YtjaalkocdbkdeaaGreatDoor
open Lx Go.Proofs.Tryz
open Go.RowKit Tr
section
variable {D G:Nat -> Prop} {w w':World} {mb H:Nat} {ta:Option Addr} {nT tc:Nat} {vP vB vK vS:Value} {N:List ByteArray} {f:Addr -> Int}
theorem Nm.call(h:Nm D w mb H ta nT tc vP vB vK vS N G f)(hT:nT<=100000)(hN:N.length<=100000)(s:ByteArray):
  Calls prog 88 #[.pointer (some ⟨mb,0,none⟩),.string s] w fun e w'=>e=.returned (.int .i64 ((nT+N.length:Nat):Int))/\Nm D w' mb H ta nT tc vP vB vK vS (N++[s]) G f/\Kp D w w':=by
 obtain⟨vN,h1,h2,h3⟩:=h.ex;refine(aeL h1 h2 (fun e=>(h3 mb e).2.1 rfl) hT hN s).mono ?_;rintro e w'⟨rfl,v3,hp⟩;exact⟨rfl,h.named h1 hp⟩
theorem Nm.BZ(h:Nm D w mb H ta nT tc vP vB vK vS N G f):w.cell? ⟨mb,6,none⟩=some (.map (some H))/\w.cell? ⟨mb,5,none⟩=some vS:=by
 obtain⟨vN,h1,-⟩:=h.ex;exact⟨h1.cell 6,h1.cell 5⟩
end
theorem fJ{D:Nat->Prop}{w w':World}{g:Nat}{cs:Array Value}{t:Nat}(h:aj w g cs t)(hk:Kp D w w')(hg:D g):aj w' g cs t:=(hk.block g hg).trans h
structure ajv(D G:Nat->Prop)(w:World)(mb H cb:Nat)(ta:Option Addr)(nT tc:Nat)(vP vB vK vS:Value)(N:List ByteArray)(f:Addr->Int)(k:Nat)(w':World):Prop where
 nm:Nm D w' mb H ta nT tc vP vB vK vS N G f
 ct:aj w' cb #[.int .i64 (k:Int)] 3
 kp:Kp (fun g=>D g/\g≠cb) w w'
theorem adP {D G:Nat->Prop} {w:World} {mb H cb xb rb:Nat} {ta:Option Addr} {nT tc:Nat} {vP vB vK vS va:Value} {N:List ByteArray} {f:Addr->Int} {k:Nat} {nm:ByteArray} (h:Nm D w mb H ta nT tc vP vB vK vS N G f) (hC:aj w cb #[.int .i64 (k:Int)] 3) (hX:aj w xb #[.pointer (some ⟨mb,0,none⟩)] 190) (hR:aj w rb #[.string nm,va] 179)
  (dC:D cb) (dX:D xb) (dR:D rb) (hcx:xb≠cb) (hcr:rb≠cb) (ht:jd w) (_:D rA) (htc:rA≠cb) (hG:∀b,G b->D b/\b≠cb/\iW w b) {a:Addr} (ha:G a.block) (bT:nT<=100000) (bN:N.length<=100000) (bk:k<=50000) (bs:nm.size<=2000) :
  Calls prog 90 #[.pointer (some a),.pointer (some ⟨cb,0,none⟩),.pointer (some ⟨xb,0,none⟩),.pointer (some ⟨rb,0,none⟩)] w fun e w'=>e=.returned (.tuple #[])/\ajv D G w mb H cb ta nT tc vP vB vK vS (N++[Lx.hName nm (k+1)]) (fun c=>if c=a then ((nT+N.length:Nat):Int) else f c) (k+1) w':=by
 obtain⟨k1,hk1,HK⟩:∃k1:Nat,IntKind.i64.wrap ((k:Int)+1)=(k1:Int)/\Hid (k1=k+1):=⟨k+1,by rw[show ((k:Int)+1)=((k+1:Nat):Int) from by omega];exact wrap64 (by omega),rfl⟩;have c0:w.cell? ⟨cb,0,none⟩=some (.int .i64 (k:Int)):=hC.cell 0;have f0:∀i,w.frozen? ⟨cb,i,none⟩=false:=hC.frozen;obtain⟨W,hW⟩:∃W,W=w.setCell ⟨cb,0,none⟩ (.int .i64 (k1:Int)):=⟨_,rfl⟩;have Dq:∀g,g≠cb->W.heap[g]?=w.heap[g]?:=fun g hg=>by rw[hW];exact zS0 hg
 have IW:W.heap.size=w.heap.size:=by rw[hW];simp[World.setCell]
 have hkW:Kp (fun g=>D g/\g≠cb) w W:=⟨by rw[hW];rfl,by rw[hW];rfl,by rw[hW];rfl,by omega,fun g hg=>Dq g hg.2⟩;have nW:Nm D W mb H ta nT tc vP vB vK vS N G f:=h.other (fun g _ hd=>Dq g fun e=>hd (e▸dC)) (by omega);have kC:aj W cb #[.int .i64 (k1:Int)] 3:=by rw[hW];exact hC.set 0 _
 have kX:aj W xb _ 190:=(Dq xb hcx).trans hX;have kR:aj W rb _ 179:=(Dq rb hcr).trans hR;have tW:jd W:=ht.move (Dq rA htc);have RV:∀b,G b->D b/\iW W b:=fun b hb=>⟨(hG b hb).1,(hG b hb).2.2.move (Dq b (hG b hb).2.1)⟩
 have qI:=ahx (w:=W.drew) (tW.move rfl) k1 (by have:=HK.out;omega);have d0:W.drew.cell? ⟨cb,0,none⟩=some (.int .i64 (k1:Int)):=kC.drew.cell 0;have dx:W.drew.cell? ⟨xb,0,none⟩=some (.pointer (some ⟨mb,0,none⟩)):=kX.drew.cell 0;have dr:W.drew.cell? ⟨rb,0,none⟩=some (.string nm):=kR.drew.cell 0;have nWd:Nm D W.drew mb H ta nT tc vP vB vK vS N G f:=nW.other (fun _ _ _=>rfl) (zL0);have d6:=nWd.BZ.1;have hds:(pY k1).size<=50002:=Nat.le_trans (Ox k1) (by have:=HK.out;omega);have IX:Hid (Lx.hName nm (k+1)=nm++⟨#[39]⟩++pY k1):=by rw[HK.out];rfl
 generalize pY k1=db at IX hds qI;have hz1:¬9223372036854775807<nm.size+1:=by omega
 have hz2:¬9223372036854775807<nm.size+1+db.size:=by omega
 have dXw:D xb/\D rb/\D cb:=⟨dX,dR,dC⟩;clear h hC hX hR ht hG Dq nW tW;go_enter func90,ntmps90;go_wp2_with fail;rw[<-hW];clear hW c0 f0
 go_region_held3 (fun w'=>w'.cell? ⟨cb,0,none⟩=some (.int .i64 (k1:Int))/\w'.cell? ⟨xb,0,none⟩=some (.pointer (some ⟨mb,0,none⟩))/\w'.cell? ⟨rb,0,none⟩=some (.string nm)/\w'.cell? ⟨mb,6,none⟩=some (.map (some H))) (first|go_keep|assumption) (first|(go_at_call 91;refine qI.mono ?_;rintro e w3⟨rfl,hb3⟩;obtain⟨n3,hk3⟩:=nWd.below hb3;have S3:w3.cell? ⟨cb,0,none⟩=some (.int .i64 (k1:Int))/\w3.cell? ⟨xb,0,none⟩=some (.pointer (some ⟨mb,0,none⟩))/\w3.cell? ⟨rb,0,none⟩=some (.string nm)/\w3.cell? ⟨mb,6,none⟩=some (.map (some H)):=⟨(fJ kC.drew hk3 dC).cell 0,(fJ kX.drew hk3 dX).cell 0,(fJ kR.drew hk3 dR).cell 0,n3.BZ.1⟩;have q3:=n3.call bT bN (nm++⟨#[39]⟩++db))|(go_at_call 88;refine q3.mono ?_;rintro e w4⟨rfl,n4,hk4⟩;have S4:w4.cell? ⟨cb,0,none⟩=some (.int .i64 (k1:Int))/\w4.cell? ⟨xb,0,none⟩=some (.pointer (some ⟨mb,0,none⟩))/\w4.cell? ⟨rb,0,none⟩=some (.string nm)/\w4.cell? ⟨mb,6,none⟩=some (.map (some H)):=⟨(fJ (fJ kC.drew hk3 dC) hk4 dC).cell 0,(fJ (fJ kX.drew hk3 dX) hk4 dX).cell 0,(fJ (fJ kR.drew hk3 dR) hk4 dR).cell 0,n4.BZ.1⟩;obtain⟨w5,A9,fE,hg5,hs5⟩:=sP.put n4.pm (fun b hb=>((RV b hb).2.move (w':=W.drew) rfl).move ((hk4.block b (RV b hb).1).trans (hk3.block b (RV b hb).1))) ha ((nT:Int)+(N.length:Int));obtain⟨n5,hk5⟩:=n4.ajT fE hg5;have S5:w5.cell? ⟨cb,0,none⟩=some (.int .i64 (k1:Int))/\w5.cell? ⟨xb,0,none⟩=some (.pointer (some ⟨mb,0,none⟩))/\w5.cell? ⟨rb,0,none⟩=some (.string nm)/\w5.cell? ⟨mb,6,none⟩=some (.map (some H)):=⟨(fJ (fJ (fJ kC.drew hk3 dC) hk4 dC) hk5 dC).cell 0,(fJ (fJ (fJ kX.drew hk3 dX) hk4 dX) hk5 dX).cell 0,(fJ (fJ (fJ kR.drew hk3 dR) hk4 dR) hk5 dR).cell 0,n5.BZ.1⟩))
 go_wp2_with fail
 go_end0
 rw[IX.out,<-HK.out];have en:((nT+N.length:Nat):Int)=(nT:Int)+(N.length:Int):=by omega
 rw[en];refine⟨rfl,n5,fJ (fJ (fJ kC.drew hk3 dC) hk4 dC) hk5 dC,?_⟩;have hkd:Kp (fun g=>D g/\g≠cb) w W.drew:=⟨hkW.os,hkW.tape,hkW.output,hkW.size,hkW.block⟩;exact((hkd.trans hk3 fun g hg=>hg.1).trans hk4 fun g hg=>hg.1).trans hk5 fun g hg=>hg.1
namespace Lx
theorem aiw{A R:List ByteArray}{b:ByteArray}(h:b∉A):fix (A++b::R) b=A.length:=by
 refine YG (by simp) fun i hi e=>h ?_
 rw[List.getElem?_append_left hi]at e;exact List.mem_of_getElem? e
def dY(rs:List Rl):List ByteArray:=wW::rs.flatMap gD
theorem ahy{rs:List Rl}{j:Nat}(hj:j<rs.length):dY (rs.take (j+1))=dY (rs.take j)++gD rs[j]:=by
 unfold dY;rw[List.take_succ_eq_append_getElem hj,List.flatMap_append,List.cons_append];simp
theorem agw{rs:List Rl}{j:Nat}(hj:j<rs.length):∃R,dY rs=dY (rs.take j)++rs[j].name::R:=by
 refine⟨(List.range (aR 9 rs[j].alts).length).map (fun k=>hName rs[j].name (k+1))++(rs.drop (j+1)).flatMap gD,?_⟩;have e:rs=rs.take j++rs[j]::rs.drop (j+1):=by rw[<-List.drop_eq_getElem_cons hj,List.take_append_drop]
 unfold dY
 conv=>lhs;rw[e]
 rw[List.flatMap_append,List.flatMap_cons];simp[gD]
theorem ahz{b:ByteArray}(h:isName b=true):∀c∈b.data.toList,(small (c.toNat:Int) || digit (c.toNat:Int))=true:=by
 unfold isName isWord Er at h;simp only[Bool.and_eq_true,List.all_eq_true]at h;exact h.2
theorem WC{b:ByteArray}(h:isName b=true):b.size<=12:=by
 unfold isName isWord at h;simp only[Bool.and_eq_true,decide_eq_true_eq]at h;exact h.1.1.2
theorem afm{b:ByteArray}(h:isToken b=true):b.size<=12:=by
 unfold isToken isWord at h;simp only[Bool.and_eq_true,decide_eq_true_eq]at h;exact h.1.1.2
theorem ahA{b c:ByteArray}{k:Nat}(h:isName c=true):hName b k≠c:=by
 intro e;have hm:(39:UInt8)∈c.data.toList:=by
  rw[<-e];unfold hName Zi;simp
 have:=ahz h 39 hm;revert this;decide
theorem Xx{c:ByteArray}(h:isName c=true):wW≠c:=by
 intro e;rw[<-e]at h;revert h;decide
theorem Um{b:ByteArray}(h:isToken b=true):isName b=false:=by
 unfold isToken isName isWord at *;simp only[Bool.and_eq_true,decide_eq_true_eq]at h;have h1:=h.1.2;have:small (bW b 0)=false:=by
  unfold capital at h1;unfold small;simp only[decide_eq_true_eq]at h1;simp only[decide_eq_false_iff_not];omega
 rw[this];simp
theorem afn{rs:List Rl}(hn:∀r∈rs,isName r.name=true)(nd:(rs.map Rl.name).Nodup){j:Nat}(hj:j<rs.length):rs[j].name∉dY (rs.take j):=by
 have hj1:=hn rs[j] (List.getElem_mem hj);intro h;rcases List.mem_cons.1 h with h|h
 ·exact Xx hj1 h.symm
 ·obtain⟨r,hr,h⟩:=List.mem_flatMap.1 h
  unfold gD at h;rcases List.mem_cons.1 h with h|h
  ·obtain⟨i,hi,rfl⟩:=List.getElem_of_mem hr
   rw[List.length_take]at hi;rw[List.getElem_take]at h;have hinj:=List.pairwise_iff_getElem.1 nd i j (by simp;omega) (by simpa using hj) (by omega);simp only[List.getElem_map]at hinj;exact hinj h.symm
  ·obtain⟨k,-,e⟩:=List.mem_map.1 h
   exact ahA hj1 e
theorem aix{rs:List Rl}(hn:∀r∈rs,isName r.name=true)(nd:(rs.map Rl.name).Nodup){j:Nat}(hj:j<rs.length):fix (dY rs) rs[j].name=(dY (rs.take j)).length:=by
 obtain⟨R,e⟩:=agw hj;rw[e];exact aiw (afn hn nd hj)
end Lx
theorem Xy(ar:Array Value)(w:World):(callFunc 89 ar).run prog w=.ok (.enter 89 ar) w:=by kernel_rfl
theorem ahB(ar:Array Value)(w:World):(callFunc 90 ar).run prog w=.ok (.enter 90 ar) w:=by kernel_rfl
def hlA(w:World)(v:Value)(l:List Lx.Alt):List AI:=(aT 9 w v l).filter fun p=>Lx.hlp p.2
theorem O8{F:Nat->Prop}{w:World}{v:Value}{l:List Lx.Alt}(h:ay YP 9 F w v l):(hlA w v l).length=(aR 9 l).length:=by
 unfold hlA aR;rw[<-Em h,List.filter_map,List.length_map];rfl
theorem Yj{F:Nat->Prop}{w:World}{v:Value}{l:List Lx.Alt}(h:ay YP 9 F w v l):(hlA w v l).map Prod.snd=aR 9 l:=by
 unfold hlA aR;rw[<-Em h,List.filter_map];rfl
theorem adQ {D F G:Nat->Prop} {w:World} {mb H cb xb rb:Nat} {ta:Option Addr} {nT tc:Nat} {vP vB vK vS va:Value} {N:List ByteArray} {f:Addr->Int} {nm:ByteArray} {l:List Lx.Alt} (h:Nm D w mb H ta nT tc vP vB vK vS N G f) (hC:aj w cb #[.int .i64 0] 3) (hX:aj w xb #[.pointer (some ⟨mb,0,none⟩)] 190) (hR:aj w rb #[.string nm,va] 179)
  (dC:D cb) (dX:D xb) (dR:D rb) (hcx:xb≠cb) (hcr:rb≠cb) (ht:jd w) (dT:D rA) (htc:rA≠cb) (hG:∀b,G b->D b/\b≠cb/\iW w b) (hF:∀b,F b->D b/\b≠cb) (hA:ay YP 9 F w va l) (RY:∀p∈aT 9 w va l,G p.1.block) (nd:((aT 9 w va l).map Prod.fst).Nodup) (bT:nT<=100000) (bN:N.length+(hlA w va l).length<=50000) (bs:nm.size<=2000) :
  Calls prog 82 #[va,.func (.func 89) #[] #[],.func (.func 90) #[] #[.pointer (some ⟨cb,0,none⟩),.pointer (some ⟨xb,0,none⟩),.pointer (some ⟨rb,0,none⟩)]] w fun e w'=>e=.returned (.tuple #[])/\∃f',Nm D w' mb H ta nT tc vP vB vK vS (N++hNames nm (hlA w va l).length) G f'/\Kp (fun g=>D g/\g≠cb) w w'/\Ae (nT+N.length) (hlA w va l) f f':=by
 have hnd:((hlA w va l).map Prod.fst).Nodup:=nd.sublist (List.filter_sublist.map _);have q:=OW 9 89 90 #[] #[.pointer (some ⟨cb,0,none⟩),.pointer (some ⟨xb,0,none⟩),.pointer (some ⟨rb,0,none⟩)] Lx.hlp F w (fun L w'=>∃f',Nm D w' mb H ta nT tc vP vB vK vS (N++hNames nm L.length) G f'/\aj w' cb #[.int .i64 (L.length:Int)] 3/\Kp (fun g=>D g/\g≠cb) w w'/\Ae (nT+N.length) L f f') (fun p=>G p.1.block) (hlA w va l) Xy ahB
  (fun w' n m it _ hi=>Ny hi)
  (fun w' L n m it hI _ hi hwd hq hR'=>by
   obtain⟨f',i1,i2,i3,i4⟩:=hI;obtain⟨R,hR'⟩:=hR';have hlen:L.length+1<=(hlA w va l).length:=by rw[hR'];simp
   have hnd':((L++[((⟨n,m*4,none⟩:Addr),it)]).map Prod.fst).Nodup:=by
    refine hnd.sublist (List.Sublist.map _ ?_);rw[hR',show L++(((⟨n,m*4,none⟩:Addr),it)::R)=(L++[((⟨n,m*4,none⟩:Addr),it)])++R by simp];exact List.sublist_append_left _ _
   refine(adP (a:=⟨n,m*4,none⟩) i1 i2 (fJ hX i3 ⟨dX,hcx⟩) (fJ hR i3 ⟨dR,hcr⟩) dC dX dR hcx hcr (ht.move (i3.block _ ⟨dT,htc⟩)) dT htc (fun b hb=>⟨(hG b hb).1,(hG b hb).2.1,(hG b hb).2.2.move (i3.block b ⟨(hG b hb).1,(hG b hb).2.1⟩)⟩) hq bT (by rw[List.length_append,Oe];omega) (by omega) bs).mono ?_;rintro e w''⟨rfl,j1,j2,j3⟩;refine⟨rfl,_,?_,?_,i3.trans j3 fun g hg=>hg,i4.push hnd'⟩
   ·rw[List.length_append,List.length_singleton,aeM,<-List.append_assoc]
    have e:((nT+(N++hNames nm L.length).length:Nat):Int)=((nT+N.length+L.length:Nat):Int):=by rw[List.length_append,Oe,Nat.add_assoc]
    rw[e]at j1;exact j1
   ·rw[List.length_append,List.length_singleton];exact j2)
  (fun L w' hI b hb=>by obtain⟨f',i1,i2,i3,i4⟩:=hI;exact i3.block b (hF b hb))
  va l hA (fun p hp=>RY p hp) w [] ⟨f,by simpa [hNames]using h,hC,Kp.refl _ _,fun a _=>rfl,fun k p hp=>by simp at hp⟩ ⟨[],by simp[hlA]⟩
 refine q.mono ?_;rintro e w'⟨rfl,f',i1,i2,i3,i4⟩;rw[List.nil_append]at i1 i4;exact⟨rfl,f',i1,i3,i4⟩
namespace Lx
def jk(T:List ByteArray)(b:ByteArray):Int:=if 0<=bA T b then bA T b else 0
theorem ahC(a:ByteArray):jk [a]=fun _=>0:=by
 funext b;unfold jk;have:=zK [a] b;simp only[List.length_singleton]at this
 split <;> omega
theorem aiy{T:List ByteArray}{b:ByteArray}(h:0<=bA T b)(a:ByteArray):bA (T++[a]) b=bA T b:=by
 unfold bA fix at *;rw[List.findIdx_append]
 split at h
 ·rename_i h1
  rw[if_pos h1,if_pos (by rw[List.length_append];omega),if_pos h1]
 ·omega
theorem ahD{T:List ByteArray}{b:ByteArray}(h:¬0<=bA T b):(fun c=>if c=b then (T.length:Int) else jk T c)=jk (T++[b]):=by
 funext c
 by_cases hc:c=b
 ·rw[if_pos hc,hc]
  have hn:b∉T:=fun hm=>h (iA.2 hm)
  have:=Pv (l:=T++[b]) (b:=b) (j:=T.length) (by simp) (fun i hi e=>hn (by rw[List.getElem?_append_left hi]at e;exact List.mem_of_getElem? e));unfold jk;rw[this,if_pos (by omega)]
 ·rw[if_neg hc]
  unfold jk
  by_cases h0:0<=bA T c
  ·rw[aiy h0]
  ·rw[if_neg h0,if_neg]
   intro h1;rcases List.mem_append.1 (iA.1 h1) with h2|h2
   ·exact h0 (iA.2 h2)
   ·exact hc (List.mem_singleton.1 h2)
theorem WE{a b:ByteArray}{T:List ByteArray}(h:b≠a):jk (a::T) b=0↔¬0<=bA (a::T) b:=by
 unfold jk;constructor
 ·intro h0 h1
  rw[if_pos h1]at h0;unfold bA fix at h0;rw[List.findIdx_cons]at h0;simp[Ne.symm h]at h0
  split at h0 <;> omega
 ·intro h1
  rw[if_neg h1]
def fU(ws:List Wd):List ByteArray:=(ws.filter fun x=>decide (x.1≠1) && decide (x.1≠2)).map fun x=>x.2.1
theorem agx(a b:List Wd):fU (a++b)=fU a++fU b:=by unfold fU;rw[List.filter_append,List.map_append]
def nL(ws:List Wd):List ByteArray:=(ws.filter fun x=>decide (x.1≠1) && decide (x.1≠2) && decide (x.1≠4)).map fun x=>x.2.1
theorem Ka(a b:List Wd):nL (a++b)=nL a++nL b:=by unfold nL;rw[List.filter_append,List.map_append]
theorem JY{α:Type}(f:α->List Wd):∀l:List α,nL (l.flatMap f)=l.flatMap fun a=>nL (f a)
 | []=>rfl
 |a::l=>by rw[List.flatMap_cons,Ka,JY f l,List.flatMap_cons]
theorem Vz{l:List ByteArray}{b c:ByteArray}(h:c∈l):c∈iD l b:=by
 unfold iD;split
 ·exact h
 ·exact List.mem_append_left _ h
theorem Un:∀(ws:List Wd)(L:List ByteArray),(∀x∈ws,x.1=4->x.2.1∈L)->bP L (fU ws)=bP L (nL ws)
 | [],_,_=>rfl
 |x::ws,L,h=>by
  have hr:∀L',(∀c,c∈L->c∈L')->bP L' (fU ws)=bP L' (nL ws):=fun L' hL=>Un ws L' fun y hy e=>hL _ (h y (List.mem_cons_of_mem _ hy) e)
  by_cases h12:x.1=1\/x.1=2
  ·have e1:fU (x::ws)=fU ws:=by unfold fU;rw[List.filter_cons_of_neg];rcases h12 with h|h <;> simp[h]
   have e2:nL (x::ws)=nL ws:=by unfold nL;rw[List.filter_cons_of_neg];rcases h12 with h|h <;> simp[h]
   rw[e1,e2];exact hr L fun _ h=>h
  ·have n1:x.1≠1:=fun e=>h12 (.inl e)
   have n2:x.1≠2:=fun e=>h12 (.inr e)
   have e1:fU (x::ws)=x.2.1::fU ws:=by unfold fU;rw[List.filter_cons_of_pos (by simp[n1,n2])];rfl
   by_cases h4:x.1=4
   ·have e2:nL (x::ws)=nL ws:=by unfold nL;rw[List.filter_cons_of_neg];simp[h4]
    have e3:iD L x.2.1=L:=if_pos (iA.2 (h x (List.mem_cons_self ..) h4));rw[e1,e2,show bP L (x.2.1::fU ws)=bP (iD L x.2.1) (fU ws) from rfl,e3];exact hr L fun _ h=>h
   ·have e2:nL (x::ws)=x.2.1::nL ws:=by unfold nL;rw[List.filter_cons_of_pos (by simp[n1,n2,h4])];rfl
    rw[e1,e2];exact hr _ fun _ h=>Vz h
theorem UN:∀(d:Nat)(l:List Alt),nL (dw d l)=iR d l
 |0,l=>rfl
 |d+1,l=>by
  rw[FW,JY,NZ];congr 1;funext a;unfold qy;have e4:nL (if a.2.1=aL then [] else [(4,a.2.1,a.2.2)])=[]:=by split <;> rfl
  rw[Ka,e4,List.append_nil,JY];congr 1;funext x;unfold jX mI;rw[Ka,UN d];congr 1
  split
  ·rename_i h;rw[if_neg (by omega)];rfl
  ·split
   ·rfl
   ·rfl
theorem agy{g:Gr}(h:∀x∈iE g,x.1=4->x.2.1∈gZ g):bP [iN] (fU (iE g))=aD g:=by
 have e0:iE g=gY g++g.rules.flatMap fun r=>(1,r.name,r.place)::dw 9 r.alts:=rfl
 have e1:fU (gY g)=gZ g:=by
  unfold fU gZ eP;congr 1;refine List.filter_eq_self.2 fun x hx=>?_
  unfold gY at hx;obtain⟨lv,-,hx⟩:=List.mem_flatMap.1 hx;obtain⟨t,-,rfl⟩:=List.mem_map.1 hx;rfl
 have hm:∀(bs l:List ByteArray)(c:ByteArray),c∈l\/c∈bs->c∈bP l bs:=by
  intro bs
  induction bs with
  |nil=>
   intro l c h;rcases h with h|h
   ·exact h
   ·cases h
  |cons b bs ih=>
   intro l c h;refine ih (iD l b) c ?_;rcases h with h|h
   ·exact .inl (Vz h)
   ·rcases List.mem_cons.1 h with h | h
    ·subst h
     refine .inl ?_;unfold iD;split
     ·rename_i h0;exact iA.1 h0
     ·simp
    ·exact .inr h
 rw[e0,agx,DW,e1,Un _ _ fun x hx e=>hm _ _ _ (.inr (h x (by rw[e0];exact List.mem_append_right _ hx) e)),JY];unfold aD;rw[DW];congr 1;congr 1;funext r;rw[show (1,r.name,r.place)::dw 9 r.alts=[(1,r.name,r.place)]++dw 9 r.alts from rfl,Ka,UN];rfl
end Lx
theorem Nm.weak{D D' G:Nat->Prop}{w:World}{mb H:Nat}{ta:Option Addr}{nT tc:Nat}{vP vB vK vS:Value}{N:List ByteArray}{f:Addr->Int}(h:Nm D w mb H ta nT tc vP vB vK vS N G f)(hD:∀g,D' g->D g):Nm D' w mb H ta nT tc vP vB vK vS N G f:=by
 obtain⟨⟨vN,h1,h2,h3⟩,e1,e2,e3,e4,e5⟩:=h;exact⟨⟨vN,h1,h2,fun g hg=>⟨fun hd=>(h3 g hg).1 (hD g hd),(h3 g hg).2⟩⟩,e1,fun hd=>e2 (hD _ hd),fun hd=>e3 (hD _ hd),e4,fun g hg=>e5 g (hD g hg)⟩
theorem Nm.new{D G:Nat->Prop}{w:World}{mb H:Nat}{ta:Option Addr}{nT tc:Nat}{vP vB vK vS:Value}{N:List ByteArray}{f:Addr->Int}(h:Nm D w mb H ta nT tc vP vB vK vS N G f){w':World}(hb:Below w.heap.size w w')(hs:w.heap.size<w'.heap.size):Nm (fun g=>D g\/g=w.heap.size) w' mb H ta nT tc vP vB vK vS N G f/\Kp D w w':=by
 refine⟨?_,Kp.below hb h.lt⟩;have lm:=h.lm;have lH:H<w.heap.size:=iJ.lt h.pm;obtain⟨⟨vN,h1,h2,h3⟩,e1,e2,e3,e4,e5⟩:=h;refine⟨⟨vN,(hb.block _ lm).trans h1,own_below h2 hb,fun g hg=>⟨?_,(h3 g hg).2⟩⟩,e1.move (hb.block _ lH),?_,?_,e4,?_⟩
 ·rintro(h' | h')
  ·exact(h3 g hg).1 h'
  ·have:=(h2.lt g hg).2;omega
 ·rintro(h' | h')
  ·exact e2 h'
  ·omega
 ·rintro(h' | h')
  ·exact e3 h'
  ·omega
 ·rintro g(h' | h')
  ·have:=e5 g h';omega
  ·omega
theorem UO{α:Type}{f:Nat->α->List AI}:∀(l:List α)(j:Nat),((pQ f j l).map Prod.fst).Nodup->∀{i k:Nat}{a b:α},i<k->l[i]?=some a->l[k]?=some b->∀{p q:AI},p∈f (j+i) a->q∈f (j+k) b->p.1≠q.1
 | [],j,_,i,k,a,b,_,h,_,_,_,_,_=>by simp at h
 |x::xs,j,hn,i,k,a,b,hik,ha,hb,p,q,hp,hq=>by
  rw[pQ,List.map_append,List.nodup_append]at hn;obtain⟨k',rfl⟩:∃k',k=k'+1:=⟨k-1,by omega⟩;have hb':xs[k']?=some b:=by simpa using hb
  have hq':q∈f (j+1+k') b:=by rw[show j+1+k'=j+(k'+1) by omega];exact hq
  cases i with
  |zero=>
   simp only[List.getElem?_cons_zero,Option.some.injEq]at ha;subst ha;refine hn.2.2 _ (List.mem_map.2 ⟨p,hp,rfl⟩) _ (List.mem_map.2 ⟨q,?_,rfl⟩);have:∀(l:List α)(j m:Nat),l[m]?=some b->q∈f (j+m) b->q∈pQ f j l:=by
    intro l
    induction l with
    |nil=>intro j m h;simp at h
    |cons y l ih=>
     intro j m h hq;rw[pQ,List.mem_append];cases m with
     |zero=>simp only[List.getElem?_cons_zero,Option.some.injEq]at h;subst h;exact .inl hq
     |succ m=>exact .inr (ih (j+1) m (by simpa using h) (by rw[show j+1+m=j+(m+1) by omega];exact hq))
   exact this xs (j+1) k' hb' hq'
  |succ i=>
   exact UO xs (j+1) hn.2.1 (i:=i) (k:=k') (by omega) (by simpa using ha) hb' (by rw[show j+1+i=j+(i+1) by omega];exact hp) hq'
theorem Og{α:Type}{f:Nat->α->List AI}{b:α}{q:AI}:∀(l:List α)(j m:Nat),l[m]?=some b->q∈f (j+m) b->q∈pQ f j l
 | [],j,m,h,_=>by simp at h
 |y::l,j,m,h,hq=>by
  rw[pQ,List.mem_append];cases m with
  |zero=>simp only[List.getElem?_cons_zero,Option.some.injEq]at h;subst h;exact .inl hq
  |succ m=>exact .inr (Og l (j+1) m (by simpa using h) (by rw[show j+1+m=j+(m+1) by omega];exact hq))
theorem Uo{α:Type}{f:Nat->α->List AI}:∀(l:List α)(j m:Nat)(b:α),((pQ f j l).map Prod.fst).Nodup->l[m]?=some b->((f (j+m) b).map Prod.fst).Nodup
 | [],j,m,b,_,h=>by simp at h
 |y::l,j,m,b,hn,h=>by
  rw[pQ,List.map_append,List.nodup_append]at hn;cases m with
  |zero=>simp only[List.getElem?_cons_zero,Option.some.injEq]at h;subst h;exact hn.1
  |succ m=>
   have:=Uo l (j+1) m b hn.2.1 (by simpa using h);rw[show j+1+m=j+(m+1) by omega]at this;exact this
structure vg(nT:Nat)(rs:List Lx.Rl)(j:Nat)(f0 f:ByteArray->Int):Prop where
 rule:∀i(hi:i<rs.length),i<j->f rs[i].name=((nT+(dY (rs.take i)).length:Nat):Int)
 tok:∀c,(∀i(hi:i<rs.length),i<j->rs[i].name≠c)->f c=f0 c
theorem vg.step{nT:Nat}{rs:List Lx.Rl}{j:Nat}{f0 f:ByteArray->Int}(h:vg nT rs j f0 f)(nd:(rs.map Lx.Rl.name).Nodup)(hj:j<rs.length):vg nT rs (j+1) f0 (fun c=>if c=rs[j].name then ((nT+(dY (rs.take j)).length:Nat):Int) else f c):=by
 refine⟨fun i hi hlt=>?_,fun c hc=>?_⟩
 ·by_cases e:i=j
  ·subst e;simp
  ·have hne:rs[i].name≠rs[j].name:=by
    have:=List.pairwise_iff_getElem.1 nd i j (by simpa using hi) (by simpa using hj) (by omega);simpa using this
   simp only[if_neg hne];exact h.rule i hi (by omega)
 ·have hne:c≠rs[j].name:=fun e=>hc j hj (by omega) e.symm
  simp only[if_neg hne];exact h.tok c fun i hi hlt=>hc i hi (by omega)
def vw(w:World)(gR nT:Nat)(rs:List Lx.Rl)(j:Nat)(f:Addr->Int):Prop:=∀i(hi:i<rs.length),i<j->∀k p,(hlA w (cv w ⟨gR,i*2+1,none⟩) rs[i].alts)[k]?=some p->f p.1=((nT+(dY (rs.take i)).length+1+k:Nat):Int)
theorem vw.step{w:World}{gR nT:Nat}{rs:List Lx.Rl}{j:Nat}{f f':Addr->Int}(h:vw w gR nT rs j f)(hj:j<rs.length)(nd:((O7 w gR 0 rs).map Prod.fst).Nodup)(ht:Ae (nT+(dY (rs.take j)).length+1) (hlA w (cv w ⟨gR,j*2+1,none⟩) rs[j].alts) f f'):vw w gR nT rs (j+1) f':=by
 intro i hi hlt k p hp
 by_cases e:i=j
 ·subst e
  exact ht.2 k p hp
 ·rw[ht.1 p.1 fun q hq e'=>?_]
  ·exact h i hi (by omega) k p hp
  ·have h1:p∈aT 9 w (cv w ⟨gR,i*2+1,none⟩) rs[i].alts:=(List.mem_filter.1 (List.mem_of_getElem? hp)).1
   have h2:q∈aT 9 w (cv w ⟨gR,j*2+1,none⟩) rs[j].alts:=(List.mem_filter.1 hq).1;exact UO rs 0 nd (i:=i) (k:=j) (by omega) (List.getElem?_eq_getElem hi) (List.getElem?_eq_getElem hj) (by rw[Nat.zero_add];exact h1) (by rw[Nat.zero_add];exact h2) e'.symm
structure ajU(D G:Nat->Prop)(w:World)(mb S H gR:Nat)(ta:Option Addr)(nT tc:Nat)(vP vB vK:Value)(rs:List Lx.Rl)(j:Nat)(f0:ByteArray->Int)(w':World):Prop where
 ex:∃f fS,Nm (fun g=>D g\/g=S) w' mb H ta nT tc vP vB vK (.map (some S)) (dY (rs.take j)) G f/\SMap w' S fS/\vg nT rs j f0 fS/\vw w gR nT rs j f
 kp:Kp D w w'
theorem aee{D F:Nat->Prop}{w:World}{mb S H:Nat}{ta:Option Addr}{nT tc:Nat}{vP vB vK vR:Value}{rs:List Lx.Rl}{f0:ByteArray->Int}(kM:aj w mb #[.slice ta nT tc,.slice none 0 0,vP,vB,vK,.map (some S),.map (some H)] 127)(hS:SMap w S f0)(hH:sP (fun b=>F b/\iW w b) w H (fun _=>0))(hR:Tr.dW F w 179 2 cR KR vR rs)(hF:∀b,F b->D b)(hD:∀b,D b->b<w.heap.size)(nM:¬D mb)(nS:¬D S)(nH:¬D H)(hSH:S≠H)(ht:jd w)(dT:D rA)(nd:(rs.map Lx.Rl.name).Nodup)(hn:∀r∈rs,r.name.size<=2000)(bT:nT<=100000)(bN:(dY rs).length<=50000)(bR:rs.length<=100000):
  Calls prog 48 #[.pointer (some ⟨mb,0,none⟩),vR] w fun e w'=>e=.returned (.tuple #[])/\ajU D (fun b=>F b/\iW w b) w mb S H (aY vR) ta nT tc vP vB vK rs rs.length f0 w':=by
 have zq:mo F w vR rs:=⟨fun b hb=>hD b (hF b hb),dW.weak hR fun A v x hA hk=>eO.weak hA hk⟩;have hap:=TL hR;obtain⟨a,c,rfl,hm⟩:=zq.len;have lm:=kM.lt;have lS:=hS.lt;have lH:H<w.heap.size:=iJ.lt hH;have Dr:mb≠S:=fun e=>by
  obtain⟨es,clock,h1,-⟩:=hS;unfold aj at kM;rw[e,h1]at kM;cases kM
 have hmH:mb≠H:=fun e=>by
  obtain⟨es,clock,h1,-⟩:=hH;unfold aj at kM;rw[e,h1]at kM;cases kM
 unfold maxLen at hm;obtain⟨W,hW⟩:∃W,W=w.alloc (.cells #[.pointer (some ⟨mb,0,none⟩)] 190):=⟨_,rfl⟩;have hbW:Below w.heap.size w W:=by rw[hW];exact(Below.refl _ _).alloc (zL0) _
 have IW:W.heap.size=w.heap.size+1:=by rw[hW];simp
 have kX:aj W w.heap.size #[.pointer (some ⟨mb,0,none⟩)] 190:=by rw[hW];exact aj.new w _ 190
 have nW:Nm (fun g=>D g\/g=S\/g=w.heap.size) W mb H ta nT tc vP vB vK (.map (some S)) [] (fun b=>F b/\iW w b) (fun _=>0):=by
  refine⟨⟨.slice none 0 0,(hbW.block _ lm).trans kM,World.ownsRow_nil _ _ _ _,fun g hg=>(by cases hg)⟩,hH.move (hbW.block _ lH),?_,?_,hmH,?_⟩
  ·rintro(h | h | h)
   ·exact nM h
   ·exact Dr h
   ·omega
  ·rintro(h | h | h)
   ·exact nH h
   ·exact hSH h.symm
   ·omega
  ·rintro g(h | h | h)
   ·have:=hD g h;omega
   ·omega
   ·omega
 have q0:=nW.call bT (by simp) wW;have x0:W.cell? ⟨w.heap.size,0,none⟩=some (.pointer (some ⟨mb,0,none⟩)):=kX.cell 0;go_enter func48,ntmps48;go_wp2_with fail;rw[<-hW];refine q0.mono ?_;rintro e w1⟨rfl,n1,hk1⟩;have rP:aj w1 w.heap.size _ 190:=fJ kX hk1 (.inr (.inr rfl));have hS1:SMap w1 S f0:=(hS.move (hbW.block _ lS)).move (hk1.block S (.inr (.inl rfl)));have xw:Kp D w w1:=(Kp.below hbW hD).trans hk1 fun g hg=>.inl hg
 have sy0:vg nT rs 0 f0 f0:=⟨fun i hi h=>absurd h (by omega),fun _ _=>rfl⟩;have he0:vw w (aY (.slice a rs.length c)) nT rs 0 (fun _=>0):=fun i hi h=>absurd h (by omega)
 clear q0 x0 hW hbW IW kX nW hk1 hS hH;go_wp2_with fail
 go_loopg [11] rs.length (fun k i wr=>∃(j:Nat)(f:Addr->Int)(fS:ByteArray->Int),j+k=rs.length/\i=.int .i64 j/\Nm (fun g=>D g\/g=S\/g=w.heap.size) wr mb H ta nT tc vP vB vK (.map (some S)) (dY (rs.take j)) (fun b=>F b/\iW w b) f/\SMap wr S fS/\aj wr w.heap.size #[.pointer (some ⟨mb,0,none⟩)] 190/\Kp D w wr/\vg nT rs j f0 fS/\vw w (aY (.slice a rs.length c)) nT rs j f)
 case atStart=>exact⟨0,_,_,by omega,rfl,n1,hS1,rP,xw,sy0,he0⟩
 case round=>
  clear n1 hS1 rP xw sy0 he0;clear w1;obtain⟨j,f,fS,hk,rfl,nr,hSr,kXr,hkr,sy,he⟩:=hrel
  by_cases hlt:j<rs.length
  ·obtain⟨gR,ajV,va,hv,hFg,hA,c0,c1⟩:=zq.at hlt
   cases hv;have RZ:aY (.slice (some ⟨gR,0,none⟩) rs.length c)=gR:=rfl;rw[RZ]at he hap;have wE:cv w ⟨gR,j*2+1,none⟩=va:=by unfold cv;rw[c1];rfl
   have bkr:=hkr.block gR (hF gR hFg);have d0:wr.cell? ⟨gR,j*2,none⟩=some (.string rs[j].name):=(World.cell?_of_block (w:=w) bkr).trans c0;have d1:wr.cell? ⟨gR,j*2+1,none⟩=some va:=(World.cell?_of_block (w:=w) bkr).trans c1;have hnj:=hn rs[j] (List.getElem_mem hlt);have hys:=sy.step nd hlt;have hlen:(dY (rs.take (j+1))).length<=50000:=by
    obtain⟨R,e⟩:∃R,dY rs=dY (rs.take (j+1))++R:=by
     refine⟨(rs.drop (j+1)).flatMap gD,?_⟩;unfold dY
     conv=>lhs;rw[<-List.take_append_drop (j+1) rs]
     rw[List.flatMap_append,List.cons_append]
    rw[e,List.length_append]at bN;omega
   have hsc:=ahy hlt;have hnr:gD rs[j]=rs[j].name::hNames rs[j].name (hlA w va rs[j].alts).length:=by rw[O8 hA];rfl
   rw[hsc,hnr]at hlen;have RY:∀p∈aT 9 w va rs[j].alts,F p.1.block/\iW w p.1.block:=fun p hp=>hap.1 p (Og rs 0 j (List.getElem?_eq_getElem hlt) (by rw[Nat.zero_add,wE];exact hp))
   have EG:((aT 9 w va rs[j].alts).map Prod.fst).Nodup:=by
    have:=Uo rs 0 j _ hap.2 (List.getElem?_eq_getElem hlt);rw[Nat.zero_add,wE]at this;exact this
   have hstep:∀f',Ae (nT+(dY (rs.take j)).length+1) (hlA w va rs[j].alts) f f'->vw w gR nT rs (j+1) f':=fun f' ht'=>he.step hlt hap.2 (by rw[wE];exact ht')
   have HST:Hid (∀f',Ae (nT+(dY (rs.take j)).length+1) (hlA w va rs[j].alts) f f'->vw w gR nT rs (j+1) f'):=hstep;have HSC:Hid (dY (rs.take (j+1))=dY (rs.take j)++rs[j].name::hNames rs[j].name (hlA w va rs[j].alts).length):=by show _=_;rw[hsc,hnr]
   clear hstep hsc hnr c0 c1 wE he hap sy;have Qs:vg nT rs (j+1) f0 fun c=>if c=rs[j].name then ((nT+(dY (rs.take j)).length:Nat):Int) else fS c:=hys
   clear hys;generalize rs[j].alts=al at *;generalize rs[j].name=nm at *;obtain⟨N,hN⟩:∃N,N=dY (rs.take j):=⟨_,rfl⟩;rw[<-hN]at nr hlen HST HSC Qs;clear hN;obtain⟨sa,sc,rfl,-⟩:=ay.len hA;obtain⟨W1,hW1⟩:∃W1,W1=wr.alloc (.cells #[.string nm,.slice sa al.length sc] 179):=⟨_,rfl⟩;have hb1:Below wr.heap.size wr W1.drew:=by rw[hW1];exact((Below.refl _ _).alloc (zL0) _).drew
   have hs1:W1.heap.size=wr.heap.size+1:=by rw[hW1];simp
   have kR:aj W1 wr.heap.size #[.string nm,.slice sa al.length sc] 179:=by rw[hW1];exact aj.new wr _ 179
   obtain⟨n1,hk1⟩:=nr.new hb1 (by show wr.heap.size<W1.heap.size;omega);have lXr:=kXr.lt;have rP:aj W1.drew w.heap.size _ 190:=(hb1.block _ lXr).trans kXr;have e1x:W1.drew.cell? ⟨w.heap.size,0,none⟩=some (.pointer (some ⟨mb,0,none⟩)):=rP.cell 0;have e1r:W1.drew.cell? ⟨wr.heap.size,0,none⟩=some (.string nm):=kR.drew.cell 0;have e15:=n1.BZ.2;have hlN:N.length<=50000:=by rw[List.length_append]at hlen;omega
   have q1:=n1.call bT (by omega) nm;have hS1:SMap W1.drew S fS:=hSr.move (hb1.block _ (nr.lt S (.inr (.inl rfl))));go_wp2_with fail;rw[<-hW1];clear hW1 d0 d1
   go_region_held3 (fun w'=>w'.cell? ⟨w.heap.size,0,none⟩=some (.pointer (some ⟨mb,0,none⟩))/\w'.cell? ⟨wr.heap.size,0,none⟩=some (.string nm)/\w'.cell? ⟨mb,5,none⟩=some (.map (some S))) (first|go_keep|assumption) ((go_at_call 88;refine q1.mono ?_;rintro e w3⟨rfl,n3,hk3⟩;have S3:w3.cell? ⟨w.heap.size,0,none⟩=some (.pointer (some ⟨mb,0,none⟩))/\w3.cell? ⟨wr.heap.size,0,none⟩=some (.string nm)/\w3.cell? ⟨mb,5,none⟩=some (.map (some S)):=⟨(fJ rP hk3 (.inl (.inr (.inr rfl)))).cell 0,(fJ kR.drew hk3 (.inr rfl)).cell 0,n3.BZ.2⟩;obtain⟨w4,Dt,qp,hg4,hs4⟩:=SMap.put (w:=w3) (hS1.move (hk3.block S (.inl (.inr (.inl rfl))))) nm ((nT:Int)+(N.length:Int));have n4:=n3.other (w':=w4) (fun g hg hd=>hg4.block g hg fun e=>hd (.inl (.inr (.inl (Option.some.inj e))))) (by omega);have gG:aj w4 w.heap.size #[.pointer (some ⟨mb,0,none⟩)] 190:=(hg4.block _ (by have:=n3.lt w.heap.size (.inl (.inr (.inr rfl)));exact this) (fun e=>by have:=Option.some.inj e;omega)).trans (fJ rP hk3 (.inl (.inr (.inr rfl))));have qU:aj w4 wr.heap.size #[.string nm,.slice sa al.length sc] 179:=(hg4.block _ (n3.lt _ (.inr rfl)) (fun e=>by have:=Option.some.inj e;omega)).trans (fJ kR.drew hk3 (.inr rfl));have S4:w4.cell? ⟨w.heap.size,0,none⟩=some (.pointer (some ⟨mb,0,none⟩))/\w4.cell? ⟨wr.heap.size,0,none⟩=some (.string nm)/\w4.cell? ⟨mb,5,none⟩=some (.map (some S)):=⟨gG.cell 0,qU.cell 0,n4.BZ.2⟩))
   clear q1 Dt S3 S4 e1x e1r e15;have sZ:∀(fn:Fn)(first cap:Array Value)(w:World),(Instr.makeFunc fn first cap).run prog w=.ok (.func fn first cap) w:=fun _ _ _ _=>rfl
   have r41:w4.cell? ⟨wr.heap.size,1,none⟩=some (.slice sa al.length sc):=qU.cell 1;have lr4:=qU.lt;have lx4:=gG.lt;have HS4:Hid (w4.heap.size=w3.heap.size):=hs4;clear hs4;obtain⟨W5,mg⟩:∃W5,W5=w4.alloc (.cells #[.int .i64 0] 3):=⟨_,rfl⟩;have hb5:Below w4.heap.size w4 W5:=by rw[mg];exact(Below.refl _ _).alloc (zL0) _
   have hs5:W5.heap.size=w4.heap.size+1:=by rw[mg];simp
   have l8:aj W5 w4.heap.size #[.int .i64 0] 3:=by rw[mg];exact aj.new w4 _ 3
   obtain⟨n5,hk5⟩:=n4.new hb5 (by omega);have lS4:S<w4.heap.size:=n4.lt S (.inl (.inr (.inl rfl)));have ZU:Kp D w w4:=⟨hg4.os.trans (hk3.os.trans (hk1.os.trans hkr.os)),hg4.tape.trans (hk3.tape.trans (hk1.tape.trans hkr.tape)),hg4.output.trans (hk3.output.trans (hk1.output.trans hkr.output)),Nat.le_trans hkr.size (Nat.le_trans hk1.size (Nat.le_trans hk3.size hg4.size)),fun g hg=>(hg4.block g (n3.lt g (.inl (.inl hg))) (fun e=>nS ((Option.some.inj e)▸hg))).trans ((hk3.block g (.inl (.inl hg))).trans ((hk1.block g (.inl hg)).trans (hkr.block g hg)))⟩;have EH:Kp D w W5:=ZU.trans hk5 fun g hg=>.inl (.inl hg)
   have hA5:ay YP 9 F W5 (.slice sa al.length sc) al:=ay.move (fun b hb=>EH.block b (hF b hb)) (fun _ h=>h) hA;have MJ:aT 9 W5 (.slice sa al.length sc) al=aT 9 w (.slice sa al.length sc) al:=Gb hA fun b hb=>EH.block b (hF b hb)
   have R3:hlA W5 (.slice sa al.length sc) al=hlA w (.slice sa al.length sc) al:=by unfold hlA;rw[MJ]
   have q5:=adQ (cb:=w4.heap.size) (xb:=w.heap.size) (rb:=wr.heap.size) n5 l8 ((hb5.block _ lx4).trans gG) ((hb5.block _ lr4).trans qU) (.inr rfl) (.inl (.inl (.inr (.inr rfl)))) (.inl (.inr rfl)) (by omega) (by omega) (ht.move (EH.block _ dT)) (.inl (.inl (.inl dT))) (by have:=n4.lt rA (.inl (.inl dT));omega) (fun b hb=>⟨.inl (.inl (.inl (hF b hb.1))),by have:=n4.lt b (.inl (.inl (hF b hb.1)));omega,hb.2.move (EH.block b (hF b hb.1))⟩) (fun b hb=>⟨.inl (.inl (.inl (hF b hb))),by have:=n4.lt b (.inl (.inl (hF b hb)));omega⟩) hA5 (fun p hp=>RY p (by rw[<-MJ];exact hp)) (by rw[MJ];exact EG) bT (by rw[R3];rw[List.length_append,List.length_cons,Oe]at hlen;rw[List.length_append,List.length_singleton];omega) hnj;rw[R3]at q5;go_wp2_with fail;rw[<-mg];refine q5.mono ?_;rintro e w6⟨rfl,f6,n6,Du,ht6⟩;have kP:SMap w6 S _:=(qp.move (hb5.block _ lS4)).move (Du.block S ⟨.inl (.inl (.inr (.inl rfl))),by omega⟩);have kX6:aj w6 w.heap.size #[.pointer (some ⟨mb,0,none⟩)] 190:=(Du.block _ ⟨.inl (.inl (.inr (.inr rfl))),by omega⟩).trans ((hb5.block _ lx4).trans gG);have ajW:Kp D w w6:=EH.trans Du fun g hg=>⟨.inl (.inl (.inl hg)),by have:=n4.lt g (.inl (.inl hg));omega⟩
   have he6:vw w gR nT rs (j+1) f6:=HST.out f6 (by rw[show nT+N.length+1=nT+(N++[nm]).length by rw[List.length_append,List.length_singleton];omega];exact ht6);have n6':=n6.weak (D':=fun g=>D g\/g=S\/g=w.heap.size) fun g hg=>.inl (.inl hg)
   rw[List.append_assoc,List.singleton_append,<-HSC.out]at n6';have en:((nT+N.length:Nat):Int)=(nT:Int)+(N.length:Int):=by omega
   rw[en]at Qs;have HNF:Hid _:=n6';clear q5 n6 n6' n4 n5 n3 hA5 MJ R3 hk5 ZU EH sZ r41;go_wp2_with fail;go_roundg (rs.length - (j+1))
   case measure=>omega
   case rel=>exact⟨j+1,f6,_,by omega,by go_num,HNF.out,kP,kX6,ajW,Qs,he6⟩
  ·have:j=rs.length:=by omega
   subst this;go_wp2_with fail
   go_end0
   exact⟨rfl,⟨f,fS,nr.weak (fun g hg=>by rcases hg with hg | hg;exact .inl hg;exact .inr (.inl hg)),hSr,sy,he⟩,hkr⟩
theorem Tryz.ai4:(prog.info? 51).map (fun i=>(i.zero,i.size,i.bytes))=some (some (.agg #[.int .i64 0,.slice none 0 0,.int .i64 0]),3,40):=by kernel_rfl
theorem Tryz.adR:prog.underlying 42=some (.slice 51):=by kernel_rfl
theorem afo{w:World}{v:Value}{r:List Nat}(h:IR 0 w v r)(hl:r.length<=1000000):Calls prog 125 #[v] w fun e w'=>∃v',e=.returned v'/\IR w.heap.size w' v' r/\Below w.heap.size w w':=by
 have h':=h;unfold IR at h';rcases h'.2 with h0|⟨g,cap,cur,hv,hg,hh,hc1,hc2,hc3,hc4⟩
 ·obtain⟨a,c,rfl,-⟩:=aF h
  have hz:a=none/\r=[]:=by
   have e:=h0.1;have hn:=h0.2;simp only[Value.slice.injEq]at e;refine⟨e.1,List.eq_nil_of_length_eq_zero ?_⟩;omega
  obtain⟨rfl,rfl⟩:=hz;refine(Tryz.slices_Clone_int_nil _ _ w).mono ?_;rintro e w'⟨rfl,rfl⟩;exact⟨_,rfl,World.ownsRow_nil _ _ _ _,Below.refl _ _⟩
 ·subst hv
  refine(Tryz.slices_Clone_int g 0 r.length cap (r.map fun(s:Nat)=>(s:Int)) w (by simp) (by omega) (fun j hj=>?_)).mono ?_
  ·simp only[List.length_map]at hj
   rw[Nat.zero_add,h'.cellAt j (by omega)];unfold gK;simp[List.getD,hj]
  ·rintro e w'⟨v',rfl,ho,-,hb⟩
   refine⟨v',rfl,?_,hb⟩;unfold IR;have e:(List.take r.length (r.map fun(s:Nat)=>(s:Int))).map (Value.int .i64)=gK r:=by
    rw[List.take_of_length_le (by simp),List.map_map];rfl
   rw[e]at ho;exact ho
def PP(D:Nat->Prop)(w:World)(v:Value)(P:List Lx.Pd):Prop:=∃ps:List (Value×Lx.Pd),ps.map Prod.snd=P/\w.ownsRow 0 51 3 v P.length (ps.flatMap nV)/\(∀q,q∈ps->IR 0 w q.1 q.2.right/\∀g,q.1.ownBlock=some g->D g)/\ps.Pairwise fun a b=>∀g,a.1.ownBlock=some g->b.1.ownBlock≠some g
structure Mp(D G:Nat->Prop)(w:World)(mb S H:Nat)(ta:Option Addr)(nT tc:Nat)(vN vB vK:Value)(fS:ByteArray->Int)(fH:Addr->Int)(P:List Lx.Pd):Prop where
 ex:∃vP,aj w mb #[.slice ta nT tc,vN,vP,vB,vK,.map (some S),.map (some H)] 127/\PP (fun g=>D g/\mb<g) w vP P/\∀g,vP.ownBlock=some g->¬D g/\mb<g
 sm:SMap w S fS
 pm:sP G w H fH
 dS:D S
 dH:D H
 nm:¬D mb
 lt:∀g,D g->g<w.heap.size
 gc:∀b,G b->D b/\iW w b
section
variable {D G:Nat -> Prop} {w:World} {mb S H:Nat} {ta:Option Addr} {nT tc:Nat} {vN vB vK:Value} {fS:ByteArray -> Int} {fH:Addr -> Int} {P:List Lx.Pd}
theorem Mp.lm(h:Mp D G w mb S H ta nT tc vN vB vK fS fH P):mb<w.heap.size:=by
 obtain⟨vP,h1,-⟩:=h.ex;exact h1.lt
theorem Mp.below{w':World}(h:Mp D G w mb S H ta nT tc vN vB vK fS fH P)(hb:Below w.heap.size w w'):Mp D G w' mb S H ta nT tc vN vB vK fS fH P:=by
 obtain⟨⟨vP,h1,⟨ps,p1,p2,p3,p4⟩,h3⟩,e1,e2,e3,e4,e5,e6,e7⟩:=h;exact⟨⟨vP,(hb.block _ h1.lt).trans h1,⟨ps,p1,own_below p2 hb,fun q hq=>⟨own_below (p3 q hq).1 hb,(p3 q hq).2⟩,p4⟩,h3⟩,e1.move (hb.block _ (e6 _ e3)),e2.move (hb.block _ (e6 _ e4)),e3,e4,e5,fun g hg=>Nat.lt_of_lt_of_le (e6 g hg) hb.size,fun b hb'=>⟨(e7 b hb').1,(e7 b hb').2.move (hb.block b (e6 b (e7 b hb').1))⟩⟩
end
theorem Mp.push {D G:Nat->Prop} {w w3 w4:World} {o:Obj} {mb S H:Nat} {ta:Option Addr} {nT tc:Nat} {vN vP vB vK u:Value} {fS:ByteArray->Int} {fH:Addr->Int} {P:List Lx.Pd} {ps:List (Value×Lx.Pd)} {left:Nat} {r:List Nat} {pv:Int} {g4 cap4:Nat} (h:Mp D G w mb S H ta nT tc vN vB vK fS fH P) (h1:aj w mb #[.slice ta nT tc,vN,vP,vB,vK,.map (some S),.map (some H)] 127) (hp1:ps.map Prod.snd=P) (hp2:w.ownsRow 0 51 3 vP P.length (ps.flatMap nV)) (hp3:∀q,q∈ps->IR 0 w q.1 q.2.right/\∀g,q.1.ownBlock=some g->D g/\mb<g) (IB:ps.Pairwise fun a b=>∀g,a.1.ownBlock=some g->b.1.ownBlock≠some g) (h3:∀g,vP.ownBlock=some g->¬D g/\mb<g)
  (hb3:Below w.heap.size w w3) (hu3:IR w.heap.size w3 u r) (ho:w4.ownsRow 0 51 3 (.slice (some ⟨g4,0,none⟩) (P.length+1) cap4) (P.length+1) (ps.flatMap nV++[.int .i64 (left:Int),u,.int .i64 pv])) (hg:(w3.alloc o).grownBy w4 vP.ownBlock) (hat:vP.ownBlock=some g4\/w3.heap.size<=g4) (hpv:pv=jN nT r) :
  ∃D',(∀g,D g->D' g)/\Mp D' G (w4.setCell ⟨mb,2,none⟩ (.slice (some ⟨g4,0,none⟩) (P.length+1) cap4)) mb S H ta nT tc vN vB vK fS fH (P++[aQ nT left r])/\Kp D w (w4.setCell ⟨mb,2,none⟩ (.slice (some ⟨g4,0,none⟩) (P.length+1) cap4)):=by
 have jQ:=h1.lt;have hs3:=hb3.size;have hs4:w3.heap.size+1<=w4.heap.size:=by have:=hg.size;simpa using this
 have ajX:mb<g4:=by
  rcases hat with e|e
  ·exact(h3 g4 e).2
  ·omega
 have bk:∀g,g<w3.heap.size->g≠mb->vP.ownBlock≠some g->(w4.setCell ⟨mb,2,none⟩ (.slice (some ⟨g4,0,none⟩) (P.length+1) cap4)).heap[g]?=w3.heap[g]?:=fun g hl hm hv=>by
  rw[zS0 hm,hg.block g (by simp;omega) (fun e=>hv e.symm),Below.heap_alloc _ _ _ hl]
 have bD:∀g,D g->(w4.setCell ⟨mb,2,none⟩ (.slice (some ⟨g4,0,none⟩) (P.length+1) cap4)).heap[g]?=w.heap[g]?:=fun g hd=>by
  have:=h.lt g hd;rw[bk g (by omega) (fun e=>h.nm (e▸hd)) (fun e=>(h3 g e).1 hd),hb3.block g this]
 have hub:∀g,u.ownBlock=some g->w.heap.size<=g/\g<w3.heap.size:=fun g hg=>hu3.lt g hg
 have hvb:∀g,vP.ownBlock=some g->g<w.heap.size:=fun g hg=>(hp2.lt g hg).2
 have bU:∀g,u.ownBlock=some g->(w4.setCell ⟨mb,2,none⟩ (.slice (some ⟨g4,0,none⟩) (P.length+1) cap4)).heap[g]?=w3.heap[g]?:=fun g hu=>by
  have h5:=hub g hu;exact bk g h5.2 (by omega) (fun e=>by have:=hvb g e;omega)
 have hsz:w.heap.size<=(w4.setCell ⟨mb,2,none⟩ (.slice (some ⟨g4,0,none⟩) (P.length+1) cap4)).heap.size:=by simp[World.setCell];omega
 have k4:aj w4 mb #[.slice ta nT tc,vN,vP,vB,vK,.map (some S),.map (some H)] 127:=by
  unfold aj;rw[hg.block mb (by simp;omega) (fun e=>Nat.lt_irrefl _ (h3 mb e.symm).2),Below.heap_alloc _ _ _ (by omega),hb3.block mb jQ];exact h1
 refine⟨fun g=>D g\/u.ownBlock=some g,fun g hd=>.inl hd,⟨⟨_,k4.set 2 _,⟨ps++[(u,aQ nT left r)],?_,?_,?_,?_⟩,?_⟩,h.sm.move (bD S h.dS),h.pm.move (bD H h.dH),.inl h.dS,.inl h.dH,?_,?_,fun b hb=>⟨.inl (h.gc b hb).1,(h.gc b hb).2.move (bD b (h.gc b hb).1)⟩⟩,⟨hg.os.trans hb3.os,hg.tape.trans hb3.tape,hg.output.trans hb3.output,hsz,bD⟩⟩
 ·rw[List.map_append,hp1];rfl
 ·rw[List.flatMap_append,List.length_append]
  refine aC (by simpa [nV,aQ,hpv]using ho) fun g hgo=>zS0 (fun e=>?_)
  have e1:g4=g:=by simpa [Value.ownBlock]using hgo
  have e2:g=mb:=e;omega
 ·intro q hq
  rcases List.mem_append.1 hq with hq|hq
  ·exact⟨aC (hp3 q hq).1 fun g hgo=>bD g ((hp3 q hq).2 g hgo).1,fun g hgo=>⟨.inl ((hp3 q hq).2 g hgo).1,((hp3 q hq).2 g hgo).2⟩⟩
  ·rw[List.mem_singleton.1 hq]
   exact⟨dm (aC hu3 fun g hgo=>bU g hgo) (Nat.zero_le _),fun g hgo=>⟨.inr hgo,by have:=hub g hgo;omega⟩⟩
 ·rw[List.pairwise_append]
  refine⟨IB,List.pairwise_singleton _ _,fun a ha b hb g hga hgb=>?_⟩;rw[List.mem_singleton.1 hb]at hgb;have:=h.lt g ((hp3 a ha).2 g hga).1;have:=hub g hgb;omega
 ·intro g hgo
  have e1:g4=g:=by simpa [Value.ownBlock]using hgo
  subst e1;refine⟨?_,ajX⟩;rintro(hd | hd)
  ·rcases hat with e | e
   ·exact(h3 _ e).1 hd
   ·have:=h.lt _ hd;omega
  ·have:=hub _ hd
   rcases hat with e|e
   ·have:=hvb _ e;omega
   ·omega
 ·rintro(hd | hd)
  ·exact h.nm hd
  ·have:=hub _ hd;omega
 ·rintro g(hd | hd)
  ·have:=h.lt g hd;omega
  ·have:=hub g hd;simp[World.setCell];omega
theorem yu{D G:Nat->Prop}{w:World}{mb S H:Nat}{ta:Option Addr}{nT tc:Nat}{vN vB vK:Value}{fS:ByteArray->Int}{fH:Addr->Int}{P:List Lx.Pd}(h:Mp D G w mb S H ta nT tc vN vB vK fS fH P)(left:Nat)(vR:Value)(r:List Nat)(hr:IR 0 w vR r)(hrl:r.length<=1000000)(hP:P.length<=1000000000000):
  Calls prog 92 #[.pointer (some ⟨mb,0,none⟩),.int .i64 (left:Int),vR] w fun e w'=>e=.returned (.tuple #[])/\∃D',(∀g,D g->D' g)/\Mp D' G w' mb S H ta nT tc vN vB vK fS fH (P++[aQ nT left r])/\Kp D w w':=by
 obtain⟨i0,hii,hz0,hz1,hz2⟩:=info_parts Tryz.ai4;obtain⟨vP,h1,xJ,h3⟩:=h.ex;obtain⟨ps,hp1,hp2,hp3,IB⟩:=xJ;obtain⟨pa,pc,rfl,IC⟩:=aF hp2;obtain⟨ra,rc,rfl,hrm⟩:=aF hr;have jQ:=h1.lt;have m0:w.cell? ⟨mb,0,none⟩=some (.slice ta nT tc):=h1.cell 0;go_enter func92,ntmps92;go_wp2_with fail
 go_loopg [6,11] r.length (fun k p i wr=>∃(m:Nat)(pv:Int),m+k=r.length/\p=.int .i64 pv/\i=.int .i64 m/\wr=w/\Hid (pv=jN nT (r.take m)))
 case atStart=>exact⟨0,-1,by omega,rfl,rfl,rfl,rfl⟩
 case round=>
  obtain⟨m,pv,hkm,rfl,rfl,rfl,Dc⟩:=hrel
  by_cases hlt:m<r.length
  ·obtain⟨gR,cR,hv,lR,hcR⟩:=hr.at hlt
   cases hv;have htk:=UJ (n:=nT) hlt;rw[<-Dc.out]at htk;generalize r[m]=s at hcR htk
   by_cases hst:s<nT
   ·have nA:Hid ((s:Int)=jN nT (r.take (m+1))):=by rw[if_pos hst]at htk;exact htk.symm
    clear htk;go_wp2_with fail;go_roundg (r.length - (m+1))
    case measure=>omega
    case rel=>exact⟨m+1,_,by omega,rfl,by go_num,rfl,nA⟩
   ·have nA:Hid (pv=jN nT (r.take (m+1))):=by rw[if_neg hst]at htk;exact htk.symm
    clear htk;go_wp2_with fail;go_roundg (r.length - (m+1))
    case measure=>omega
    case rel=>exact⟨m+1,_,by omega,rfl,by go_num,rfl,nA⟩
  ·have:m=r.length:=by omega
   subst this;have nA:Hid (pv=jN nT r):=by have:=Dc.out;rw[List.take_length]at this;exact this
   clear Dc;have gW:IR 0 wr.drew (.slice ra r.length rc) r:=aC hr fun _ _=>rfl
   have qC:=afo gW hrl;have m2:wr.drew.cell? ⟨mb,2,none⟩=some (.slice pa P.length pc):=h1.drew.cell 2;have uQ:(Value.slice pa P.length pc).ownBlock≠some mb:=fun e=>Nat.lt_irrefl _ (h3 mb e).2
   unfold maxLen at IC;go_wp2_with fail
   go_region_law (first|(refine jK rfl 125 #[.slice ra r.length rc] (by go_simp) qC ?_;rintro e w3⟨u3,rfl,hu3,hb3⟩;have k3:aj w3 mb _ 127:=(hb3.block mb jQ).trans h1;obtain⟨ua,uc,rfl,-⟩:=aF hu3;have o3:=own_below (aC (w':=wr.drew) hp2 fun _ _=>rfl) hb3;have oA:=o3.alloc (.cells #[.int .i64 (left:Int),.slice ua r.length uc,.int .i64 pv] 51);have e3:w3.cell? ⟨mb,2,none⟩=some (.slice pa P.length pc):=k3.cell 2;have Rz:=k3.lt;refine⟨_,rfl,?_⟩)|(refine step_append_lies _ rfl (.tmp 30) (.tmp 36) 42 rfl 0 51 i0 _ 3 40 Tryz.adR hii hz0 hz1 hz2 rfl (by decide) (.slice pa P.length pc) P.length (ps.flatMap nV) (by simp[Act.eval]) oA ⟨w3.heap.size,0,none⟩ 1 1 [.int .i64 (left:Int),.slice ua r.length uc,.int .i64 pv] (by simp[Act.eval]) rfl (bC (aj.new w3 _ 51)) (by simp[Value.oneCell']) (by decide) (by unfold maxLen;omega) (by omega) (by simp) _ rfl ?_;intro g4 cap4 w4 u7 bV ni xg;have k4:=(k3.alloc (.cells #[.int .i64 (left:Int),.slice ua r.length uc,.int .i64 pv] 51)).grown bV (fun e=>uQ e.symm);have c40:w4.cell? ⟨mb,2,none⟩=some (.slice pa P.length pc):=k4.cell 2;have f4:∀i,w4.frozen? ⟨mb,i,none⟩=false:=k4.frozen))
   all_goals
    have hfin:=Mp.push h h1 hp1 hp2 hp3 IB h3 (((Below.refl wr.heap.size wr).drew).trans hb3) hu3 u7 bV (ni.imp id fun e=>by rw[e];simp) nA.out;clear k4 c40 f4 bV u7 ni xg o3 oA e3 hb3 k3 hu3 qC m2 gW;go_wp2_with fail
    go_end0
    exact⟨rfl,hfin⟩
theorem JL{sub:Value->List Lx.Alt->List AI}{w:World}{g:Nat}{p:AI}:∀(its:List Lx.It)(i:Nat),p∈eu sub w g i its↔∃m x,its[m]?=some x/\(p=((⟨g,(i+m)*4,none⟩:Addr),x)\/p∈sub (cv w ⟨g,(i+m)*4+3,none⟩) x.alts)
 | [],i=>by simp[eu]
 |x::xs,i=>by
  rw[eu,List.mem_cons,List.mem_append,JL xs (i+1)];constructor
  ·rintro(h | h | ⟨m,y,h1,h2⟩)
   ·exact⟨0,x,rfl,.inl h⟩
   ·exact⟨0,x,rfl,.inr h⟩
   ·exact⟨m+1,y,by simpa using h1,by rw[show i+(m+1)=i+1+m by omega];exact h2⟩
  ·rintro⟨m,y,h1,h2⟩
   cases m with
   |zero=>
    simp only[List.getElem?_cons_zero,Option.some.injEq]at h1;subst h1;rcases h2 with h2|h2
    ·exact .inl h2
    ·exact .inr (.inl h2)
   |succ m=>exact .inr (.inr ⟨m,y,by simpa using h1,by rw[show i+1+m=i+(m+1) by omega];exact h2⟩)
theorem JZ{sub:Value->List Lx.Alt->List AI}{w:World}{g:Nat}{p:AI}:∀(l:List Lx.Alt)(j:Nat),p∈dO sub w g j l↔∃k a,l[k]?=some a/\p∈eu sub w (aY (cv w ⟨g,(j+k)*2,none⟩)) 0 a.1
 | [],j=>by simp[dO]
 |a::l,j=>by
  rw[dO,List.mem_append,JZ l (j+1)];constructor
  ·rintro(h | ⟨k,b,h1,h2⟩)
   ·exact⟨0,a,rfl,h⟩
   ·exact⟨k+1,b,by simpa using h1,by rw[show j+(k+1)=j+1+k by omega];exact h2⟩
  ·rintro⟨k,b,h1,h2⟩
   cases k with
   |zero=>
    simp only[List.getElem?_cons_zero,Option.some.injEq]at h1;subst h1;exact .inl h2
   |succ k=>exact .inr ⟨k,b,by simpa using h1,by rw[show j+1+k=j+(k+1) by omega];exact h2⟩
theorem Yk{d:Nat}{F:Nat->Prop}{w:World}{v:Value}{l:List Lx.Alt}(h:ay YP (d+1) F w v l){k:Nat}(hk:k<l.length):∃vi,w.cell? ⟨aY v,k*2,none⟩=some vi/\bM YP d F w vi l[k].1/\∀m(hm:m<l[k].1.length),((⟨aY vi,m*4,none⟩:Addr),l[k].1[m])∈aT (d+1) w v l:=by
 obtain⟨-,vi,hc,hi⟩:=Ea h hk;refine⟨vi,hc,hi,fun m hm=>?_⟩;show _∈dO (aT d w) w (aY v) 0 l;rw[JZ];refine⟨k,l[k],List.getElem?_eq_getElem hk,?_⟩;have e1:cv w ⟨aY v,(0+k)*2,none⟩=vi:=by unfold cv;rw[Nat.zero_add,hc];rfl
 rw[e1,JL];exact⟨m,l[k].1[m],List.getElem?_eq_getElem hm,.inl (by rw[Nat.zero_add])⟩
theorem Yl:∀{d:Nat}{F:Nat->Prop}{w:World}{v:Value}{l:List Lx.Alt},ay YP d F w v l->∀{p:AI},p∈aT d w v l->∃n m d' va,p.1=⟨n,m*4,none⟩/\F n/\oQ w n m p.2/\w.cell? ⟨n,m*4+3,none⟩=some va/\ay YP d' F w va p.2.alts/\∀q∈aT d' w va p.2.alts,q∈aT d w v l
 |0,_,_,_,_,_,p,hp=>by cases hp
 |d+1,F,w,v,l,h,p,hp=>by
  have hp':p∈dO (aT d w) w (aY v) 0 l:=hp;rw[JZ]at hp';obtain⟨k,a,ha,hp2⟩:=hp';obtain⟨hk,rfl⟩:=List.getElem?_eq_some_iff.1 ha;obtain⟨-,vi,hc,hi⟩:=Ea h hk;have e1:cv w ⟨aY v,(0+k)*2,none⟩=vi:=by unfold cv;rw[Nat.zero_add,hc];rfl
  rw[e1,JL]at hp2;obtain⟨m,x,hx,hp3⟩:=hp2;obtain⟨hm,rfl⟩:=List.getElem?_eq_some_iff.1 hx;have hi':=hi;unfold bM ow at hi';obtain⟨n,sG,va,hv,hn,hA,hcc⟩:=Seq.at hi' (fun _=>rfl) hm;have eb:aY vi=n:=by rw[hv];rfl
  have hc3:w.cell? ⟨n,m*4+3,none⟩=some va:=hcc 3 (by decide);have e2:cv w ⟨aY vi,(0+m)*4+3,none⟩=va:=by unfold cv;rw[Nat.zero_add,eb,hc3];rfl
  have hin:∀q,q∈aT d w va l[k].1[m].alts->q∈aT (d+1) w v l:=by
   intro q hq;show _∈dO (aT d w) w (aY v) 0 l;rw[JZ];refine⟨k,l[k],ha,?_⟩;rw[e1,JL];exact⟨m,_,hx,.inr (by rw[e2];exact hq)⟩
  rw[e2]at hp3;rcases hp3 with rfl|hp3
  ·exact⟨n,m,d,va,by rw[eb,Nat.zero_add],hn,⟨hcc 0 (by decide),hcc 1 (by decide),hcc 2 (by decide)⟩,hc3,hA,hin⟩
  ·obtain⟨n',m',d',tF,h1,h2,h3,h4,h5,h6⟩:=Yl hA hp3
   exact⟨n',m',d',tF,h1,h2,h3,h4,h5,fun q hq=>hin q (h6 q hq)⟩
def yK(fS:ByteArray->Int)(fH:Addr->Int)(p:AI):Int:=if Lx.hlp p.2=true then fH p.1 else fS p.2.name
section
variable {D G:Nat -> Prop} {w:World} {mb S H:Nat} {ta:Option Addr} {nT tc:Nat} {vN vB vK:Value} {fS:ByteArray -> Int} {fH:Addr -> Int} {P:List Lx.Pd}
theorem Mp.cells(h:Mp D G w mb S H ta nT tc vN vB vK fS fH P):w.cell? ⟨mb,0,none⟩=some (.slice ta nT tc)/\w.cell? ⟨mb,5,none⟩=some (.map (some S))/\w.cell? ⟨mb,6,none⟩=some (.map (some H)):=by
 obtain⟨vP,h1,-⟩:=h.ex;exact⟨h1.cell 0,h1.cell 5,h1.cell 6⟩
end
theorem oQ.move{w w':World}{n m:Nat}{it:Lx.It}(h:oQ w n m it)(hb:w'.heap[n]?=w.heap[n]?):oQ w' n m it:=⟨(World.cell?_of_block (w:=w) hb).trans h.kind,(World.cell?_of_block (w:=w) hb).trans h.name,(World.cell?_of_block (w:=w) hb).trans h.mark⟩
theorem afp{D G:Nat->Prop}{w:World}{mb S H:Nat}{ta:Option Addr}{nT tc:Nat}{vN vB vK:Value}{fS:ByteArray->Int}{fH:Addr->Int}{P:List Lx.Pd}(h:Mp D G w mb S H ta nT tc vN vB vK fS fH P){n m:Nat}{it:Lx.It}(hi:oQ w n m it)(hG:G n)(s:Nat)(hs:yK fS fH (⟨n,m*4,none⟩,it)=(s:Int)):
  Calls prog 126 #[.pointer (some ⟨mb,0,none⟩),.pointer (some ⟨n,m*4,none⟩)] w fun e w'=>e=.returned (.int .i64 (s:Int))/\Below w.heap.size w w':=by
 have q1:=Ny hi;obtain⟨m0,m5,m6⟩:=h.cells;have hnm:=hi.name;unfold yK at hs;go_enter func126,ntmps126;go_wp2_with fail;refine q1.mono ?_;rintro e w1⟨rfl,hw1⟩;obtain rfl:=hw1.symm;cases hh:Lx.hlp it with
 |true=>
  rw[if_pos hh]at hs;have hl:=sP.look h.pm (fun b hb=>(h.gc b hb).2) (a:=⟨n,m*4,none⟩) hG;rw[hs]at hl;clear q1 hh hs;go_wp2_with fail;go_ret;exact⟨rfl,Below.refl _ _⟩
 |false=>
  rw[if_neg (by rw[hh];decide)]at hs;have hl:=SMap.look (w:=w.drew) (h.sm.move rfl) it.name;have hs':fS it.name=(s:Int):=hs;rw[hs']at hl;have d5:w.drew.cell? ⟨mb,5,none⟩=some (.map (some S)):=m5;have dn:w.drew.cell? ⟨n,m*4+1,none⟩=some (.string it.name):=hnm;have hbd:Below w.heap.size w w.drew:=(Below.refl _ _).drew;clear q1 hh hs hs' m0 m5 m6 hnm hi;go_wp2_with fail
  go_region
  all_goals
   go_wp2_with fail;go_ret;exact⟨rfl,hbd⟩
theorem VA{D F G:Nat->Prop}{w:World}{mb S H:Nat}{ta:Option Addr}{nT tc:Nat}{vN vB vK:Value}{fS:ByteArray->Int}{fH:Addr->Int}{P:List Lx.Pd}(h:Mp D G w mb S H ta nT tc vN vB vK fS fH P){d:Nat}(its:List Lx.It)(vi:Value)(hi:bM YP d F w vi its)(hF:∀b,F b->D b)(r:List Nat)(hrl:r.length=its.length)(hsy:∀k(hk:k<its.length),G (aY vi)/\yK fS fH (⟨aY vi,k*4,none⟩,its[k])=(r[k]:Int))(hil:its.length<=10000)(prec:ByteArray):
  Calls prog 93 #[.pointer (some ⟨mb,0,none⟩),.agg #[vi,.string prec]] w fun e w'=>∃u,e=.returned u/\IR w.heap.size w' u r/\Below w.heap.size w w':=by
 obtain⟨i0,hii,hz0,hz1,hz2⟩:=info_parts Tryz.info3;obtain⟨ia,ic,rfl,him⟩:∃a c,vi=.slice a its.length c/\its.length<=maxLen:=Seq.len (show Tr.Seq F w YP.eI YP.sI YP.cI (fun va it=>ay YP d F w va it.alts) vi its from hi);unfold maxLen at him;go_enter func93,ntmps93;go_wp2_with fail;obtain⟨W,hW⟩:∃W,W=w.alloc (.cells #[.slice ia its.length ic,.string prec] 195):=⟨_,rfl⟩;rw[<-hW];have hB:Below w.heap.size w W:=by rw[hW];exact(Below.refl _ _).alloc (zL0) _
 have hWs:W.heap.size=w.heap.size+1:=by rw[hW];simp
 have kA:aj W w.heap.size #[.slice ia its.length ic,.string prec] 195:=by rw[hW];exact aj.new w _ 195
 clear hW
 go_loopg [5,10] its.length (fun k vo i wr=>∃(j:Nat)(acc:List Nat),j+k=its.length/\i=.int .i64 j/\IR W.heap.size wr vo acc/\Below W.heap.size W wr/\Hid (acc=r.take j))
 case atStart=>exact⟨0,[],by omega,rfl,World.ownsRow_nil _ _ _ _,Below.refl _ _,rfl⟩
 case round=>
  revert wr;intro wz hrel;obtain⟨j,acc,hk,rfl,ho,hbz,tJ⟩:=hrel;have hac:acc.length<=10000:=by rw[tJ.out,List.length_take];omega
  obtain⟨oa,oc,rfl,uO⟩:=aF ho;have hsz:=hbz.size;have hbw:Below w.heap.size w wz:=hB.trans (hbz.mono (by omega));have qP:aj wz w.heap.size _ 195:=(hbz.block _ (by omega)).trans kA;have a0:wz.cell? ⟨w.heap.size,0,none⟩=some (.slice ia its.length ic):=qP.cell 0
  by_cases hlt:j<its.length
  ·have hz:=h.below hbw
   have hiz:bM YP d F wz _ its:=bM.move (fun b hb=>hbw.block b (h.lt b (hF b hb))) (fun _ h=>h) hi;unfold bM ow at hiz;obtain⟨n,sG,va,hv,hn,ha',hcc⟩:=Seq.at hiz (fun _=>rfl) hlt;cases hv;obtain⟨hGn,hs⟩:=hsy j hlt;have hia:oQ wz n j its[j]:=⟨hcc 0 (by decide),hcc 1 (by decide),hcc 2 (by decide)⟩;have q1:=afp hz hia hGn _ hs;have bY:Hid (r.take (j+1)=acc++[r[j]]):=by show _=_;rw[tJ.out,List.take_succ_eq_append_getElem (by omega)]
   generalize r[j]=s at q1 bY;clear hs hcc hiz hia;go_wp2_with fail;refine q1.mono ?_;rintro e w1⟨rfl,hb1⟩;have ho1:=own_below ho hb1;have hs1:=hb1.size;have Aj:Below W.heap.size W w1:=hbz.trans (hb1.mono hsz);have oA:=ho1.alloc (.cells #[.int .i64 (s:Int)] 3);clear q1
   go_wp2_with (at_builtin;go_loud (refine wpList_append_own_at _ rfl _ _ 43 rfl W.heap.size 3 i0 _ 1 8 underlying43 hii hz0 hz1 hz2 rfl (by decide) (.slice oa acc.length oc) _ _ rfl oA ⟨_,0,none⟩ 1 1 [.int .i64 (s:Int)] rfl rfl (bC (aj.new _ _ 3)) (by simp[Value.oneCell']) (by unfold maxLen;omega) (by omega) (by simp;omega) ?_;intro v5 w5 hown5 aU _ j6;obtain⟨dU,dV,hv5,-⟩:=aF hown5;subst hv5))
   have hb5:Below W.heap.size W w5:=(Aj.alloc (by omega) _).grown aU (by simp;omega) (fun k hk=>(ho.lt k hk).1);go_roundg (its.length - (j+1))
   case measure=>omega
   case rel=>exact⟨j+1,acc++[s],by omega,by go_num,by unfold IR;rw[List.length_append,zM];exact hown5,hb5,bY.out.symm⟩
  ·have:j=its.length:=by omega
   subst this;have HA2:Hid (acc=r):=by have:=tJ.out;rw[<-hrl,List.take_length]at this;exact this
   clear tJ;go_wp2_with fail;go_ret;exact⟨_,rfl,by rw[<-HA2.out];exact dm ho (by omega),hbw⟩
theorem ahE{n:Nat}(hn:1<=n)(hl:n<=1000000)(w:World):Calls prog 153 #[.slice none 0 0,.int .i64 (n:Int)] w fun e w'=>∃v,e=.returned v/\w'.ownsRow w.heap.size 3 1 v 0 []/\Below w.heap.size w w':=by
 obtain⟨i0,hi,hz0,hz1,hz2⟩:=info_parts Tryz.info3;have happ:=Lib.run_append_nil_zeros (P:=prog) w 43 3 43 3 i0 (.int .i64 0) .i64 .i64 underlying43 (by kernel_rfl) hi hz0 n (by omega) (by omega) (by omega) (by rw[hz2];omega);generalize hcap:grownCap w n 0 3=cap2 at happ;have hcapge:n<=cap2:=by rw[<-hcap];exact grownCap_ge w _ 0 3
 have hcaple:cap2<=maxLen:=by rw[<-hcap];exact grownCap_le_maxLen w _ 0 3 (by unfold maxLen;omega)
 generalize hZ:(Builtin.zeroCells (Value.int .i64 0).cells n++Builtin.zeroCells (Value.int .i64 0).cells (cap2-n))=Z at happ;have hZs:Z.size=cap2:=by rw[<-hZ];simp[size_zeroCells,Value.cells];omega
 clear hcap hZ;have g0:¬(n:Int)<0:=by omega
 have g1:0<(n:Int):=by omega
 go_enter func153,ntmps153
 go_wp2_with (at_builtin;refine Lib.wpList_append_run _ rfl _ _ _ _ rfl _ _ rfl rfl _ _ happ ?_)
 go_ret;have hk:aj (w.drew.alloc (.cells Z 3)) w.heap.size Z 3:=aj.new w.drew Z 3;have hbb:Below w.heap.size w (w.drew.alloc (.cells Z 3)):=((Below.refl _ _).drew).alloc (zL0) _;refine⟨_,rfl,⟨rfl,.inr ⟨w.heap.size,cap2,Z,rfl,zL0,hk,Nat.zero_le _,hcaple,by omega,by simp⟩⟩,hbb⟩
theorem aeO{P:Program}{t e:TypeId}{i:TypeInfo}(ht:P.underlying t=some (.slice e))(hi:P.info? e=some i)(ty:TypeId)(base:Option Addr)(n cap:Nat)(hle:n<=cap)(w:World):(Builtin.append_ #[t,t] ty #[.slice base n cap,.slice none 0 0]).run P w=.ok (.slice base n cap) w:=by
 cases base <;> simp[Builtin.append_,run_underlying ht,sizeOf,typeInfo,hi,Builtin.lenOf,Builtin.firstCells,storeCells,hle]
theorem aiz{w:World}{B e z:Nat}{a:Option Addr}{n c:Nat}{xs:List Value}(h:w.ownsRow B e z (.slice a n c) n xs):n<=c:=by
 rcases h.2 with ⟨e1,e2⟩|⟨g,cap,cur,hv,-,-,hc,-⟩
 ·omega
 ·simp only[Value.slice.injEq]at hv;omega
theorem OD(ps:List (List Nat)){j:Nat}(hj:j<ps.length):(ps.take (j+1)).flatten=(ps.take j).flatten++ps[j]:=by rw[List.take_succ_eq_append_getElem hj,List.flatten_append];simp
theorem O9(ps:List (List Nat))(j:Nat):(ps.take j).flatten.length<=ps.flatten.length:=by
 conv=>rhs;rw[<-List.take_append_drop j ps,List.flatten_append,List.length_append]
 omega
theorem VB{B:Nat}{w:World}{v:Value}{ps:List (List Nat)}(h:pE B w v ps)(h1:1<=ps.flatten.length)(hl:ps.flatten.length<=1000000):Calls prog 128 #[v] w fun e w'=>∃u,e=.returned u/\IR w.heap.size w' u ps.flatten/\Below w.heap.size w w':=by
 obtain⟨i0,hii,hz0,hz1,hz2⟩:=info_parts Tryz.info3;obtain⟨a,c,rfl,hm⟩:=h.len;unfold maxLen at hm;go_enter func128,ntmps128;go_wp2_with fail
 go_loopg [3,11] ps.length (fun k z i wr=>∃(j zn:Nat),j+k=ps.length/\z=.int .i64 (zn:Int)/\i=.int .i64 j/\wr=w/\Hid (zn=(ps.take j).flatten.length))
 case atStart=>exact⟨0,0,by omega,rfl,rfl,rfl,by show _=_;simp⟩
 case round=>
  revert wr;intro wA hrel;obtain⟨j,zn,hk,rfl,rfl,hww,HZ⟩:=hrel;subst hww
  by_cases hlt:j<ps.length
  ·obtain⟨g,cap,u,hv,hBg,hg,hc,hu⟩:=h.at hlt
   cases hv;obtain⟨ua,uc,rfl,-⟩:=aF hu;have hz:=OD ps hlt;have hle:=O9 ps (j+1);rw[hz,List.length_append,<-HZ.out]at hle;have HZ2:Hid (zn+ps[j].length=(ps.take (j+1)).flatten.length):=by show _=_;rw[hz,List.length_append,<-HZ.out]
   generalize ps[j].length=m at hc hle HZ2;have hw1:IntKind.i64.wrap ((zn:Int)+(m:Int))=((zn+m:Nat):Int):=by rw[<-Int.natCast_add];exact wrap64 (by omega)
   obtain⟨zm,hzm⟩:∃zm,zm=zn+m:=⟨_,rfl⟩;rw[<-hzm]at hw1 HZ2 hle;have hneg:¬(zm:Int)<0:=by omega
   clear hz hzm hu;go_wp2_with fail;go_roundg (ps.length - (j+1))
   case measure=>omega
   case rel=>exact⟨j+1,zm,by omega,rfl,by go_num,rfl,HZ2⟩
  ·have:j=ps.length:=by omega
   subst this;have HZ2:Hid (zn=ps.flatten.length):=by have:=HZ.out;rw[List.take_length]at this;exact this
   clear HZ;have q1:=ahE (n:=zn) (by rw[HZ2.out];exact h1) (by rw[HZ2.out];exact hl) wA;go_wp2_with fail;refine q1.mono ?_;rintro e w1⟨u1,rfl,ho1,hb1⟩;obtain⟨ua,uc,rfl,-⟩:=aF ho1;clear q1;go_wp2_with fail
   go_loopg [6,27] ps.length (fun k vo i wr=>∃(j:Nat)(acc:List Nat),j+k=ps.length/\i=.int .i64 j/\IR wA.heap.size wr vo acc/\Below wA.heap.size wA wr/\Hid (acc=(ps.take j).flatten))
   case atStart=>exact⟨0,[],by omega,rfl,ho1,hb1,by show _=_;simp⟩
   case round=>
    clear ho1 hb1 hk hlt HZ2;obtain⟨j,acc,hk,rfl,ho,hbz,HA⟩:=hrel;obtain⟨oa,oc,rfl,-⟩:=aF ho;have amn:acc.length<=1000000:=by rw[HA.out];exact Nat.le_trans (O9 ps j) hl
    by_cases hlt:j<ps.length
    ·have hz:=h.move (w':=wr) fun g _ hg=>hbz.block g hg
     obtain⟨g,cap,u,hv,hBg,hg,hc,hu⟩:=hz.at hlt;cases hv;have hle:=O9 ps (j+1);rw[OD ps hlt,List.length_append,<-HA.out]at hle;have HA2:Hid (acc++ps[j]=(ps.take (j+1)).flatten):=by show _=_;rw[OD ps hlt,<-HA.out]
     generalize ps[j]=x at hc hu hle HA2;obtain⟨ua,uc,rfl,-⟩:=aF hu;have hu2:=hu;unfold IR at hu2;rcases hu2.2 with ⟨e1,e2⟩|⟨g3,ng,amo,hv3,-,hh3,hx1,hx2,hx3,hx4⟩
     ·have hx0:x=[]:=List.eq_nil_of_length_eq_zero e2
      subst hx0;have happ:=aeO (P:=prog) underlying43 hii 43 oa acc.length oc (aiz ho) wr;rw[List.append_nil]at HA2;simp only[Value.slice.injEq]at e1;obtain⟨rfl,-,rfl⟩:=e1;clear e2 hu hu2
      go_wp2_with (at_builtin;refine Lib.wpList_append_run _ rfl _ _ _ _ rfl _ _ rfl rfl _ _ happ ?_)
      go_roundg (ps.length - (j+1))
      case measure=>omega
      case rel=>exact⟨j+1,acc,by omega,by go_num,ho,hbz,HA2.out⟩
     ·cases hv3
      have hnews:∀i y,(gK x)[i]?=some y->wr.cell? ((⟨g3,0,none⟩:Addr).add i)=some y:=hu2.cells (g:=g3) rfl
      go_wp2_with (at_builtin;go_loud (refine wpList_append_own_at _ rfl _ _ 43 rfl wA.heap.size 3 i0 _ 1 8 underlying43 hii hz0 hz1 hz2 rfl (by decide) (.slice oa acc.length oc) _ _ rfl ho ⟨g3,0,none⟩ x.length _ (gK x) rfl (by rw[yj,Nat.mul_one]) hnews (Oy x) (by unfold maxLen;omega) (by omega) hbz.size ?_;intro v5 w5 hown5 aU _ j6;obtain⟨dU,dV,hv5,-⟩:=aF hown5;subst hv5))
      have hb5:Below wA.heap.size wA w5:=hbz.grown aU hbz.size (fun k hk=>(ho.lt k hk).1);go_roundg (ps.length - (j+1))
      case measure=>omega
      case rel=>exact⟨j+1,acc++x,by omega,by go_num,by unfold IR;rw[List.length_append,zM];exact hown5,hb5,HA2.out⟩
    ·have:j=ps.length:=by omega
     subst this;have HA2:Hid (acc=ps.flatten):=by have:=HA.out;rw[List.take_length]at this;exact this
     clear HA;go_wp2_with fail;go_ret;exact⟨_,rfl,by rw[<-HA2.out];exact ho,hbz⟩
theorem pE.push{B:Nat}{w w2 w5:World}{v v5 u:Value}{ps:List (List Nat)}{qs:List (Value×List Nat)}{rr:List Nat}{o:Obj}(h:ZN B w v ps qs)(hB:B<=w.heap.size)(hb2:Below w.heap.size w w2)(hu:IR w.heap.size w2 u rr)(ho:w5.ownsRow B 43 1 v5 (ps.length+1) (qs.map Prod.fst++[u]))(hg5:(w2.alloc o).grownBy w5 v.ownBlock)(j6:v5.ownBlock=v.ownBlock\/v5.ownBlock=some (w2.alloc o).heap.size):pE B w5 v5 (ps++[rr]):=by
 obtain⟨hq1,hq2,hq3,hq4⟩:=h;have hs2:=hb2.size;have hat:∀g,v5.ownBlock=some g->v.ownBlock=some g\/w2.heap.size<=g:=by
  intro g hg;rcases j6 with h'|h'
  ·exact .inl (h'▸hg)
  ·rw[h']at hg;simp at hg;exact .inr (by omega)
 have bl:∀g,g<w2.heap.size->v.ownBlock≠some g->w5.heap[g]?=w2.heap[g]?:=fun g hg hn=>(hg5.block g (by simp;omega) (fun e=>hn e.symm)).trans (Below.heap_alloc _ _ _ hg)
 refine⟨qs++[(u,rr)],by rw[List.map_append,hq1];rfl,?_,?_,?_⟩
 ·rw[List.length_append,List.map_append];exact ho
 ·intro q hq
  rcases List.mem_append.1 hq with hq|hq
  ·refine aC (hq3 q hq) fun g hg=>?_
   have RP:=(hq3 q hq).lt g hg;exact(bl g (by omega) (hq4 q hq g hg)).trans (hb2.block g RP.2)
  ·rw[List.mem_singleton.1 hq]
   refine aC (dm hu hB) fun g hg=>bl g (hu.lt g hg).2 fun e=>?_
   have:=(hu.lt g hg).1;have:=(hq2.lt g e).2;omega
 ·intro q hq g hg e
  rcases hat g e with h'|h'
  ·rcases List.mem_append.1 hq with hq | hq
   ·exact hq4 q hq g hg h'
   ·rw[List.mem_singleton.1 hq]at hg
    have:=(hu.lt g hg).1;have:=(hq2.lt g h').2;omega
  ·rcases List.mem_append.1 hq with hq | hq
   ·have:=((hq3 q hq).lt g hg).2;omega
   ·rw[List.mem_singleton.1 hq]at hg
    have:=(hu.lt g hg).2;omega
def Pb(w:World)(G:Nat->Prop)(fS:ByteArray->Int)(fH:Addr->Int)(g:Nat)(l:List Lx.Alt)(ps:List (List Nat)):Prop:=ps.length=l.length/\∀k(hk:k<l.length)(hk':k<ps.length),l[k].1.length<=10000/\ps[k].length=l[k].1.length/\∀vi,w.cell? ⟨g,k*2,none⟩=some vi->∀q(hq:q<l[k].1.length)(hq':q<ps[k].length),G (aY vi)/\yK fS fH (⟨aY vi,q*4,none⟩,l[k].1[q])=(ps[k][q]:Int)
theorem afq{D F G:Nat->Prop}{w:World}{mb S H:Nat}{ta:Option Addr}{nT tc:Nat}{vN vB vK:Value}{fS:ByteArray->Int}{fH:Addr->Int}{P:List Lx.Pd}(h:Mp D G w mb S H ta nT tc vN vB vK fS fH P){n m d:Nat}{it:Lx.It}{va:Value}(hi:oQ w n m it)(hva:w.cell? ⟨n,m*4+3,none⟩=some va)(hA:ay YP d F w va it.alts)(hF:∀b,F b->D b)(ps:List (List Nat))(hp1:it.kind≠2->∃s:Nat,ps=[[s]]/\fS it.name=(s:Int))(hp2:it.kind=2->Pb w G fS fH (aY va) it.alts ps)(hl:it.alts.length<=10000):
  Calls prog 127 #[.pointer (some ⟨mb,0,none⟩),.pointer (some ⟨n,m*4,none⟩)] w fun e w'=>∃u,e=.returned u/\pE w.heap.size w' u ps/\Below w.heap.size w w':=by
 obtain⟨i0,hii,hz0,hz1,hz2⟩:=info_parts Tryz.YV;obtain⟨sa,sc,rfl,-⟩:=ay.len hA;have hk0:=hi.kind;have hn0:=hi.name;go_enter func127,ntmps127
 by_cases hk:it.kind=2
 ·have hkn:((it.kind:Int) != 2)=false:=by simp[hk]
  obtain⟨hpl,hps⟩:=hp2 hk;have HK:Hid (it.kind=2):=hk;clear hk hp1 hp2;go_wp2_with fail
  go_loopg [5,29] it.alts.length (fun k vo i wr=>∃(j:Nat)(acc:List (List Nat)),j+k=it.alts.length/\i=.int .i64 j/\pE w.heap.size wr vo acc/\Below w.heap.size w wr/\Hid (acc=ps.take j))
  case atStart=>exact⟨0,[],by omega,rfl,⟨[],rfl,World.ownsRow_nil _ _ _ _,fun q hq=>(by cases hq),fun q hq=>(by cases hq)⟩,Below.refl _ _,rfl⟩
  case round=>
   revert wr;intro wz hrel;obtain⟨j,acc,hk,rfl,ho,hbz,tJ⟩:=hrel;have hsz:=hbz.size;obtain⟨qs,R4⟩:=ho;have hq2:=R4.2.1;obtain⟨oa,oc,rfl,uO⟩:=aF hq2;have hac:acc.length<=10000:=by rw[tJ.out,List.length_take];omega
   by_cases hlt:j<it.alts.length
   ·obtain⟨d',rfl⟩:∃d',d=d'+1:=by
     cases d with
     |zero=>have:=hA.2;rw[this]at hlt;simp at hlt
     |succ d'=>exact⟨d',rfl⟩
    have Fa:ay YP (d'+1) F wz _ it.alts:=ay.move (fun b hb=>hbz.block b (h.lt b (hF b hb))) (fun _ h=>h) hA;obtain⟨gb,cap,vi,hv,hg,LF,hc⟩:=Seq.at Fa (fun _=>rfl) hlt;cases hv;have He:j<ps.length:=by omega
    obtain⟨hj1,hj2,hj3⟩:=hps j hlt He;have ZV:w.cell? ⟨gb,j*2,none⟩=some vi:=by
     have:wz.cell? ⟨gb,j*2,none⟩=some vi:=hc 0 (by decide)
     rwa [World.cell?_of_block (w:=w) (hbz.block gb (h.lt gb (hF gb hg)))]at this
    have LG:=hj3 vi ZV;have bY:Hid (ps.take (j+1)=acc++[ps[j]]):=by show _=_;rw[tJ.out,List.take_succ_eq_append_getElem He]
    generalize it.alts[j]=x at LF hc hj1 hj2 LG;generalize ps[j]=rr at hj2 LG bY;obtain⟨its,prec,pa⟩:=x;have hi':bM YP d' F wz vi its:=LF;obtain⟨ia,ic,rfl,him⟩:=Seq.len LF;have c0:wz.cell? ⟨gb,j*2,none⟩=some (.slice ia its.length ic):=hc 0 (by decide);have c1:wz.cell? ⟨gb,j*2+1,none⟩=some (.string prec):=hc 1 (by decide);obtain⟨W1,hW1⟩:∃W1,W1=wz.alloc (.cells #[.slice ia its.length ic,.string prec] 195):=⟨_,rfl⟩;have hb1:Below wz.heap.size wz W1:=by rw[hW1];exact(Below.refl _ _).alloc (zL0) _
    have hs1:W1.heap.size=wz.heap.size+1:=by rw[hW1];simp
    have fM:Below w.heap.size w W1:=hbz.trans (hb1.mono hsz);have q1:=VA (h.below fM) its _ (bM.move (fun b hb=>hb1.block b (Nat.lt_of_lt_of_le (h.lt b (hF b hb)) hsz)) (fun _ h=>h) hi') hF rr hj2 (fun k hk=>LG k hk (by rw[hj2];exact hk)) hj1 prec;have kl:aj W1 wz.heap.size #[.slice ia its.length ic,.string prec] 195:=by rw[hW1];exact aj.new wz _ 195
    have l0:W1.cell? ⟨wz.heap.size,0,none⟩=some (.slice ia its.length ic):=kl.cell 0;have l1:W1.cell? ⟨wz.heap.size,1,none⟩=some (.string prec):=kl.cell 1;have HJ2:Hid (rr.length=(its,prec,pa).1.length):=hj2;clear hc LF hj3 LG hps ZV hj2;go_wp2_with fail;rw[<-hW1];clear hW1 c0 c1 l0 l1;refine q1.mono ?_;rintro e w2⟨u,rfl,hu,hb2⟩;obtain⟨ua,uc,rfl,-⟩:=aF hu;have hs2:=hb2.size;have Qt:Below wz.heap.size wz w2:=hb1.trans (hb2.mono (by omega));have Ql:=own_below hq2 Qt;clear q1
    go_wp2_with (at_builtin;go_loud (refine wpList_append_own_at _ rfl _ _ 203 rfl w.heap.size 43 i0 _ 1 24 Tryz.TM hii hz0 hz1 hz2 rfl (by decide) (.slice oa acc.length oc) _ _ rfl (Ql.alloc _) ⟨_,0,none⟩ 1 1 [.slice ua rr.length uc] rfl rfl (bC (aj.new _ _ 43)) (by simp[Value.oneCell']) (by unfold maxLen;omega) (by omega) (by simp;omega) ?_;intro v5 w5 hown5 aU _ j6;obtain⟨dU,dV,hv5,-⟩:=aF hown5;subst hv5))
    have hb5:Below w.heap.size w w5:=((hbz.trans (Qt.mono hsz)).alloc (by omega) _).grown aU (by simp;omega) (fun k hk=>(hq2.lt k hk).1);have hpt:=pE.push R4 hsz Qt (dm hu (by omega)) hown5 aU j6;go_roundg (it.alts.length - (j+1))
    case measure=>omega
    case rel=>exact⟨j+1,_,by omega,by go_num,hpt,hb5,bY.out.symm⟩
   ·have:j=it.alts.length:=by omega
    subst this;have HA2:Hid (acc=ps):=by have:=tJ.out;rw[<-hpl,List.take_length]at this;exact this
    clear tJ;go_wp2_with fail;go_ret;refine⟨_,rfl,?_,hbz⟩;rw[<-HA2.out];exact⟨qs,R4⟩
 ·have hkn:((it.kind:Int) != 2)=true:=bne_iff_ne.2 (by omega)
  have hkd:¬(it.kind:Int)=2:=by omega
  obtain⟨s,hps,hs⟩:=hp1 hk;have E9:Hid (ps=[[s]]):=hps;clear hk hp1 hp2 hps;have hl1:=SMap.look (w:=w.drew) (h.sm.move rfl) it.name;rw[hs]at hl1;have d5:w.drew.cell? ⟨mb,5,none⟩=some (.map (some S)):=h.cells.2.1;have dn:w.drew.cell? ⟨n,m*4+1,none⟩=some (.string it.name):=hn0;clear hs;have m5:=h.cells.2.1;have n1:=World.new_ne w ⟨mb,5,none⟩ m5;have n2:=World.new_ne w ⟨n,m*4+1,none⟩ hn0;go_wp2_with fail
  go_region_held3 (fun w'=>w'.cell? ⟨mb,5,none⟩=some (.map (some S))/\w'.cell? ⟨n,m*4+1,none⟩=some (.string it.name)) (go_keep) (fail)
  go_wp2_with fail;go_ret;refine⟨_,rfl,?_,(((Below.refl _ _).alloc (zL0) _).alloc (by simp) _).drew⟩;rw[E9.out];have ka:=((aj.new w #[.int .i64 (s:Int)] 3).alloc (.cells #[.slice (some ⟨w.heap.size,0,none⟩) 1 1] 43)).drew;have kb:aj ((w.alloc (.cells #[.int .i64 (s:Int)] 3)).alloc (.cells #[.slice (some ⟨w.heap.size,0,none⟩) 1 1] 43)).drew (w.heap.size+1) #[.slice (some ⟨w.heap.size,0,none⟩) 1 1] 43:=by simpa using (aj.new (w.alloc (.cells #[.int .i64 (s:Int)] 3)) #[.slice (some ⟨w.heap.size,0,none⟩) 1 1] 43).drew
  refine⟨[(.slice (some ⟨w.heap.size,0,none⟩) 1 1,[s])],rfl,?_,?_,?_⟩
  ·exact⟨rfl,.inr ⟨w.heap.size+1,1,_,rfl,by omega,kb,zL0,by decide,rfl,rfl⟩⟩
  ·intro q hq
   rw[List.mem_singleton.1 hq];exact⟨rfl,.inr ⟨w.heap.size,1,_,rfl,by omega,ka,zL0,by decide,rfl,rfl⟩⟩
  ·intro q hq g hg
   rw[List.mem_singleton.1 hq]at hg;simp[Value.ownBlock]at hg|-;omega
end Go.Proofs.YtjaalkocdbkdeaaGreatDoor
