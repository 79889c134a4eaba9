import Derived.Lib.ItoaMem
import Derived.Lib.ItoaLen
import Derived.Lib.Slices
import Derived.Lib.Hide
import Derived.Laws.IdiomStrings
import Derived.Test.YtjaalkocdbkdeaaGreatDoorSA31
set_option maxHeartbeats 8000000
set_option maxRecDepth 1000000
namespace Go.Proofs.YtjaalkocdbkdeaaGreatDoor
open Lx Go.Proofs.Tryz
open Go.RowKit Tr
namespace Lx
theorem KO{u:Nat}(h:u<10):(UInt8.ofNat (48+u)).toNat=48+u:=by
 rw[UInt8.toNat_ofNat'];omega
theorem aiO:∀(u:Nat),∀b∈Lib.decDigits u,48<=b.toNat/\b.toNat<=57:=by
 intro u
 induction u using Nat.strongRecOn with
 |_ u ih=>
  intro b hb;rw[Lib.decDigits]at hb
  split at hb
  ·rename_i h
   rw[List.mem_singleton]at hb;subst hb;rw[KO h];omega
  ·rename_i h
   rcases List.mem_append.1 hb with hb|hb
   ·exact ih (u / 10) (by omega) b hb
   ·rw[List.mem_singleton]at hb
    subst hb;rw[KO (by omega)];omega
def PN(l:List UInt8):Nat:=l.foldl (fun a b=>a*10+(b.toNat-48)) 0
theorem XH:∀u:Nat,PN (Lib.decDigits u)=u:=by
 intro u
 induction u using Nat.strongRecOn with
 |_ u ih=>
  rw[Lib.decDigits]
  split
  ·rename_i h
   simp only[PN,List.foldl_cons,List.foldl_nil];rw[KO h];omega
  ·rename_i h
   have h1:=ih (u / 10) (by omega);unfold PN at h1|-;rw[List.foldl_append,h1];simp only[List.foldl_cons,List.foldl_nil];rw[KO (by omega)];omega
theorem Y6{a b:Nat}(h:Lib.decDigits a=Lib.decDigits b):a=b:=by rw[<-XH a,<-XH b,h]
theorem PD{c:UInt8}:∀{A A' R R':List UInt8},c∉A->c∉A'->A++c::R=A'++c::R'->A=A'/\R=R'
 | [],[],_,_,_,_,h=>⟨rfl,by simpa using h⟩
 | [],a::A',_,_,_,h2,h=>by simp at h;exact absurd (h.1▸List.mem_cons_self) h2
 |a::A,[],_,_,h1,_,h=>by simp at h;exact absurd (h.1▸List.mem_cons_self) h1
 |a::A,b::A',R,R',h1,h2,h=>by
  simp only[List.cons_append,List.cons.injEq]at h;obtain⟨e1,e2⟩:=PD (fun hm=>h1 (List.mem_cons_of_mem _ hm)) (fun hm=>h2 (List.mem_cons_of_mem _ hm)) h.2;exact⟨by rw[h.1,e1],e2⟩
def mV(K:List av):List UInt8:=K.flatMap fun s=>Lib.decDigits s.1++46::(Lib.decDigits s.2++[32])
theorem Ee(s:av)(K:List av):mV (s::K)=Lib.decDigits s.1++46::(Lib.decDigits s.2++32::mV K):=by
 show (Lib.decDigits s.1++46::(Lib.decDigits s.2++[32]))++mV K=_;simp
theorem K8{u:Nat}{c:UInt8}(h:c.toNat<48):c∉Lib.decDigits u:=fun hm=>by have:=aiO u c hm;omega
theorem Yw:∀{K K':List av},mV K=mV K'->K=K'
 | [],[],_=>rfl
 | [],s::K',h=>by
  rw[Ee]at h;exact absurd (congrArg List.length h) (by simp[mV])
 |s::K,[],h=>by
  rw[Ee]at h;exact absurd (congrArg List.length h) (by simp[mV])
 |s::K,s'::K',h=>by
  rw[Ee,Ee]at h;obtain⟨h1,h2⟩:=PD (K8 (by decide)) (K8 (by decide)) h;obtain⟨h3,h4⟩:=PD (K8 (by decide)) (K8 (by decide)) h2;rw[Yw h4,Prod.ext (Y6 h1) (Y6 h3)]
def pI(K:List av):ByteArray:=⟨(mV K).toArray⟩
theorem Yx{K K':List av}(h:pI K=pI K'):K=K':=by
 have h1:=congrArg ByteArray.data h;exact Yw (by simpa [pI]using h1)
end Lx
def lJ(w:World)(B:Nat)(ts:List ByteArray):Prop:=∃es clock,w.heap[B]?=some (.map es clock)/\es.size=ts.length/\∀(i:Nat)(e:MapEntry),es[i]?=some e->∃t,ts[i]?=some t/\e.key=.string t/\e.val=.int .i64 (i:Int)
theorem lJ.lt{w:World}{B:Nat}{ts:List ByteArray}(h:lJ w B ts):B<w.heap.size:=by
 obtain⟨es,clock,h1,-⟩:=h;exact(Array.getElem?_eq_some_iff.1 h1).1
theorem lJ.move{w w':World}{B:Nat}{ts:List ByteArray}(h:lJ w B ts)(hb:w'.heap[B]?=w.heap[B]?):lJ w' B ts:=by
 obtain⟨es,clock,h1,h2⟩:=h;exact⟨es,clock,hb.trans h1,h2⟩
theorem lJ.made(w:World):lJ (w.alloc (.map #[] 0)) w.heap.size []:=⟨#[],0,heap_alloc_new w _,rfl,fun i e h=>by simp at h⟩
theorem lJ.keys{w:World}{B:Nat}{ts:List ByteArray}(h:lJ w B ts):∃es clock,w.heap[B]?=some (.map es clock)/\es.size=ts.length/\(∀(i:Nat)(e:MapEntry),es[i]?=some e->∃t,ts[i]?=some t/\e.key=.string t/\e.val=.int .i64 (i:Int))/\∀x∈es.toList,∃c,x.key=Value.string c/\True:=by
 obtain⟨es,clock,h1,h2,h3⟩:=h;refine⟨es,clock,h1,h2,h3,fun x hx=>?_⟩;obtain⟨i,hi⟩:=List.mem_iff_getElem?.1 hx;obtain⟨t,-,ht,-⟩:=h3 i x (by rw[<-Array.getElem?_toList];exact hi);exact⟨t,ht,trivial⟩
theorem lJ.miss{w:World}{B:Nat}{ts:List ByteArray}(h:lJ w B ts){b:ByteArray}(hb:b∉ts):(Instr.lookup 62 (.map (some B)) (.string b) true).run prog w=.ok (.tuple #[.int .i64 0,.bool false]) w:=by
 obtain⟨es,clock,h1,h2,h3,h4⟩:=h.keys;rcases Tryz.Ap.find w b es.toList trivial h4 with ⟨hf,-⟩|⟨j,e,-,hj,hk⟩
 ·simp[Instr.lookup,run_underlying Tryz.Gz,MapKept.run_getObj_map h1,Tryz.Ap.check,hf,Result.andThen]
 ·obtain⟨t,ht,hkt,-⟩:=h3 j e (by rw[<-Array.getElem?_toList];exact hj)
  rw[hk]at hkt;cases hkt;exact absurd (List.mem_of_getElem? ht) hb
theorem lJ.hit{w:World}{B:Nat}{ts:List ByteArray}(h:lJ w B ts)(hn:ts.Nodup){i:Nat}{b:ByteArray}(hi:ts[i]?=some b):(Instr.lookup 62 (.map (some B)) (.string b) true).run prog w=.ok (.tuple #[.int .i64 (i:Int),.bool true]) w:=by
 obtain⟨es,clock,h1,h2,h3,h4⟩:=h.keys;rcases Tryz.Ap.find w b es.toList trivial h4 with ⟨hf,hno⟩|⟨j,e,hf,hj,hk⟩
 ·obtain⟨hlt,-⟩:=List.getElem?_eq_some_iff.1 hi
  have hes:es[i]?=some es[i]:=Array.getElem?_eq_getElem (by omega);obtain⟨t,ht,hkt,-⟩:=h3 i _ hes;rw[hi]at ht;cases ht;exact absurd hkt (hno _ (by simp))
 ·have hj':es[j]?=some e:=by rw[<-Array.getElem?_toList];exact hj
  obtain⟨t,ht,hkt,hv⟩:=h3 j e hj';rw[hk]at hkt;cases hkt;have hij:j=i:=by
   obtain⟨l1,e1⟩:=List.getElem?_eq_some_iff.1 ht;obtain⟨l2,e2⟩:=List.getElem?_eq_some_iff.1 hi;exact(List.getElem_inj hn).1 (e1.trans e2.symm)
  subst hij;rw[hv]at hf;simp[Instr.lookup,run_underlying Tryz.Gz,MapKept.run_getObj_map h1,Tryz.Ap.check,hf,Result.andThen]
theorem lJ.put{w:World}{B:Nat}{ts:List ByteArray}(h:lJ w B ts){b:ByteArray}(hb:b∉ts):∃w',(Instr.mapUpdate 62 (.map (some B)) (.string b) (.int .i64 (ts.length:Int))).run prog w=.ok () w'/\lJ w' B (ts++[b])/\w.grownBy w' (some B)/\w'.heap.size=w.heap.size:=by
 obtain⟨es,clock,h1,h2,h3,h4⟩:=h.keys;have hset:∀o:Obj,w.grownBy { w with heap:=w.heap.setIfInBounds B o } (some B):=fun o=>⟨rfl,rfl,rfl,by simp,fun k _ hk=>(MapKept.heap_set h1).2 k (fun e=>hk (by rw[e]))⟩
 rcases Tryz.Ap.find w b es.toList trivial h4 with ⟨hf,-⟩|⟨j,e,-,hj,hk⟩
 ·refine⟨{ w with heap:=w.heap.setIfInBounds B (.map (es.push { key:=.string b,val:=.int .i64 (ts.length:Int),born:=clock }) (clock+1)) },?_,⟨_,clock+1,(MapKept.heap_set h1).1,by simp[h2],?_⟩,hset _,by simp⟩
  ·simp[Instr.mapUpdate,run_underlying Tryz.Gz,MapKept.run_getObj_map h1,Tryz.Ap.check,hf,MapKept.run_setObj_map _ h1,Result.andThen]
  ·intro i e hi
   rw[Array.getElem?_push]at hi
   split at hi
   ·rename_i hie
    cases hi;refine⟨b,?_,rfl,by rw[hie,h2]⟩;rw[hie,h2];simp
   ·obtain⟨t,ht,hkt,hv⟩:=h3 i e hi
    refine⟨t,?_,hkt,hv⟩;rw[List.getElem?_append_left (List.getElem?_eq_some_iff.1 ht).1];exact ht
 ·obtain⟨t,ht,hkt,-⟩:=h3 j e (by rw[<-Array.getElem?_toList];exact hj)
  rw[hk]at hkt;cases hkt;exact absurd (List.mem_of_getElem? ht) hb
theorem Tryz.info5:(prog.info? 5).map (fun i=>(i.zero,i.size,i.bytes))=some (some (.int .u8 0),1,1):=by kernel_rfl
theorem Tryz.TD:prog.underlying 160=some (.slice 5):=by kernel_rfl
def BR(B:Nat)(w:World)(v:Value)(l:List UInt8):Prop:=w.ownsRow B 5 1 v l.length (Lib.byteCells l)
theorem VN(a b:List UInt8):Lib.byteCells (a++b)=Lib.byteCells a++Lib.byteCells b:=by simp[Lib.byteCells]
def KpB(w w':World):Prop:=∀(g:Nat)(cs:Array Value)(e:Nat),e≠5->aj w g cs e->aj w' g cs e
theorem VO {B : Nat}{w : World}{v : Value}{l : List UInt8}{n : Nat}(h : BR B w v l)(hB : B ≤ w.heap.size)(hn : n ≤ 1000000)(hl : l.length ≤ 100000000000)(hT : Lib.TabBelow prog B w "internal/strconv.uint64pow10" .u64 Lib.pow10Tab) : Calls prog 63 #[v, .int .i64 (n : Int), .int .i64 10] w fun e w' => ∃ v', e = .returned v' ∧ BR B w' v' (l ++ Lib.decDigits n) ∧ Below B w w' ∧ KpB w w' := by
 refine(Any.strconv_AppendInt_10 Tryz.ahV B l.length (n:Int) (by omega) (by omega) v (Lib.byteCells l) w h hB (by omega) hT).mono ?_;rintro e w'⟨v',rfl,ho,hb,hk⟩;refine⟨v',rfl,?_,hb,fun g cs e he hg=>hk g _ hg (by simp) (fun c fz h=>by cases h;exact he rfl)⟩;unfold BR;rw[VN,List.length_append,<-Lib.itoa_nonneg];exact ho
theorem Tryz.Yy{w:World}{ops:Array Oper}{rest:List Oper}{o:Oper}{a:Act}{Q:Exit->Act->World->Prop}(hgd:o.guard=none)(s x:Operand)(ho:o.op=.call { callee:=.builtin .append,args:=#[s,x],argTypes:=#[160,160] })(B:Nat)(hB:B<=w.heap.size)(v:Value)(l:List UInt8)(hs:a.eval s=v)(hl:BR B w v l)(y:UInt8)(g c:Nat)(hx:a.eval x=.slice (some ⟨g,0,none⟩) 1 c)(hn:w.cell? ⟨g,0,none⟩=some (.int .u8 (y.toNat:Int)))(hm:l.length<=100000000000)(h:∀v' w',BR B w' v' (l++[y])->Below B w w'->KpB w w'->wpList prog ops Q rest (a.put o.dst v') w'):wpList prog ops Q (o::rest) a w:=by
 obtain⟨i0,hi0,hz0,hz1,hz2⟩:=info_parts Tryz.info5;refine wpList_append_own_at _ hgd s x 160 ho B 5 i0 _ 1 1 Tryz.TD hi0 hz0 hz1 hz2 rfl (by decide) v l.length (Lib.byteCells l) hs hl ⟨g,0,none⟩ 1 c [Value.int .u8 (y.toNat:Int)] hx rfl (by
  intro j u hj
  match j,hj with
  |0,hj=>simp at hj;subst hj;simpa [Addr.add]using hn) (by intro u hu;simp at hu;subst hu;rfl) (by unfold maxLen;omega) (by omega) hB fun v5 w5 hown5 aU _ _=>?_
 refine h v5 w5 ?_ ⟨aU.os,aU.tape,aU.output,aU.size,fun b hb=>aU.block b (by omega) fun e=>absurd (World.ownsRow.lt hl b e.symm).1 (by omega)⟩ (fun g cs e he hg=>(aU.block g hg.lt fun hv=>he (by
  obtain⟨cur,hc⟩:=zN hl hv.symm;unfold aj at hg;rw[hg]at hc;cases hc;rfl)).trans hg)
 unfold BR;rw[VN,List.length_append];exact hown5
theorem Lx.ahZ{K:List av}{j:Nat}(hj:j<K.length):mV (K.take (j+1))=((mV (K.take j)++Lib.decDigits K[j].1)++[46]++Lib.decDigits K[j].2)++[32]:=by
 rw[List.take_succ_eq_append_getElem hj];unfold mV;rw[List.flatMap_append];simp
theorem KZ{n:Nat}(h:n<=1000000):(Lib.decDigits n).length<=21:=by
 have:=Lib.itoa_length_le (n:Int) (by omega) (by omega);rw[Lib.itoa_nonneg]at this;exact this
theorem Lx.aiP{K:List av}(h:∀s∈K,s.1<=1000000/\s.2<=1000000):(mV K).length<=K.length*44:=by
 induction K with
 |nil=>simp[mV]
 |cons s K ih=>
  rw[Ee];have h1:=KZ (h s List.mem_cons_self).1;have h2:=KZ (h s List.mem_cons_self).2;have h3:=ih fun t ht=>h t (List.mem_cons_of_mem _ ht)
  simp only[List.length_append,List.length_cons];omega
theorem afH{B0:Nat}{w:World}{v:Value}{K:List av}(hK:aJ 36 2 dI B0 w v K)(hne:K≠[])(hl:K.length<=1000000)(hs:∀s∈K,s.1<=1000000/\s.2<=1000000)(ht:jd w):Calls prog 28 #[v] w fun e w'=>e=.returned (.string (pI K))/\Below w.heap.size w w':=by
 obtain⟨a,c,rfl,-⟩:∃a c,v=.slice a K.length c/\K.length<=maxLen:=aF hK;have hT:=Lib.tabBelow_of_tabIs ht
 have HT : Hid (Lib.TabBelow prog w.heap.size w "internal/strconv.uint64pow10" .u64 Lib.pow10Tab) := hT
 have HS:Hid (∀s∈K,s.1<=1000000/\s.2<=1000000):=hs;clear hT ht hs;go_enter func28,ntmps28;go_wp2_with fail
 go_loopg [3,8] K.length (fun m v i wr=>∃j:Nat,j+m=K.length/\i=.int .i64 (j:Int)/\BR w.heap.size wr v (mV (K.take j))/\Below w.heap.size w wr)
 case atStart=>exact⟨0,by omega,rfl,World.ownsRow_nil _ _ _ _,Below.refl _ _⟩
 case round=>
  revert wr;intro wz hrel;obtain⟨j,hkj,rfl,hL,hbz⟩:=hrel;have hsz:=hbz.size;have hlen:(mV (K.take j)).length<=44000000:=by
   have:=aiP (K:=K.take j) fun s hs=>HS.out s (List.mem_of_mem_take hs)
   simp only[List.length_take]at this;omega
  by_cases hlt:j<K.length
  ·obtain⟨g,cap,hv,-,lg,hc⟩:=aJ.at qi (aJ.below hK hbz) hlt
   cases hv;have c0:=hc 0 _ (by decide) rfl;have c1:=hc 1 _ (by decide) rfl;have hb:=HS.out K[j] (List.getElem_mem hlt);have HX:Hid (mV (K.take (j+1))=((mV (K.take j)++Lib.decDigits K[j].1)++[46]++Lib.decDigits K[j].2)++[32]):=ahZ hlt;have l1:=KZ hb.1;have l2:=KZ hb.2;clear hc;generalize K[j]=s at c0 c1 hb HX l1 l2;obtain⟨sk,sd⟩:=s;simp only[Nat.add_zero]at c0 c1 hb l1 l2;generalize hX:mV (K.take j)=X at hL hlen HX;clear hX;have i1:(0:Int)<=(j:Int):=by omega
   have i2:(j:Int)<(K.length:Int):=by omega
   obtain⟨W1,hW1⟩:∃W,W=wz.alloc (.cells #[.int .i64 (sk:Int),.int .i64 (sd:Int)] 36):=⟨_,rfl⟩;have hb1:Below wz.heap.size wz W1:=by rw[hW1];exact(Below.refl _ _).alloc (zL0) _
   have Fu:aj W1 wz.heap.size #[.int .i64 (sk:Int),.int .i64 (sd:Int)] 36:=by rw[hW1];exact aj.new wz _ 36
   have hs1:W1.heap.size=wz.heap.size+1:=by rw[hW1];simp
   have s0:W1.cell? ⟨wz.heap.size,0,none⟩=some (.int .i64 (sk:Int)):=Fu.cell 0;have hL1:BR w.heap.size W1 _ X:=own_below hL hb1;have fM:Below w.heap.size w W1:=hbz.trans (hb1.mono (by omega));have q5:=VO hL1 (by omega) hb.1 (by omega) (HT.out.on fM);go_upto_region 5 with fail
   rw[<-hW1];clear hW1;go_upto_region 6 with (go_at_call 63;refine q5.mono ?_;rintro e w2⟨v2,rfl,hL2,hb2,E8⟩)
   have kS2:=E8 _ _ 36 (by decide) Fu;have hs2:=hb2.size;clear q5 s0;go_upto_region 7 with (at_builtin;go_loud (refine Tryz.Yy rfl _ _ rfl w.heap.size (by simp;omega) _ _ rfl (own_below hL2 ((Below.refl _ _).alloc (zL0) _)) 46 _ 1 rfl ((aj.new _ _ 5).cell 0) (by simp;omega) ?_;intro v3 w3 hL3 hb3 vX))
   have Nb:=vX _ _ 36 (by decide) (kS2.alloc _);have hs3:=hb3.size;have s1:w3.cell? ⟨wz.heap.size,1,none⟩=some (.int .i64 (sd:Int)):=Nb.cell 1;have qJ:Below w.heap.size w w3:=fM.trans (hb2.trans (((Below.refl _ w2).alloc (by omega) _).trans hb3));have q7:=VO hL3 (by have:=qJ.size;omega) hb.2 (by simp;omega) (HT.out.on qJ);go_upto_region 8 with (go_at_call 63;refine q7.mono ?_;rintro e w4⟨v4,rfl,hL4,hb4,wJ⟩)
   have Cz:Below w.heap.size w w4:=qJ.trans hb4;have hs4:=Cz.size;clear q7 s1
   go_wp2_with (at_builtin;go_loud (refine Tryz.Yy rfl _ _ rfl w.heap.size (by simp;omega) _ _ rfl (own_below hL4 ((Below.refl _ _).alloc (zL0) _)) 32 _ 1 rfl ((aj.new _ _ 5).cell 0) (by simp;omega) ?_;intro v5 w5 hL5 hb5 Bf))
   go_roundg (K.length - (j+1))
   case measure=>omega
   case rel=>exact⟨j+1,by omega,by go_num,by rw[HX.out];exact hL5,Cz.trans (((Below.refl _ w4).alloc (by omega) _).trans hb5)⟩
  ·obtain rfl:j=K.length:=by omega
   rw[List.take_length]at hL hlen;have hX0:mV K≠[]:=by
    cases K with
    |nil=>exact absurd rfl hne
    |cons s K=>rw[Ee];simp
   have HX:Hid (pI K=⟨(mV K).toArray⟩):=rfl;generalize mV K=X at hL hX0 HX;unfold BR at hL;rcases hL.2 with ⟨-,h0⟩|⟨g,cap,cur,rfl,-,-,-,-,-,-⟩
   ·exact absurd (List.eq_nil_of_length_eq_zero h0) hX0
   ·have hcv:=run_convert_bytes_back (P:=prog) wz 160 9 5 ⟨g,0,none⟩ cap X Tryz.TD underlying5 underlying9 (fun j hj=>World.ownsRow.cells hL (g:=g) rfl j _ (by simp[Lib.byteCells,hj]))
    clear hL hX0;go_wp2_with fail;go_ret;exact⟨by rw[HX.out];rfl,hbz⟩
theorem agO{w:World}{ta na pa ba ka:Option Addr}{nT tc nN nc np pc nb bc nk kc:Nat}(hbd:nT+nN<=100000):Calls prog 27 #[.agg #[.slice ta nT tc,.slice na nN nc,.slice pa np pc,.slice ba nb bc,.slice ka nk kc]] w fun e w'=>e=.returned (.int .i64 ((nT+nN:Nat):Int))/\Below w.heap.size w w':=by
 go_enter func27,ntmps27;go_wp2_with fail;go_ret;exact⟨by rw[Int.natCast_add];rfl,(Below.refl _ _).alloc (zL0) _⟩
theorem Po{w:World}{B g e k:Nat}{cs:Array Value}(h:aj w g cs e)(hB:B<=g)(hk:cs.size=k):w.ownsRow B e k (.slice (some ⟨g,0,none⟩) 1 1) 1 cs.toList:=by
 refine⟨by rw[Nat.one_mul,<-hk];rfl,.inr ⟨g,1,cs,rfl,hB,h,zL0,by unfold maxLen;omega,by omega,?_⟩⟩;rw[Nat.one_mul,<-hk];exact List.take_length
theorem Tryz.Y7:(prog.info? 71).map (fun i=>(i.zero,i.size,i.bytes))=some (some (.agg #[.int .i64 0,.int .i64 0,.int .i64 0]),3,24):=by kernel_rfl
theorem Tryz.TR:prog.underlying 28=some (.slice 71):=by kernel_rfl
theorem Tryz.ajb:(prog.info? 69).map (fun i=>(i.zero,i.size,i.bytes))=some (some (.slice none 0 0),1,24):=by kernel_rfl
theorem Tryz.adY:prog.underlying 27=some (.slice 69):=by kernel_rfl
def oH(B:Nat)(w:World)(vl ve:Value)(S:bK):Prop:=fD 69 70 B w vl S.ks/\aJ 71 3 nP B w ve S.es
theorem oH.below{B:Nat}{w w':World}{vl ve:Value}{S:bK}(h:oH B w vl ve S)(hb:Below w.heap.size w w'):oH B w' vl ve S:=⟨h.1.below hb,h.2.below hb⟩
theorem fD.le{S T B B':Nat}{w:World}{v:Value}{ks:List (List av)}(h:fD S T B w v ks)(hb:B'<=B):fD S T B' w v ks:=by
 obtain⟨xs,h1,h2,h3⟩:=h;exact⟨xs,h1,dm h2 hb,fun x hx=>dm (h3 x hx) hb⟩
def wN(w:World)(P:List Lx.Pd)(sz:Nat)(e:Ending)(w':World):Prop:=Below w.heap.size w w'/\((jV P sz=none/\e=.returned (.tuple #[.slice none 0 0,.slice none 0 0,.bool false]))\/∃S vl ve,jV P sz=some S/\e=.returned (.tuple #[vl,ve,.bool true])/\oH w.heap.size w' vl ve S)
theorem wN.none{w:World}{P:List Lx.Pd}{sz:Nat}{e:Ending}{w':World}(hb:Below w.heap.size w w')(h:jV P sz=.none)(he:e=.returned (.tuple #[.slice .none 0 0,.slice .none 0 0,.bool false])):wN w P sz e w':=⟨hb,.inl ⟨h,he⟩⟩
theorem wN.some{w:World}{P:List Lx.Pd}{sz:Nat}{e:Ending}{w':World}(hb:Below w.heap.size w w')(S:bK)(vl ve:Value)(h:jV P sz=.some S)(he:e=.returned (.tuple #[vl,ve,.bool true]))(hS:oH w.heap.size w' vl ve S):wN w P sz e w':=⟨hb,.inr ⟨S,vl,ve,h,he,hS⟩⟩
def sU(ks:List (List av))(F:List av)(tt:Int)(j:Nat):Prop:=(tt=-1/\∀(i:Nat)(x:List av),i<j->ks[i]?=some x->x≠F)\/∃t:Nat,tt=(t:Int)/\t<ks.length/\gN ks F=t
theorem sU.first(ks:List (List av))(F:List av):sU ks F (-1) 0:=.inl ⟨rfl,fun _ _ h=>absurd h (Nat.not_lt_zero _)⟩
theorem sU.no{ks:List (List av)}{F:List av}{j:Nat}(h:∀(i:Nat)(x:List av),i<j->ks[i]?=some x->x≠F){x:List av}(hx:ks[j]?=some x)(hn:x≠F):sU ks F (-1) (j+1):=.inl ⟨rfl,fun i y hi hy=>by
 by_cases e:i=j
 ·subst e;rw[hx]at hy;cases hy;exact hn
 ·exact h i y (by omega) hy⟩
theorem sU.yes{ks:List (List av)}{F:List av}{j:Nat}(h:∀(i:Nat)(x:List av),i<j->ks[i]?=some x->x≠F)(hx:ks[j]?=some F):sU ks F (j:Int) (j+1):=.inr ⟨j,rfl,(List.getElem?_eq_some_iff.1 hx).1,ahT hx h⟩
theorem Lx.ah0{P:List Lx.Pd}{i:Nat}{K:List av}{S:bK}{n:Nat}(h:eU P K n≠[])(h2:gN S.ks (eU P K n)<S.ks.length):Lx.edge P i K S n=⟨S.ks,S.es++[(i,n,gN S.ks (eU P K n))]⟩:=by
 unfold Lx.edge;rw[if_neg h,if_pos h2]
theorem Lx.ah1{P:List Lx.Pd}{i:Nat}{K:List av}{S:bK}{n:Nat}(h:eU P K n≠[])(h2:gN S.ks (eU P K n)=S.ks.length):Lx.edge P i K S n=⟨S.ks++[eU P K n],S.es++[(i,n,S.ks.length)]⟩:=by
 unfold Lx.edge;rw[if_neg h,if_neg (by omega)]
theorem ajc{w:World}{ta na ba ka:Option Addr}{nT tc nN nc nb bc nk kc:Nat}{vP:Value}{P:List Lx.Pd}{st:Nat}(hP:PR (fun _=>True) w vP P)(hp:mR P (nT+nN) st):Calls prog 19 #[.agg #[.slice ta nT tc,.slice na nN nc,vP,.slice ba nb bc,.slice ka nk kc]] w (wN w P (nT+nN)):=by
 obtain⟨pa,pc,rfl,-⟩:∃a c,vP=.slice a P.length c/\P.length<=maxLen:=by obtain⟨ps,h1,h2,-⟩:=hP;exact aF h2
 obtain⟨W1,hW1⟩:∃W,W=((w.alloc (.cells #[.slice ta nT tc,.slice na nN nc,.slice pa P.length pc,.slice ba nb bc,.slice ka nk kc] 54)).alloc (.cells #[.int .i64 0,.int .i64 0] 70)).alloc (.cells #[.slice (some ⟨w.heap.size+1,0,none⟩) 1 1] 69):=⟨_,rfl⟩;have hb1:Below w.heap.size w W1:=by rw[hW1];exact(((Below.refl _ _).alloc (zL0) _).alloc (by simp) _).alloc (by simp;omega) _
 have hs1:W1.heap.size=w.heap.size+1+1+1:=by rw[hW1];simp
 have kA1:aj W1 w.heap.size #[.slice ta nT tc,.slice na nN nc,.slice pa P.length pc,.slice ba nb bc,.slice ka nk kc] 54:=by rw[hW1];exact((aj.new w _ 54).alloc _).alloc _
 have kB1:aj W1 (w.heap.size+1) #[.int .i64 0,.int .i64 0] 70:=by rw[hW1];simpa using (aj.new (w.alloc (.cells #[.slice ta nT tc,.slice na nN nc,.slice pa P.length pc,.slice ba nb bc,.slice ka nk kc] 54)) #[.int .i64 0,.int .i64 0] 70).alloc (.cells #[.slice (some ⟨w.heap.size+1,0,none⟩) 1 1] 69)
 have aP:aj W1 (w.heap.size+1+1) #[.slice (some ⟨w.heap.size+1,0,none⟩) 1 1] 69:=by rw[hW1];simpa using aj.new ((w.alloc (.cells #[.slice ta nT tc,.slice na nN nc,.slice pa P.length pc,.slice ba nb bc,.slice ka nk kc] 54)).alloc (.cells #[.int .i64 0,.int .i64 0] 70)) #[.slice (some ⟨w.heap.size+1,0,none⟩) 1 1] 69
 have hS1:oH (w.heap.size+1) W1 (.slice (some ⟨w.heap.size+1+1,0,none⟩) 1 1) (.slice none 0 0) ⟨[[(0,0)]],[]⟩:=⟨⟨[((some ⟨w.heap.size+1,0,none⟩,1,1),[(0,0)])],rfl,Po aP (by omega) rfl,fun x hx=>by rw[List.mem_singleton]at hx;subst hx;exact Po kB1 (zL0) rfl⟩,World.ownsRow_nil _ _ _ _⟩;have q0:∀wx:World,Calls prog 27 #[.agg #[.slice ta nT tc,.slice na nN nc,.slice pa P.length pc,.slice ba nb bc,.slice ka nk kc]] wx fun e w'=>e=.returned (.int .i64 ((nT+nN:Nat):Int))/\Below wx.heap.size wx w':=fun wx=>agO hp.M6
 have HQ:Hid (∀wx:World,Calls prog 27 #[.agg #[.slice ta nT tc,.slice na nN nc,.slice pa P.length pc,.slice ba nb bc,.slice ka nk kc]] wx fun e w'=>e=.returned (.int .i64 ((nT+nN:Nat):Int))/\Below wx.heap.size wx w'):=q0;clear q0;have Hu:=hp.M6;generalize nT+nN=sz at hp HQ Hu|-;have HO1:Hid (oh P ⟨[[(0,0)]],[]⟩):=oh.first hp;have HA1:Hid (jV P sz=qG P sz (302-0) 0 ⟨[[(0,0)]],[]⟩):=rfl;clear kB1 aP;go_enter func19,ntmps19;go_upto_region 2 with fail
 rw[<-hW1];clear hW1;go_wp2_with fail;generalize hB:w.heap.size+1=B at *;generalize hvl:Value.slice (some ⟨B+1,0,none⟩) 1 1=vl0 at *
 go_loopg [5,6,7] 301 (fun m vl ve iv wr=>∃(i:Nat)(S:bK),i+m=301/\i<=300/\iv=.int .i64 (i:Int)/\oH B wr vl ve S/\Below B W1 wr/\S.ks.length<=300/\S.es.length<=i*100000/\Hid (oh P S)/\Hid (jV P sz=qG P sz (302-i) i S))
 case atStart=>exact⟨0,_,by omega,by omega,rfl,hS1,Below.refl _ _,by simp,by simp,HO1,HA1⟩
 case round=>
  clear HA1 HO1 hS1;revert wr;intro wz hrel;obtain⟨i,S,hkj,akc,rfl,hS,hbz,hkl,hel,HO,HA⟩:=hrel;obtain⟨la,lc,rfl,-⟩:=hS.1.len;obtain⟨ea,ec,rfl,-⟩:∃a c,_=Value.slice a S.es.length c/\S.es.length<=maxLen:=aF hS.2;have hsz:=hbz.size;have hbw:Below w.heap.size w wz:=hb1.trans (hbz.mono (by omega))
  by_cases hlt:i<S.ks.length
  ·have i1:(0:Int)<=(i:Int):=by omega
   have i2:(i:Int)<(S.ks.length:Int):=by omega
   obtain⟨K,hK⟩:∃K,S.ks[i]?=some K:=⟨_,List.getElem?_eq_getElem hlt⟩;have HK:Hid (S.ks[i]?=some K):=hK;have hKo:=HO.out i K hK;have hKs:qj P K:=hKo.sp hp;have hkm:K.length<=100000:=by have:=hKo.len;omega
   obtain⟨SL,Sm⟩:∃SL,SL=Lx.leave P i K S (List.range' 0 (sz-0)):=⟨_,rfl⟩;have HSL:Hid (SL=Lx.leave P i K S (List.range' 0 (sz-0))):=Sm;have HN:Hid (jV P sz=if 300<SL.ks.length then none else qG P sz (302 - (i+1)) (i+1) SL):=by
    show _=_;rw[HA.out,WO (by omega) hK,Sm,Nat.sub_zero,<-List.range_eq_range']
   have hi3:i<300:=by omega
   obtain⟨E0,hE0⟩:∃E0,i*100000=E0:=⟨_,rfl⟩;have aak:S.es.length<=E0:=by omega
   have Me:Hid (i*100000=E0):=hE0;have hE1:E0<=30000000:=by omega
   clear Sm hK HA hKo hE0;go_wp2_with fail;clear i2
   go_loopg [5,6,8] sz (fun m vl ve sv wr=>∃(n:Nat)(S':bK),n+m=sz/\sv=.int .i64 (n:Int)/\oH B wr vl ve S'/\Below B W1 wr/\S'.ks.length<=300+n/\S'.es.length<=E0+n/\Hid (oh P S')/\Hid (S'.ks[i]?=some K)/\Hid (SL=Lx.leave P i K S' (List.range' n (sz-n))))
   case atStart=>exact⟨0,S,by omega,rfl,hS,hbz,hkl,aak,HO,HK,HSL⟩
   case round=>
    clear hS hbz HO HSL HK hkl hel aak hlt hbw hsz;revert wr;intro wr hrel;obtain⟨n,S',hkn,rfl,hS,hbr,hkl,hel,HO,HK,HSL⟩:=hrel;obtain⟨la,lc,rfl,-⟩:=hS.1.len;obtain⟨ea,ec,rfl,-⟩:∃a c,_=Value.slice a S'.es.length c/\S'.es.length<=maxLen:=aF hS.2;have hsr:=hbr.size;have j5:Below w.heap.size w wr:=hb1.trans (hbr.mono (by omega));have A8:aj wr w.heap.size _ 54:=(hbr.block _ (by omega)).trans kA1;have a0:wr.cell? ⟨w.heap.size,0,none⟩=some (.slice ta nT tc):=A8.cell 0;have a1:wr.cell? ⟨w.heap.size,1,none⟩=some (.slice na nN nc):=A8.cell 1;have a2:wr.cell? ⟨w.heap.size,2,none⟩=some (.slice pa P.length pc):=A8.cell 2;have a3:wr.cell? ⟨w.heap.size,3,none⟩=some (.slice ba nb bc):=A8.cell 3;have a4:wr.cell? ⟨w.heap.size,4,none⟩=some (.slice ka nk kc):=A8.cell 4
    by_cases hn:n<sz
    ·have i3:(n:Int)<(sz:Int):=by omega
     have HE:Hid (SL=Lx.leave P i K (Lx.edge P i K S' n) (List.range' (n+1) (sz - (n+1)))):=by show _=_;rw[HSL.out,afD hn]
     have Dg:Hid (oh P (Lx.edge P i K S' n)):=HO.out.edge hp HK.out n;have HKn:Hid ((Lx.edge P i K S' n).ks[i]?=some K):=Pk HK.out;have amy:i<S'.ks.length:=(List.getElem?_eq_some_iff.1 HK.out).1;have i2:(i:Int)<(S'.ks.length:Int):=by omega
     clear HSL HO;go_upto_region 9 with (go_at_call 27;refine(HQ.out wr).mono ?_;rintro e w2⟨rfl,hb2⟩)
     have hs2:=hb2.size;have hS2:=hS.below hb2;have l7:Below B W1 w2:=hbr.trans (hb2.mono (by omega));obtain⟨gl,QK,kap,kcp,hv,lgl,ck,rk⟩:=hS2.1.at HK.out;cases hv;have b0:=jS hb2 a0;have b1:=jS hb2 a1;have b2:=jS hb2 a2;have b3:=jS hb2 a3;have b4:=jS hb2 a4;obtain⟨F,hF⟩:∃F,F=eU P K n:=⟨_,rfl⟩;have q2:=aeI (nT:=nT) (nN:=nN) (ta:=ta) (na:=na) (ba:=ba) (ka:=ka) (tc:=tc) (nc:=nc) (nb:=nb) (bc:=bc) (nk:=nk) (kc:=kc) ((hP.yA (j5.trans (hb2.mono (by omega)))).yA (w':=w2.drew) ⟨rfl,rfl,rfl,zL0,fun _ _=>rfl⟩) (SR.below rk (w':=w2.drew) ⟨rfl,rfl,rfl,zL0,fun _ _=>rfl⟩) hKs (by have:=hp.len;omega) hkm n;rw[<-hF]at q2;have HF:Hid (F=eU P K n):=hF;clear hF a0 a1 a2 a3 a4 A8
     go_region_law (refine jK rfl 30 #[.agg #[.slice ta nT tc,.slice na nN nc,.slice pa P.length pc,.slice ba nb bc,.slice ka nk kc],.slice kap K.length kcp,.int .i64 (n:Int)] (by go_simp) q2 ?_;rintro e w3⟨v3,rfl,Jh,hb3⟩;refine⟨_,rfl,?_⟩)
     all_goals
      have hb6:Below w2.heap.size w2 w3:=(Below.refl _ w2).drew.trans hb3;have hs3:=hb6.size;have Nc:=hS2.below hb6;have uF:Below B W1 w3:=l7.trans (hb6.mono (by omega));have hFB:aJ 70 2 dI B w3 v3 F:=dm Jh (by simp;omega);obtain⟨fa,fc,rfl,hfm⟩:∃a c,v3=Value.slice a F.length c/\F.length<=maxLen:=aF hFB;clear q2 b0 b1 b2 b3 b4 ck rk hS2 Jh
      by_cases Bh:F=[]
      ·have HE2:Hid (Lx.edge P i K S' n=S'):=Wl (HF.out.symm.trans Bh)
       have i4:F.length=0:=by rw[Bh];rfl
       clear Bh HF;rw[i4];go_wp2_with fail;go_roundg (sz - (n+1))
       case measure=>omega
       case rel=>exact⟨n+1,S',by omega,by go_num,Nc,uF,by omega,by omega,by have:=Dg.out;rw[HE2.out]at this;exact this,HK,by have:=HE.out;rw[HE2.out]at this;exact this⟩
      ·have i4:((F.length:Int) == 0)=false:=beq_eq_false_iff_ne.2 (by have:=List.length_pos_iff.2 Bh;omega)
       have i5:¬(F.length:Int)=0:=by have:=List.length_pos_iff.2 Bh;omega
       have i6:¬F.length=0:=by have:=List.length_pos_iff.2 Bh;omega
       have HF0:Hid (eU P K n≠[]):=fun e=>Bh (HF.out.trans e)
       have Fe:Hid (sU S'.ks F (-1) 0):=sU.first _ _;clear Bh;go_wp2_with fail
       go_loopg [10,11] S'.ks.length (fun m tv jv wq=>∃(tt:Int)(j:Nat),j+m=S'.ks.length/\tv=.int .i64 tt/\jv=.int .i64 (j:Int)/\Below w3.heap.size w3 wq/\Hid (sU S'.ks F tt j))
       case atStart=>exact⟨-1,0,by omega,rfl,rfl,Below.refl _ _,Fe⟩
       case round=>
        clear Fe;revert wr;intro wq hrel;obtain⟨tt,j,hkq,rfl,rfl,hbq,Ji⟩:=hrel;have hsq:=hbq.size;have Jj:=Nc.below hbq;have Sn:aJ 70 2 dI B wq _ F:=hFB.below hbq;have aal:Below B W1 wq:=uF.trans (hbq.mono (by omega));rcases Ji.out with ⟨rfl,hall⟩|⟨t,rfl,htl,hix⟩
        ·by_cases hj:j<S'.ks.length
         ·have j1:(0:Int)<=(j:Int):=by omega
          have j2:(j:Int)<(S'.ks.length:Int):=by omega
          obtain⟨x,hx⟩:∃x,S'.ks[j]?=some x:=⟨_,List.getElem?_eq_getElem hj⟩;obtain⟨gq,amz,xa,xc,hvq,lgq,cx,rx⟩:=Jj.1.at hx;cases hvq;have q3:=aho rx Sn
          by_cases Fv:x=F
          ·have rG:Hid (sU S'.ks F (j:Int) (j+1)):=sU.yes hall (Fv▸hx)
           rw[decide_eq_true Fv]at q3;clear hall hx Fv Ji
           go_wp2_with (go_at_call 31;refine q3.mono ?_;rintro e w7⟨rfl,jc⟩)
           go_roundg (S'.ks.length - (j+1))
           case measure=>omega
           case rel=>exact⟨(j:Int),j+1,by omega,rfl,by go_num,hbq.trans (jc.mono (by omega)),rG⟩
          ·have rG:Hid (sU S'.ks F (-1) (j+1)):=sU.no hall hx Fv
           rw[decide_eq_false Fv]at q3;clear hall hx Fv Ji
           go_wp2_with (go_at_call 31;refine q3.mono ?_;rintro e w7⟨rfl,jc⟩)
           go_roundg (S'.ks.length - (j+1))
           case measure=>omega
           case rel=>exact⟨-1,j+1,by omega,rfl,by go_num,hbq.trans (jc.mono (by omega)),rG⟩
         ·have hje:j=S'.ks.length:=by omega
          have j2:¬(j:Int)<(S'.ks.length:Int):=by omega
          have hix:gN S'.ks F=S'.ks.length:=XG fun i' x hx=>hall i' x (by have:=(List.getElem?_eq_some_iff.1 hx).1;omega) hx
          have Dz:Hid (Lx.edge P i K S' n=⟨S'.ks++[F],S'.es++[(i,n,S'.ks.length)]⟩):=by show _=_;rw[HF.out]at hix|-;exact ah1 HF0.out hix
          obtain⟨xs,hxs,hx2,hx3⟩:=Jj.1;have hEq:=Jj.2;have hxl:xs.length=S'.ks.length:=by rw[<-hxs,List.length_map]
          have wO:Hid (xs.length=S'.ks.length):=hxl;clear hall Ji hix hje hxl;go_upto_region 21 with (at_builtin;go_loud (refine rY Tryz.ajb Tryz.adY rfl (by decide) KX rfl _ _ rfl B (by simp;omega) _ xs rfl (aJ.below hx2 ((Below.refl _ _).alloc (zL0) _)) ((fa,F.length,fc),F) _ 1 rfl (bC (aj.new _ _ 69)) (by have:=wO.out;unfold maxLen;omega) (by have:=wO.out;omega) ?_;intro v8 w8 mh jR qR Di))
          have wP:fD 69 70 B w8 v8 (S'.ks++[F]):=by
           rw[<-hxs];exact fD.push (x:=((fa,F.length,fc),F)) (aJ.below hx2 ((Below.refl _ _).alloc (zL0) _)) (fun y hy=>aJ.below (hx3 y hy) ((Below.refl _ _).alloc (zL0) _)) (aJ.below Sn ((Below.refl _ _).alloc (zL0) _)) (by decide) qR mh
          have Nf:aJ 71 3 nP B w8 _ S'.es:=BH (aJ.below hEq ((Below.refl _ _).alloc (zL0) (.cells #[.slice fa F.length fc] 69))) (aJ.below hx2 ((Below.refl _ _).alloc (zL0) (.cells #[.slice fa F.length fc] 69))) (by decide) qR;have aam:Below B W1 w8:=aal.trans (((Below.refl _ wq).alloc (by omega) _).trans jR);have hs8:=aam.size;clear jR qR Di mh hx2 hx3 hEq Sn
          go_wp2_with (at_builtin;go_loud (refine rY Tryz.Y7 Tryz.TR rfl (by decide) Ht rfl _ _ rfl B (by simp;omega) _ S'.es rfl (aJ.below Nf ((Below.refl _ _).alloc (zL0) _)) (i,n,S'.ks.length) _ 1 rfl (bC (aj.new _ _ 71)) (by unfold maxLen;omega) (by omega) ?_;intro v9 w9 II zh Sq ho9))
          have zx:fD 69 70 B w9 v8 (S'.ks++[F]):=fD.grown (wP.below ((Below.refl _ _).alloc (zL0) _)) (aJ.below Nf ((Below.refl _ _).alloc (zL0) _)) (by decide) (by decide) Sq;go_roundg (sz - (n+1))
          case measure=>omega
          case rel=>exact⟨n+1,⟨S'.ks++[F],S'.es++[(i,n,S'.ks.length)]⟩,by omega,by go_num,⟨zx,II⟩,aam.trans (((Below.refl _ w8).alloc (by omega) _).trans zh),by simp;omega,by simp;omega,by have:=Dg.out;rw[Dz.out]at this;exact this,by have:=HKn.out;rw[Dz.out]at this;exact this,by have:=HE.out;rw[Dz.out]at this;exact this⟩
        ·have Dz:Hid (Lx.edge P i K S' n=⟨S'.ks,S'.es++[(i,n,t)]⟩):=by show _=_;rw[HF.out]at hix;rw[ah0 HF0.out (by omega),hix]
         have t0:¬(t:Int)<0:=by omega
         have hEq:=Jj.2;have hKq:=Jj.1;clear Ji hix htl;rcases Classical.em ((j:Int)<(S'.ks.length:Int)) with j2|j2
         all_goals
          go_wp2_with (at_builtin;go_loud (refine rY Tryz.Y7 Tryz.TR rfl (by decide) Ht rfl _ _ rfl B (by simp;omega) _ S'.es rfl (aJ.below hEq ((Below.refl _ _).alloc (zL0) _)) (i,n,t) _ 1 rfl (bC (aj.new _ _ 71)) (by unfold maxLen;omega) (by omega) ?_;intro v9 w9 II zh Sq ho9))
          have zx:fD 69 70 B w9 _ S'.ks:=fD.grown (hKq.below ((Below.refl _ _).alloc (zL0) _)) (aJ.below hEq ((Below.refl _ _).alloc (zL0) _)) (by decide) (by decide) Sq;go_roundg (sz - (n+1))
          case measure=>omega
          case rel=>exact⟨n+1,⟨S'.ks,S'.es++[(i,n,t)]⟩,by omega,by go_num,⟨zx,II⟩,aal.trans (((Below.refl _ wq).alloc (by omega) _).trans zh),by simp;omega,by simp;omega,by have:=Dg.out;rw[Dz.out]at this;exact this,by have:=HKn.out;rw[Dz.out]at this;exact this,by have:=HE.out;rw[Dz.out]at this;exact this⟩
    ·have hne:n=sz:=by omega
     have i3:¬(n:Int)<(sz:Int):=by omega
     have HL:Hid (SL=S'):=by show _=_;rw[HSL.out,show sz-n=0 by omega];rfl
     have LV:S'.es.length<=(i+1)*100000:=by have:=Me.out;omega
     clear HSL hne
     by_cases hm:300<S'.ks.length
     ·have zy:Hid (jV P sz=none):=by show _=_;rw[HN.out,HL.out,if_pos hm]
      have i5:(300:Int)<(S'.ks.length:Int):=by omega
      clear HN HL
      go_wp2_with (go_at_call 27;refine(HQ.out wr).mono ?_;rintro e w2⟨rfl,hb2⟩)
      exact bodyPost_ret (v:=.tuple #[.slice none 0 0,.slice none 0 0,.bool false]) (by simp[results,results19,go_sem]) rfl (wN.none (j5.trans (hb2.mono (by omega))) zy.out rfl)
     ·have zy:Hid (jV P sz=qG P sz (302 - (i+1)) (i+1) S'):=by show _=_;rw[HN.out,HL.out,if_neg hm]
      have i5:¬(300:Int)<(S'.ks.length:Int):=by omega
      clear HN HL
      go_wp2_with (go_at_call 27;refine(HQ.out wr).mono ?_;rintro e w2⟨rfl,hb2⟩)
      go_roundg (301 - (i+1))
      case measure=>omega
      case rel=>exact⟨i+1,S',by omega,by omega,by go_num,hS.below hb2,hbr.trans (hb2.mono (by omega)),by omega,LV,HO,zy⟩
  ·have HN:Hid (jV P sz=some S):=by show _=_;rw[HA.out,XF (by omega) (by omega)]
   have i2:¬(i:Int)<(S.ks.length:Int):=by omega
   clear HA HO;go_wp2_with fail;exact bodyPost_ret (v:=.tuple #[.slice la S.ks.length lc,.slice ea S.es.length ec,.bool true]) (by simp[results,results19,go_sem]) rfl (wN.some hbw S _ _ HN.out rfl ⟨hS.1.le (by omega),dm hS.2 (by omega)⟩)
theorem Tryz.ajd:(prog.info? 34).map (fun i=>(i.zero,i.size,i.bytes))=some (some (.slice none 0 0),1,24):=by kernel_rfl
theorem Tryz.adZ:prog.underlying 22=some (.slice 34):=by kernel_rfl
theorem Tryz.aje:(prog.info? 38).map (fun i=>(i.zero,i.size,i.bytes))=some (some (.agg #[.int .i64 0,.int .i64 0,.int .i64 0]),3,24):=by kernel_rfl
theorem Tryz.ad1:prog.underlying 23=some (.slice 38):=by kernel_rfl
theorem En{w w':World}{B e z:Nat}{v:Value}{n:Nat}{xs:List Value}(h:w.ownsRow B e z v n xs){b:Nat}(hb:∀g,v.ownBlock=some g->g≠b)(hk:∀g,g<w.heap.size->g≠b->w'.heap[g]?=w.heap[g]?):w'.ownsRow B e z v n xs:=aC h fun g hg=>hk g (World.ownsRow.lt h g hg).2 (hb g hg)
theorem Gm{w:World}{B e z:Nat}{v:Value}{n:Nat}{xs:List Value}(h:w.ownsRow B e z v n xs){b:Nat}{es:Array MapEntry}{c:Nat}(hm:w.heap[b]?=some (.map es c)):∀g,v.ownBlock=some g->g≠b:=by
 intro g hg e1;obtain⟨cur,hc⟩:=zN h hg;rw[e1,hm]at hc;cases hc
theorem fD.but{S T B:Nat}{w w':World}{v:Value}{ks:List (List av)}(h:fD S T B w v ks){b:Nat}(hb:∀(e:Nat)(z:Nat)(u:Value)(n:Nat)(xs:List Value),(e=S\/e=T)->w.ownsRow B e z u n xs->∀g,u.ownBlock=some g->g≠b)(hk:∀g,g<w.heap.size->g≠b->w'.heap[g]?=w.heap[g]?):fD S T B w' v ks:=by
 obtain⟨xs,h1,h2,h3⟩:=h;exact⟨xs,h1,En h2 (hb S 1 v _ _ (.inl rfl) h2) hk,fun x hx=>En (h3 x hx) (hb T 2 _ _ _ (.inr rfl) (h3 x hx)) hk⟩
def nD(wB w:World)(f mb:Nat)(vT vN vP vB vQ ve:Value)(S:bK):Prop:=∃vk,aj w f #[vT,vN,vP,vB,vQ,.map (some mb),vk,ve] 64/\lJ w mb (S.ks.map pI)/\fD 34 36 wB.heap.size w vk S.ks/\aJ 38 3 nP wB.heap.size w ve S.es/\wB.heap.size<=f/\wB.heap.size<=mb/\Below wB.heap.size wB w
theorem nD.below{wB w w':World}{f mb:Nat}{vT vN vP vB vQ ve:Value}{S:bK}(h:nD wB w f mb vT vN vP vB vQ ve S)(hb:Below w.heap.size w w'):nD wB w' f mb vT vN vP vB vQ ve S:=by
 obtain⟨vk,h1,h2,h3,h4,h5,h6,h7⟩:=h;exact⟨vk,(hb.block _ h1.lt).trans h1,h2.move (hb.block _ h2.lt),h3.below hb,h4.below hb,h5,h6,h7.trans (hb.mono h7.size)⟩
def kU(w w':World):Prop:=∀(g:Nat)(cs:Array Value),aj w g cs 101->aj w' g cs 101
theorem kU.trans{a b c:World}(h:kU a b)(k:kU b c):kU a c:=fun g cs hg=>k g cs (h g cs hg)
theorem kU.below{w w':World}(hb:Below w.heap.size w w'):kU w w':=fun g _ hg=>(hb.block g hg.lt).trans hg
theorem kU.but{w w':World}{b:Nat}(hk:∀g,g<w.heap.size->g≠b->w'.heap[g]?=w.heap[g]?)(hb:∀cs,¬aj w b cs 101):kU w w':=fun g cs hg=>(hk g hg.lt (fun e=>hb cs (e▸hg))).trans hg
theorem kU.row{w w':World}(h:kU w w'){B z:Nat}{v:Value}{n:Nat}{xs:List Value}(hr:w.ownsRow B 101 z v n xs):w'.ownsRow B 101 z v n xs:=aC hr fun g hg=>by
 obtain⟨cur,hc⟩:=zN hr hg;exact(h g cur hc).trans hc.symm
theorem nD.put{wB w:World}{f mb:Nat}{vT vN vP vB vQ vk yY ve:Value}{ks:List (List av)}{es:List CU}(kF:aj w f #[vT,vN,vP,vB,vQ,.map (some mb),vk,ve] 64)(hm:lJ w mb (ks.map pI))(hK:fD 34 36 wB.heap.size w yY ks)(hE:aJ 38 3 nP wB.heap.size w ve es)(h1:wB.heap.size<=f)(h2:wB.heap.size<=mb)(hb:Below wB.heap.size wB w):nD wB (w.setCell ⟨f,6,none⟩ yY) f mb vT vN vP vB vQ ve ⟨ks,es⟩:=by
 have hk:∀g,g<w.heap.size->g≠f->(w.setCell ⟨f,6,none⟩ yY).heap[g]?=w.heap[g]?:=fun g _ hn=>zS0 hn
 have sZ:mb≠f:=fun e=>by
  obtain⟨es2,QL,hmb,-⟩:=hm;unfold aj at kF;rw[e,kF]at hmb;cases hmb
 refine⟨yY,kF.set 6 _,hm.move (hk mb hm.lt sZ),hK.but (fun e z u n xs he h=>own_ne h kF (by rcases he with rfl | rfl <;> decide)) hk,En hE (own_ne hE kF (by decide)) hk,h1,h2,hb.setCell (p:=⟨f,6,none⟩) h1 _⟩
def Lx.uG(ks:List (List av))(F:List av):List (List av):=if gN ks F<ks.length then ks else ks++[F]
def akd(wB w:World)(f mb:Nat)(vT vN vP vB vQ ve:Value)(S:bK)(F:List av)(e:Ending)(w':World):Prop:=e=.returned (.int .i64 (gN S.ks F:Int))/\nD wB w' f mb vT vN vP vB vQ ve ⟨uG S.ks F,S.es⟩/\kU w w'/\w.heap.size<=w'.heap.size
theorem Lx.Yz{ks:List (List av)}{F:List av}(h:F∈ks):gN ks F<ks.length:=by
 unfold gN;rw[List.findIdx_lt_length];exact⟨F,h,by simp⟩
theorem Lx.XI{ks:List (List av)}{F:List av}(h:F∉ks):gN ks F=ks.length:=XG fun _ _ hx e=>h (e▸List.mem_of_getElem? hx)
theorem Lx.aiQ{ks:List (List av)}{F:List av}:pI F∈ks.map pI↔F∈ks:=by
 constructor
 ·intro h
  obtain⟨x,hx,e⟩:=List.mem_map.1 h;rw[<-Yx e];exact hx
 ·exact fun h=>List.mem_map.2 ⟨F,h,rfl⟩
theorem Lx.agP{ks:List (List av)}(h:ks.Nodup):(ks.map pI).Nodup:=by
 rw[List.Nodup,List.pairwise_map];exact h.imp fun{a b}hab e=>hab (Yx e)
theorem VP{wB w:World}{f mb:Nat}{vT vN vP vB vQ ve vF:Value}{S:bK}{F:List av}(hf:nD wB w f mb vT vN vP vB vQ ve S)(hF:aJ 36 2 dI wB.heap.size w vF F)(hne:F≠[])(hl:F.length<=1000000)(hs:∀s∈F,s.1<=1000000/\s.2<=1000000)(hnd:S.ks.Nodup)(hkl:S.ks.length<=1000000)(ht:jd wB):Calls prog 17 #[.pointer (some ⟨f,0,none⟩),vF] w (akd wB w f mb vT vN vP vB vQ ve S F):=by
 obtain⟨vk,kF,hm,hk,hE,Ng,hBm,pF⟩:=hf;have htw:jd w:=((Lib.tabBelow_of_tabIs ht).on pF).here;have q1:=afH hF hne hl hs htw;obtain⟨ka,kc,rfl,-⟩:=hk.len;obtain⟨fa,fc,rfl,-⟩:∃a c,vF=.slice a F.length c/\F.length<=maxLen:=aF hF;have hN1:F∈S.ks->∃i:Nat,gN S.ks F=i/\i<S.ks.length/\(S.ks.map pI)[i]?=some (pI F):=fun h=>⟨_,rfl,Yz h,by rw[List.getElem?_map,Y4 (Yz h)];rfl⟩
 have Jk:=aiQ (ks:=S.ks) (F:=F);have Sr:=agP hnd;generalize htx:pI F=t at q1 hN1 Jk;have HTX:Hid (pI F=t):=htx;clear htx;go_enter func17,ntmps17;go_upto_region 2 with (go_at_call 28;refine q1.mono ?_;rintro e w1⟨rfl,hb1⟩)
 clear q1;have hs1:=hb1.size;have wL:aj w1 f _ 64:=(hb1.block _ kF.lt).trans kF;have hm1:=hm.move (hb1.block _ hm.lt);have d5:w1.cell? ⟨f,5,none⟩=some (.map (some mb)):=wL.cell 5;have d6:w1.cell? ⟨f,6,none⟩=some (.slice ka S.ks.length kc):=wL.cell 6
 by_cases hin:F∈S.ks
 ·obtain⟨i,hi1,hi2,hi3⟩:=hN1 hin
  have hlk:=hm1.hit Sr hi3;have HI:Hid (gN S.ks F=i):=hi1;have HA:Hid (uG S.ks F=S.ks):=if_pos (by rw[hi1];exact hi2);clear hN1 Jk Sr hi1 hi3 hin d6;go_wp2_with fail;go_ret;exact⟨by rw[HI.out];rfl,by rw[HA.out];exact nD.below ⟨_,kF,hm,hk,hE,Ng,hBm,pF⟩ hb1,kU.below hb1,hs1⟩
 ·have hlk:=hm1.miss (fun h=>hin (Jk.1 h))
  obtain⟨w2,hup,hm2,hg2,hz2⟩:=hm1.put (fun h=>hin (Jk.1 h));have HI:Hid (gN S.ks F=S.ks.length):=XI hin;have HA:Hid (uG S.ks F=S.ks++[F]):=if_neg (by rw[XI hin];omega);rw[List.length_map]at hup;obtain⟨es,clk,hmb,-⟩:=id hm1;have hk2:∀g,g<w1.heap.size->g≠mb->w2.heap[g]?=w1.heap[g]?:=fun g hg hn=>hg2.block g hg (fun e=>hn (by injection e))
  have hfm:f≠mb:=fun e=>by unfold aj at wL;rw[e,hmb]at wL;cases wL
  have Nh:aj w2 f _ 64:=(hk2 f wL.lt hfm).trans wL;have hK2:fD 34 36 wB.heap.size w2 (.slice ka S.ks.length kc) S.ks:=(hk.below hb1).but (fun e z u n xs _ h=>Gm h hmb) hk2;have hE2:aJ 38 3 nP wB.heap.size w2 ve S.es:=En (hE.below hb1) (Gm (hE.below hb1) hmb) hk2;have hF2:aJ 36 2 dI wB.heap.size w2 (.slice fa F.length fc) F:=En (aJ.below hF hb1) (Gm (aJ.below hF hb1) hmb) hk2;have ake:kU w w2:=(kU.below hb1).trans (kU.but hk2 fun cs h=>by unfold aj at h;rw[hmb]at h;cases h);have akf:Below wB.heap.size wB w2:=pF.trans ((hb1.mono pF.size).trans ⟨hg2.os,hg2.tape,hg2.output,hg2.size,fun b hb=>hk2 b (by have:=pF.size;omega) (by omega)⟩);have d62:w2.cell? ⟨f,6,none⟩=some (.slice ka S.ks.length kc):=Nh.cell 6;have f62:w2.frozen? ⟨f,6,none⟩=false:=Nh.frozen 6;obtain⟨xs,hxs,hx2,hx3⟩:=hK2;have hxl:xs.length=S.ks.length:=by rw[<-hxs,List.length_map]
  have wO:Hid (xs.length=S.ks.length):=hxl;have hsB:=pF.size;have hs2:w1.heap.size<=w2.heap.size:=by omega
  clear hN1 Jk Sr hin hg2 hxl hk2 hz2;go_upto_region 6 with fail
  go_wp2_with (at_builtin;go_loud (refine rY Tryz.ajd Tryz.adZ rfl (by decide) KX rfl _ _ rfl wB.heap.size (by simp;omega) _ xs rfl (aJ.below hx2 ((Below.refl _ _).alloc (zL0) _)) ((fa,F.length,fc),F) _ 1 rfl (bC (aj.new _ _ 34)) (by have:=wO.out;unfold maxLen;omega) (by have:=wO.out;omega) ?_;intro v8 w8 mh jR qR Di;have Jl:aj w8 f _ 64:=(Nh.alloc (.cells #[.slice fa F.length fc] 34)).grown qR (fun e=>own_ne (aJ.below hx2 ((Below.refl _ _).alloc (zL0) (.cells #[.slice fa F.length fc] 34))) (Nh.alloc _) (by decide) f e.symm rfl);have d68:w8.cell? ⟨f,6,none⟩=some (.slice ka S.ks.length kc):=Jl.cell 6;have f68:w8.frozen? ⟨f,6,none⟩=false:=Jl.frozen 6;obtain⟨ya,yc,hy8,-⟩:=aF mh;rw[List.length_append,List.length_singleton]at hy8;subst hy8))
  go_ret;have oA:=aJ.below hx2 ((Below.refl _ w2).alloc (zL0) (.cells #[.slice fa F.length fc] 34));have wP:fD 34 36 wB.heap.size w8 (.slice ya (xs.length+1) yc) (S.ks++[F]):=by
   rw[<-hxs];exact fD.push (x:=((fa,F.length,fc),F)) oA (fun y hy=>aJ.below (hx3 y hy) ((Below.refl _ _).alloc (zL0) _)) (aJ.below hF2 ((Below.refl _ _).alloc (zL0) _)) (by decide) qR mh
  have Nf:aJ 38 3 nP wB.heap.size w8 ve S.es:=BH (aJ.below hE2 ((Below.refl _ w2).alloc (zL0) (.cells #[.slice fa F.length fc] 34))) oA (by decide) qR;have Bj:=hm2.move (w':=w2.alloc (.cells #[.slice fa F.length fc] 34)) (Below.heap_alloc _ _ _ hm2.lt);have hm8:lJ w8 mb ((S.ks++[F]).map pI):=by
   rw[List.map_append,List.map_singleton,HTX.out];obtain⟨es2,QL,GL,-⟩:=id Bj;exact Bj.move (qR.block mb Bj.lt (fun e=>Gm oA GL mb e.symm rfl))
  have akg:kU w w8:=ake.trans ((kU.below ((Below.refl _ w2).alloc (zL0) (.cells #[.slice fa F.length fc] 34))).trans fun g cs hg=>(qR.block g hg.lt (fun e=>own_ne oA hg (by decide) g e.symm rfl)).trans hg);have akh:Below wB.heap.size wB w8:=akf.trans (((Below.refl _ w2).alloc (by omega) _).trans jR);exact⟨by rw[HI.out];rfl,by rw[HA.out];exact nD.put Jl hm8 wP Nf Ng hBm akh,akg.trans (kU.but (b:=f) (fun g _ hn=>zS0 hn) (fun cs h=>by unfold aj at h Jl;rw[Jl]at h;cases h)),by have:=jR.size;simp at this|-;omega⟩
namespace Lx
theorem Y8{n:Nat}:∀{T D:List (Nat×av)},(∀m∈T,m.1=n)->(∀m,D.head?=some m->m.1≠n)->(T++D).takeWhile (fun m=>decide (m.1=n))=T/\(T++D).dropWhile (fun m=>decide (m.1=n))=D
 | [],[],_,_=>⟨rfl,rfl⟩
 | [],d::D,_,h2=>by
  have:=h2 d rfl;simp[this]
 |t::T,D,h1,h2=>by
  obtain⟨e1,e2⟩:=Y8 (T:=T) (D:=D) (fun m hm=>h1 m (List.mem_cons_of_mem _ hm)) h2;have h3:=h1 t List.mem_cons_self;simp only[List.cons_append];rw[List.takeWhile_cons,List.dropWhile_cons];simp only[h3,decide_true,if_true];rw[e1,e2];exact⟨rfl,rfl⟩
theorem rE.step{i:Nat}{M:List (Nat×av)}{j q n:Nat}{S R:bK}(hjq:j<q)(hq:q<=M.length)(ha:∀m∈(M.drop j).take (q-j),m.1=n)(hd:∀m,M[q]?=some m->m.1≠n)(h:rE i (M.drop q) (Gx i S n (((M.drop j).take (q-j)).map Prod.snd)) R):rE i (M.drop j) S R:=by
 have e:M.drop j=(M.drop j).take (q-j)++M.drop q:=by
  have:=List.take_append_drop (q-j) (M.drop j);rw[List.drop_drop,show j+(q-j)=q by omega]at this;exact this.symm
 cases hT:(M.drop j).take (q-j) with
 |nil=>
  have:=congrArg List.length hT;simp only[List.length_take,List.length_drop,List.length_nil]at this;omega
 |cons t T=>
  rw[hT]at e ha h;have h3:=ha t List.mem_cons_self;obtain⟨e1,e2⟩:=Y8 (n:=n) (T:=T) (D:=M.drop q) (fun m hm=>ha m (List.mem_cons_of_mem _ hm)) (fun m hm=>hd m (by rw[List.head?_drop]at hm;exact hm));obtain⟨t1,t2⟩:=t;simp only at h3;subst h3;rw[e];simp only[List.cons_append];refine .aI ?_;rw[e1,e2];exact h
theorem ah2{i n:Nat}{S:bK}{F:List av}:Gx i S n F=⟨uG S.ks F,S.es++[(i,n,gN S.ks F)]⟩:=by
 unfold Gx uG
 by_cases h:gN S.ks F<S.ks.length
 ·rw[if_pos h,if_pos h]
 ·rw[if_neg h,if_neg h]
  have:gN S.ks F<=S.ks.length:=List.findIdx_le_length;have e:gN S.ks F=S.ks.length:=by omega
  rw[e]
theorem afI{ks:List (List av)}{F:List av}(h:ks.Nodup):(uG ks F).Nodup:=by
 unfold uG
 split
 ·exact h
 ·rename_i hx
  rw[List.nodup_append];refine⟨h,by simp,fun a ha b hb e=>?_⟩;rw[List.mem_singleton]at hb;subst hb;exact Y5 hx (e▸ha)
theorem ah3{ks:List (List av)}{F:List av}:(uG ks F).length<=ks.length+1:=by
 unfold uG
 split
 ·omega
 ·simp
end Lx
theorem nD.aki{wB w:World}{f mb:Nat}{vT vN vP vB vQ vk ve ve':Value}{ks:List (List av)}{es:List CU}(kF:aj w f #[vT,vN,vP,vB,vQ,.map (some mb),vk,ve] 64)(hm:lJ w mb (ks.map pI))(hK:fD 34 36 wB.heap.size w vk ks)(hE:aJ 38 3 nP wB.heap.size w ve' es)(h1:wB.heap.size<=f)(h2:wB.heap.size<=mb)(hb:Below wB.heap.size wB w):nD wB (w.setCell ⟨f,7,none⟩ ve') f mb vT vN vP vB vQ ve' ⟨ks,es⟩:=by
 have hk:∀g,g<w.heap.size->g≠f->(w.setCell ⟨f,7,none⟩ ve').heap[g]?=w.heap[g]?:=fun g _ hn=>zS0 hn
 have sZ:mb≠f:=fun e=>by
  obtain⟨es2,QL,hmb,-⟩:=hm;unfold aj at kF;rw[e,kF]at hmb;cases hmb
 refine⟨vk,kF.set 7 _,hm.move (hk mb hm.lt sZ),hK.but (fun e z u n xs he h=>own_ne h kF (by rcases he with rfl | rfl <;> decide)) hk,En hE (own_ne hE kF (by decide)) hk,h1,h2,hb.setCell (p:=⟨f,7,none⟩) h1 _⟩
end Go.Proofs.YtjaalkocdbkdeaaGreatDoor
