import Derived.Test.YtjaalkocdbkdeaaGreatDoorSA10
import Derived.MapKept
import Derived.Carry
import Derived.LaidEqlPtr
set_option maxHeartbeats 8000000
set_option maxRecDepth 1000000
namespace Go.Proofs.YtjaalkocdbkdeaaGreatDoor
open Lx Go.Proofs.Tryz
open Go.RowKit Tr
structure ED(P:Program)(kt:TypeId){κ:Type}(K:κ->Value)(G:World->κ->Prop):Prop where
 inj:∀a b,K a=K b->a=b
 check:∀em w a,(Instr.checkKey em 10000 kt (K a)).run P w=.ok () w
 find:∀w a l,G w a->(∀x∈l,∃c,x.key=K c/\G w c)->((Instr.findKey kt (K a) l).run P w=.ok none w/\∀(x:MapEntry),x∈l->x.key≠K a)\/∃(j:Nat)(e:MapEntry),(Instr.findKey kt (K a) l).run P w=.ok (some (j,e.val)) w/\l[j]?=some e/\e.key=K a
 stays:∀w a,(Instr.keyThatStays (K a) (K a)).run P w=.ok (K a) w
def iJ{κ:Type}(K:κ->Value)(G:κ->Prop)(w:World)(B:Nat)(f:κ->Int):Prop :=
 ∃es clock,w.heap[B]?=some (.map es clock)/\(∀(i:Nat)(e:MapEntry),es[i]?=some e->∃a,e.key=K a/\G a/\e.val=.int .i64 (f a))/\(∀(i j:Nat)(e e':MapEntry),es[i]?=some e->es[j]?=some e'->e.key=e'.key->i=j)/\(∀a,f a≠0->∃(i:Nat)(e:MapEntry),es[i]?=some e/\e.key=K a)
section
variable {P:Program} {kt:TypeId} {κ:Type} {K:κ -> Value} {Gw:World -> κ -> Prop} {w:World} {B:Nat} {f:κ -> Int}
theorem iJ.lt{G:κ->Prop}(h:iJ K G w B f):B<w.heap.size:=by
 obtain⟨es,clock,h1,-⟩:=h;exact(Array.getElem?_eq_some_iff.1 h1).1
theorem iJ.move{G:κ->Prop}{w':World}(h:iJ K G w B f)(hb:w'.heap[B]?=w.heap[B]?):iJ K G w' B f:=by
 obtain⟨es,clock,h1,h2⟩:=h;exact⟨es,clock,hb.trans h1,h2⟩
theorem iJ.made(G:κ->Prop)(w:World):iJ K G (w.alloc (.map #[] 0)) w.heap.size (fun _=>0) :=
 ⟨#[],0,heap_alloc_new w _,fun i e h=>by simp at h,fun i j e e' h=>by simp at h,fun a h=>absurd rfl h⟩
theorem iJ.look(hK:ED P kt K Gw){T E:TypeId}(hT:P.underlying T=some (.map kt E))(hz:∀w,(zeroValue E).run P w=.ok (.int .i64 0) w){G:κ->Prop}(hG:∀a,G a->Gw w a)(h:iJ K G w B f){a:κ}(ha:G a):(Instr.lookup T (.map (some B)) (K a) false).run P w=.ok (.int .i64 (f a)) w:=by
 obtain⟨es,clock,h1,h2,h3,h4⟩:=h;have hl:∀x∈es.toList,∃c,x.key=K c/\Gw w c:=by
  intro x hx;obtain⟨i,hi⟩:=List.mem_iff_getElem?.1 hx;obtain⟨c,hc,hg,-⟩:=h2 i x (by rw[<-Array.getElem?_toList];exact hi);exact⟨c,hc,hG _ hg⟩
 rcases hK.find w a es.toList (hG a ha) hl with ⟨hf,hn⟩|⟨j,e,hf,hj,hk⟩
 ·have hz0:f a=0:=by
   apply Decidable.byContradiction;intro hne;obtain⟨i,e,hi,he⟩:=h4 a hne;exact hn e (List.mem_iff_getElem?.2 ⟨i,by rw[Array.getElem?_toList];exact hi⟩) he
  rw[hz0];simp[Instr.lookup,run_underlying hT,MapKept.run_getObj_map h1,hK.check,hf,hz,Result.andThen]
 ·obtain⟨c,hc,-,hv⟩:=h2 j e (by rw[<-Array.getElem?_toList];exact hj)
  have hca:c=a:=hK.inj _ _ (hc.symm.trans hk);subst hca;rw[hv]at hf;simp[Instr.lookup,run_underlying hT,MapKept.run_getObj_map h1,hK.check,hf,Result.andThen]
theorem iJ.put[DecidableEq κ](hK:ED P kt K Gw){T E:TypeId}(hT:P.underlying T=some (.map kt E)){G:κ->Prop}(hG:∀a,G a->Gw w a)(h:iJ K G w B f){a:κ}(ha:G a)(v:Int):∃w',(Instr.mapUpdate T (.map (some B)) (K a) (.int .i64 v)).run P w=.ok () w'/\iJ K G w' B (fun c=>if c=a then v else f c)/\w.grownBy w' (some B)/\w'.heap.size=w.heap.size:=by
 obtain⟨es,clock,h1,h2,h3,h4⟩:=h;have hl:∀x∈es.toList,∃c,x.key=K c/\Gw w c:=by
  intro x hx;obtain⟨i,hi⟩:=List.mem_iff_getElem?.1 hx;obtain⟨c,hc,hg,-⟩:=h2 i x (by rw[<-Array.getElem?_toList];exact hi);exact⟨c,hc,hG _ hg⟩
 have hset:∀o:Obj,w.grownBy { w with heap:=w.heap.setIfInBounds B o } (some B):=fun o=>⟨rfl,rfl,rfl,by simp,fun k _ hk=>(MapKept.heap_set h1).2 k (fun e=>hk (by rw[e]))⟩
 rcases hK.find w a es.toList (hG a ha) hl with ⟨hf,hn⟩|⟨j,e,hf,hj,hk⟩
 ·refine⟨{ w with heap:=w.heap.setIfInBounds B (.map (es.push { key:=K a,val:=.int .i64 v,born:=clock }) (clock+1)) },?_,⟨es.push { key:=K a,val:=.int .i64 v,born:=clock },clock+1,(MapKept.heap_set h1).1,?_,?_,?_⟩,hset _,by simp⟩
  ·simp[Instr.mapUpdate,run_underlying hT,MapKept.run_getObj_map h1,hK.check,hf,MapKept.run_setObj_map _ h1,Result.andThen]
  ·intro i e hi
   rw[Array.getElem?_push]at hi
   split at hi
   ·cases hi;exact⟨a,rfl,ha,by simp⟩
   ·obtain⟨c,hc,hg,hv⟩:=h2 i e hi
    have hne:c≠a:=fun e'=>hn e (List.mem_iff_getElem?.2 ⟨i,by rw[Array.getElem?_toList];exact hi⟩) (by rw[hc,e'])
    exact⟨c,hc,hg,by simp only[if_neg hne];exact hv⟩
  ·intro i i' e e' hi hi' he
   rw[Array.getElem?_push]at hi hi'
   split at hi <;> split at hi'
   ·omega
   ·cases hi
    exact absurd he.symm (hn e' (List.mem_iff_getElem?.2 ⟨i',by rw[Array.getElem?_toList];exact hi'⟩))
   ·cases hi'
    exact absurd he (hn e (List.mem_iff_getElem?.2 ⟨i,by rw[Array.getElem?_toList];exact hi⟩))
   ·exact h3 i i' e e' hi hi' he
  ·intro c hc
   by_cases hca:c=a
   ·subst hca
    exact⟨es.size,_,by rw[Array.getElem?_push,if_pos rfl],rfl⟩
   ·simp only[if_neg hca]at hc
    obtain⟨i,e,hi,he⟩:=h4 c hc;refine⟨i,e,?_,he⟩;have hlt:=(Array.getElem?_eq_some_iff.1 hi).1;rw[Array.getElem?_push,if_neg (by omega)];exact hi
 ·have hj':es[j]?=some e:=by rw[<-Array.getElem?_toList];exact hj
  refine⟨{ w with heap:=w.heap.setIfInBounds B (.map (es.modify j fun e=>{ e with key:=K a,val:=.int .i64 v }) clock) },?_,⟨es.modify j fun e=>{ e with key:=K a,val:=.int .i64 v },clock,(MapKept.heap_set h1).1,?_,?_,?_⟩,hset _,by simp⟩
  ·simp[Instr.mapUpdate,run_underlying hT,MapKept.run_getObj_map h1,hK.check,hf,hj',hk,hK.stays,MapKept.run_setObj_map _ h1,Result.andThen]
  ·intro i x hi
   rw[Array.getElem?_modify]at hi
   split at hi
   ·rename_i hji
    subst hji;rw[hj']at hi;cases hi;exact⟨a,rfl,ha,by simp⟩
   ·rename_i hji
    obtain⟨c,hc,hg,hv⟩:=h2 i x hi;have hne:c≠a:=fun e'=>hji (h3 j i e x hj' hi (by rw[hk,hc,e']))
    exact⟨c,hc,hg,by simp only[if_neg hne];exact hv⟩
  ·intro i i' x x' hi hi' he
   have hkey:∀(i:Nat)(x:MapEntry),(es.modify j fun e=>{ e with key:=K a,val:=.int .i64 v })[i]?=some x->∃y,es[i]?=some y/\y.key=x.key:=by
    intro i x hi;rw[Array.getElem?_modify]at hi
    split at hi
    ·rename_i hji
     subst hji;rw[hj']at hi;cases hi;exact⟨e,hj',hk⟩
    ·exact⟨x,hi,rfl⟩
   obtain⟨y,hy,ky⟩:=hkey i x hi;obtain⟨y',hy',ky'⟩:=hkey i' x' hi';exact h3 i i' y y' hy hy' (by rw[ky,ky',he])
  ·intro c hc
   by_cases hca:c=a
   ·subst hca
    exact⟨j,_,by rw[Array.getElem?_modify,if_pos rfl,hj'];rfl,rfl⟩
   ·simp only[if_neg hca]at hc
    obtain⟨i,x,hi,he⟩:=h4 c hc;refine⟨i,x,?_,he⟩;have hji:j≠i:=fun e'=>hca (hK.inj _ _ (by rw[<-he,<-hk];subst e';rw[hj']at hi;cases hi;rfl))
    rw[Array.getElem?_modify,if_neg hji];exact hi
end
theorem air{P:Program}{kt:TypeId}(hk:P.underlying kt=some .string):ED P kt Value.string (fun _ _=>True) where
 inj a b h:=by cases h;rfl
 check em w a:=MapKept.run_checkKey (d:=.string) (k:=.string a) hk trivial em 9999
 find w a l _ hl:=by
  have hkeys:∀x∈l,MapKept.IsKey .string x.key:=fun x hx=>by obtain⟨c,hc,-⟩:=hl x hx;rw[hc];trivial
  rcases MapKept.findNow_spec (d:=.string) (k:=.string a) trivial l 0 hkeys with ⟨h1,h2⟩|⟨j,e,h1,h2,h3⟩
  ·exact .inl ⟨MapKept.run_findKey hk h1,h2⟩
  ·rw[Nat.zero_add]at h1
   exact .inr ⟨j,e,MapKept.run_findKey hk h1,h2,h3⟩
 stays w a:=MapKept.run_keyThatStays (d:=.string) (k:=.string a) trivial
def SMap(w:World)(B:Nat)(f:ByteArray->Int):Prop:=iJ Value.string (fun _=>True) w B f
theorem Tryz.Ap:ED prog 9 Value.string (fun _ _=>True):=air (by kernel_rfl)
theorem Tryz.Gz:prog.underlying 62=some (.map 9 3):=by kernel_rfl
theorem Tryz.Zl(w:World):(zeroValue 3).run prog w=.ok (.int .i64 0) w:=by kernel_rfl
theorem SMap.look{w:World}{B:Nat}{f:ByteArray->Int}(h:SMap w B f)(b:ByteArray):(Instr.lookup 62 (.map (some B)) (.string b) false).run prog w=.ok (.int .i64 (f b)) w:=iJ.look Tryz.Ap Tryz.Gz Tryz.Zl (fun _ _=>trivial) h trivial
theorem SMap.put{w:World}{B:Nat}{f:ByteArray->Int}(h:SMap w B f)(b:ByteArray)(v:Int):∃w',(Instr.mapUpdate 62 (.map (some B)) (.string b) (.int .i64 v)).run prog w=.ok () w'/\SMap w' B (fun c=>if c=b then v else f c)/\w.grownBy w' (some B)/\w'.heap.size=w.heap.size:=iJ.put Tryz.Ap Tryz.Gz (fun _ _=>trivial) h trivial v
def tK(x:Lx.Wd):List Value:=[.int .i64 (x.1:Int),.string x.2.1,.int .i64 (x.2.2:Int)]
def WR(w:World)(v:Value)(ws:List Lx.Wd):Prop:=w.ownsRow 0 119 3 v ws.length (ws.flatMap tK)
theorem WR.len{w:World}{v:Value}{ws:List Lx.Wd}(h:WR w v ws):∃a c,v=.slice a ws.length c/\ws.length<=maxLen:=aF h
theorem YT:∀(ws:List Lx.Wd)(j i:Nat)(x:Lx.Wd),ws[j]?=some x->i<3->(ws.flatMap tK)[j*3+i]?=(tK x)[i]?
 | [],_,_,_,h,_=>by simp at h
 |p::ps,0,i,x,h,hi=>by
  simp at h;subst h;rw[List.flatMap_cons,Nat.zero_mul,Nat.zero_add,List.getElem?_append_left (by simp[tK];exact hi)]
 |p::ps,j+1,i,x,h,hi=>by
  have h':ps[j]?=some x:=by simpa using h
  rw[List.flatMap_cons,List.getElem?_append_right (by simp[tK,Nat.succ_mul];omega),show (tK p).length=3 from rfl,show (j+1)*3+i-3=j*3+i by omega];exact YT ps j i x h' hi
theorem WR.at{w:World}{v:Value}{ws:List Lx.Wd}(h:WR w v ws){j:Nat}(hj:j<ws.length):∃g cap,v=.slice (some ⟨g,0,none⟩) ws.length cap/\g<w.heap.size/\w.cell? ⟨g,j*3,none⟩=some (.int .i64 (ws[j].1:Int))/\w.cell? ⟨g,j*3+1,none⟩=some (.string ws[j].2.1)/\w.cell? ⟨g,j*3+2,none⟩=some (.int .i64 (ws[j].2.2:Int)):=by
 unfold WR at h;obtain⟨g,cap,rfl,-,-⟩:=h.form (by omega);have hq:ws[j]?=some ws[j]:=List.getElem?_eq_getElem hj;have hc:∀i,i<3->w.cell? ⟨g,j*3+i,none⟩=(tK ws[j])[i]?:=fun i hi=>by
  rw[h.cellAt (j*3+i) (by omega),YT ws j i _ hq hi]
 exact⟨g,cap,rfl,(h.lt g rfl).2,hc 0 (by decide),hc 1 (by decide),hc 2 (by decide)⟩
theorem WR.move{w w':World}{v:Value}{ws:List Lx.Wd}(h:WR w v ws)(hb:∀g,v.ownBlock=some g->w'.heap[g]?=w.heap[g]?):WR w' v ws:=aC h hb
theorem WR.below{w w':World}{v:Value}{ws:List Lx.Wd}(h:WR w v ws)(hb:Below w.heap.size w w'):WR w' v ws:=aC h fun g hg=>hb.block g (h.lt g hg).2
def vZ:Option Nat->Int
 |none=>-1
 |some p=>p
namespace Lx
def Ad(s:List ByteArray)(b:ByteArray):Int:=if iH b s=true then 1 else 0
theorem Ug{x:Wd}{ws:List Wd}(h:¬(x.1=0\/x.1=1)):told (x::ws)=told ws:=by unfold told;rw[List.filter_cons,if_neg (by simpa using h)]
theorem Wt{x:Wd}{ws:List Wd}(h:x.1=0\/x.1=1):told (x::ws)=x::told ws:=by unfold told;rw[List.filter_cons,if_pos (by simpa using h)]
theorem agq(s:List ByteArray)(b:ByteArray):(fun c=>if c=b then (1:Int) else Ad s c)=Ad (b::s):=by
 funext c;unfold Ad iH
 by_cases h:c=b
 ·subst h;simp
 ·rw[if_neg h]
  have:decide (b=c)=false:=by simpa using fun e=>h e.symm
  rw[List.any_cons,this,Bool.false_or]
end Lx
theorem afh{w:World}{v:Value}{ws:List Lx.Wd}(h:WR w v ws):
  Calls prog 40 #[v] w fun e w'=>e=.returned (.int .i64 (vZ (bQ [] (Lx.told ws))))/\Below w.heap.size w w':=by
 obtain⟨a,c,rfl,hm⟩:=h.len;unfold maxLen at hm;have hmm:=@run_makeMap prog;go_enter func40,ntmps40;go_wp2_with fail;clear hmm;obtain⟨W,hW⟩:∃W,W=w.alloc (.map #[] 0):=⟨_,rfl⟩;rw[<-hW];have hWs:W.heap.size=w.heap.size+1:=by rw[hW];simp
 have hB:Below w.heap.size w W:=by rw[hW];exact(Below.refl _ _).alloc (zL0) _
 have hM:SMap W w.heap.size (Ad []):=by rw[hW];exact iJ.made _ w
 clear hW;have H0:Hid (bQ [] (Lx.told ws)=bQ [] (Lx.told (ws.drop 0))):=rfl
 go_loopg [9] ws.length (fun k i wr=>∃(j:Nat)(s:List ByteArray),j+k=ws.length/\i=.int .i64 j/\Below w.heap.size w wr/\SMap wr w.heap.size (Ad s)/\Hid (bQ [] (Lx.told ws)=bQ s (Lx.told (ws.drop j))))
 case atStart=>exact⟨0,[],by omega,rfl,hB,hM,H0⟩
 case round=>
  clear H0 hM;obtain⟨j,s,hk,rfl,hbr,hM,HD⟩:=hrel;have hsr:=hM.lt
  by_cases hlt:j<ws.length
  ·have hwr:WR wr _ ws:=h.below hbr
   obtain⟨g,cap,hv,lg,c0,c1,c2⟩:=hwr.at hlt;cases hv;have hd:=HD.out;rw[List.drop_eq_getElem_cons hlt]at hd;have lgw:g<w.heap.size:=(h.lt g rfl).2;generalize ws[j]=x at c0 c1 c2 hd;obtain⟨ro,tx,at_⟩:=x;obtain⟨W1,hW1⟩:∃W1,W1=wr.alloc (.cells #[.int .i64 (ro:Int),.string tx,.int .i64 (at_:Int)] 119):=⟨_,rfl⟩;have hb1:Below wr.heap.size wr W1:=by rw[hW1];exact(Below.refl _ _).alloc (zL0) _
   have hs1:W1.heap.size=wr.heap.size+1:=by rw[hW1];simp
   have kx:aj W1 wr.heap.size #[.int .i64 (ro:Int),.string tx,.int .i64 (at_:Int)] 119:=by rw[hW1];exact aj.new wr _ 119
   have hM1:SMap W1 w.heap.size (Ad s):=hM.move (hb1.block _ hsr);have fM:Below w.heap.size w W1:=hbr.trans (hb1.mono (by omega))
   by_cases hro:ro=0\/ro=1
   ·rw[Wt hro,bQ]at hd
    have hl1:=hM1.look tx;have hx2:∀{w2:World},W1.grownBy w2 (some w.heap.size)->aj w2 wr.heap.size #[.int .i64 (ro:Int),.string tx,.int .i64 (at_:Int)] 119:=fun hg=>kx.grown hg (fun e=>by have:=Option.some.inj e;omega)
    cases hmb:iH tx s with
    |true=>
     rw[if_pos hmb]at hd;have HD2:Hid (bQ [] (Lx.told ws)=some at_):=hd;rw[show Ad s tx=1 from if_pos hmb]at hl1;obtain⟨w2,hu,hM2,hg2,hs2⟩:=hM1.put tx 2;have hl2:=hM2.look tx;rw[if_pos rfl]at hl2;have iL:=hx2 hg2;have x1:w2.cell? ⟨wr.heap.size,1,none⟩=some (.string tx):=iL.cell 1;have x2:w2.cell? ⟨wr.heap.size,2,none⟩=some (.int .i64 (at_:Int)):=iL.cell 2;have hb2:Below w.heap.size w w2:=fM.grown hg2 (by omega) (fun k hk=>by cases hk;exact zL0);rw[hW1]at hl1 hu;clear hd HD hmb hM1 hM2 hM hx2 kx hb1 hs1 hW1 hg2;rcases hro with hro|hro
     have hq0:((ro:Int) != 0)=false:=by simp[hro]
     clear hro
     rotate_left
     have hq0:((ro:Int) != 0)=true:=bne_iff_ne.2 (by omega);have hq1:((ro:Int) != 1)=false:=by simp[hro]
     clear hro
     all_goals
      go_wp2_with fail;go_ret;exact⟨by rw[HD2.out];rfl,hb2⟩
    |false=>
     rw[if_neg (by rw[hmb];decide)]at hd;have HD2:Hid (bQ [] (Lx.told ws)=bQ (tx::s) (Lx.told (ws.drop (j+1)))):=hd;rw[show Ad s tx=0 from if_neg (by rw[hmb];decide)]at hl1;obtain⟨w2,hu,hM2,hg2,hs2⟩:=hM1.put tx 1;have hl2:=hM2.look tx;rw[if_pos rfl]at hl2;rw[agq]at hM2;have iL:=hx2 hg2;have x1:w2.cell? ⟨wr.heap.size,1,none⟩=some (.string tx):=iL.cell 1;have hb2:Below w.heap.size w w2:=fM.grown hg2 (by omega) (fun k hk=>by cases hk;exact zL0);rw[hW1]at hl1 hu;clear hd HD hmb hM1 hM hx2 kx hb1 hs1 hW1 hg2;rcases hro with hro|hro
     have hq0:((ro:Int) != 0)=false:=by simp[hro]
     clear hro
     rotate_left
     have hq0:((ro:Int) != 0)=true:=bne_iff_ne.2 (by omega);have hq1:((ro:Int) != 1)=false:=by simp[hro]
     clear hro
     all_goals
      go_wp2_with fail;go_roundg (ws.length - (j+1))
      case measure=>omega
      case rel=>exact⟨j+1,tx::s,by omega,by go_num,hb2,hM2,HD2⟩
   ·rw[Ug hro]at hd
    have HD2:Hid _:=hd;have hq0:((ro:Int) != 0)=true:=bne_iff_ne.2 (by omega);have hq1:((ro:Int) != 1)=true:=bne_iff_ne.2 (by omega);have hd0:¬(ro:Int)=0:=by omega
    have hd1:¬(ro:Int)=1:=by omega
    clear hd HD hro;go_wp2_with fail;rw[<-hW1];go_roundg (ws.length - (j+1))
    case measure=>omega
    case rel=>exact⟨j+1,s,by omega,by go_num,fM,hM1,HD2⟩
  ·have:j=ws.length:=by omega
   subst this;have hd:=HD.out;rw[List.drop_length]at hd;have HD2:Hid (bQ [] (Lx.told ws)=none):=hd;clear hd HD;go_wp2_with fail;go_ret;exact⟨by rw[HD2.out];rfl,hbr⟩
namespace Lx
def Lp(l:List ByteArray)(b:ByteArray):Nat:=l.countP fun x=>decide (x=b)
def cntF(l:List ByteArray)(b:ByteArray):Int:=(Lp l b:Int)
theorem ais(l:List ByteArray)(b:ByteArray):Lp l b<=l.length:=List.countP_le_length
theorem ahr(l:List ByteArray)(b:ByteArray):(fun c=>if c=b then cntF l b+1 else cntF l c)=cntF (l++[b]):=by
 funext c;unfold cntF Lp;rw[List.countP_append]
 by_cases h:c=b
 ·subst h;simp
 ·have:(fun x=>decide (x=c)) b=false:=by simpa using fun e=>h e.symm
  rw[if_neg h];simp[this]
theorem Wu{l:List ByteArray}{b:ByteArray}:cntF l b=0↔iH b l=false:=by
 unfold cntF Lp iH;rw[List.any_eq_false];constructor
 ·intro h x hx
  have h0:List.countP (fun x=>decide (x=b)) l=0:=by omega
  intro e;have hp:0<List.countP (fun x=>decide (x=b)) l:=List.countP_pos_iff.2 ⟨x,hx,e⟩;omega
 ·intro h
  have:List.countP (fun x=>decide (x=b)) l=0:=List.countP_eq_zero.2 fun x hx=>h x hx
  omega
theorem Uh(w:Wd)(ws:List Wd):eP (w::ws)=w.2.1::eP ws:=rfl
end Lx
theorem aea{w:World}{v:Value}{ws:List Lx.Wd}(h:WR w v ws):
  Calls prog 41 #[v] w fun e w'=>e=.returned (.int .i64 (vZ (oo (eP (Lx.told ws)) ws)))/\Below w.heap.size w w':=by
 obtain⟨a,c,rfl,hm⟩:=h.len;unfold maxLen at hm;have hmm:=@run_makeMap prog;go_enter func41,ntmps41;go_wp2_with fail;clear hmm;obtain⟨W,hW⟩:∃W,W=w.alloc (.map #[] 0):=⟨_,rfl⟩;rw[<-hW];have hWs:W.heap.size=w.heap.size+1:=by rw[hW];simp
 have hB:Below w.heap.size w W:=by rw[hW];exact(Below.refl _ _).alloc (zL0) _
 have hM:SMap W w.heap.size (Lx.cntF []):=by rw[hW];exact iJ.made _ w
 clear hW;have H0:Hid (eP (Lx.told ws)=[]++eP (Lx.told (ws.drop 0))):=rfl
 go_loopg [11] ws.length (fun k i wr=>∃(j:Nat)(s:List ByteArray),j+k=ws.length/\i=.int .i64 j/\Below w.heap.size w wr/\SMap wr w.heap.size (Lx.cntF s)/\s.length<=j/\Hid (eP (Lx.told ws)=s++eP (Lx.told (ws.drop j))))
 case atStart=>exact⟨0,[],by omega,rfl,hB,hM,zL0,H0⟩
 case round=>
  clear H0 hM;obtain⟨j,s,hk,rfl,hbr,hM,hsl,HD⟩:=hrel;have hsr:=hM.lt
  by_cases hlt:j<ws.length
  ·have hwr:WR wr _ ws:=h.below hbr
   obtain⟨g,cap,hv,lg,c0,c1,c2⟩:=hwr.at hlt;cases hv;have hd:=HD.out;rw[List.drop_eq_getElem_cons hlt]at hd;have lgw:g<w.heap.size:=(h.lt g rfl).2;generalize ws[j]=x at c0 c1 c2 hd;obtain⟨ro,tx,at_⟩:=x;obtain⟨W1,hW1⟩:∃W1,W1=wr.alloc (.cells #[.int .i64 (ro:Int),.string tx,.int .i64 (at_:Int)] 119):=⟨_,rfl⟩;have hb1:Below wr.heap.size wr W1:=by rw[hW1];exact(Below.refl _ _).alloc (zL0) _
   have hs1:W1.heap.size=wr.heap.size+1:=by rw[hW1];simp
   have hM1:SMap W1 w.heap.size (Lx.cntF s):=hM.move (hb1.block _ hsr);have fM:Below w.heap.size w W1:=hbr.trans (hb1.mono (by omega))
   by_cases hro:ro=0\/ro=1
   ·rw[Wt hro,Uh]at hd
    have hl1:=hM1.look tx;have hcl:=ais s tx;obtain⟨w2,hu,hM2,hg2,hs2⟩:=hM1.put tx (Lx.cntF s tx+1);rw[ahr]at hM2;have hb2:Below w.heap.size w w2:=fM.grown hg2 (by omega) (fun k hk=>by cases hk;exact zL0);have HD2:Hid (eP (Lx.told ws)=(s++[tx])++eP (Lx.told (ws.drop (j+1)))):=by
     show _=_;rw[hd];simp
    have hsl2:(s++[tx]).length<=j+1:=by simp;omega
    rw[hW1]at hl1 hu;have hc0:0<=Lx.cntF s tx:=by unfold Lx.cntF;omega
    have hc1:Lx.cntF s tx+1<=9223372036854775807:=by unfold Lx.cntF;omega
    generalize Lx.cntF s tx=cn at hl1 hu hc0 hc1;clear hd HD hM1 hM hb1 hs1 hW1 hg2 hcl;rcases hro with hro|hro
    have hq0:((ro:Int) == 0)=true:=by simp[hro]
    clear hro
    rotate_left
    have hq0:((ro:Int) == 0)=false:=zB0 (by omega);have hq1:((ro:Int) == 1)=true:=by simp[hro]
    clear hro
    all_goals
     go_wp2_with fail;go_roundg (ws.length - (j+1))
     case measure=>omega
     case rel=>exact⟨j+1,s++[tx],by omega,by go_num,hb2,hM2,hsl2,HD2⟩
   ·rw[Ug hro]at hd
    have HD2:Hid _:=hd;have hq0:((ro:Int) == 0)=false:=zB0 (by omega);have hq1:((ro:Int) == 1)=false:=zB0 (by omega);have hd0:¬(ro:Int)=0:=by omega
    have hd1:¬(ro:Int)=1:=by omega
    clear hd HD hro;go_wp2_with fail;rw[<-hW1];go_roundg (ws.length - (j+1))
    case measure=>omega
    case rel=>exact⟨j+1,s,by omega,by go_num,fM,hM1,by omega,HD2⟩
  ·have:j=ws.length:=by omega
   subst this;have hd:=HD.out;rw[List.drop_length]at hd;have HD2:Hid (eP (Lx.told ws)=s):=by rw[show eP (Lx.told [])=[] from rfl,List.append_nil]at hd;exact hd
   clear hd HD hk hsl;go_wp2_with fail;obtain⟨wz,hwz⟩:∃wz,wz=wr:=⟨_,rfl⟩;rw[<-hwz]at hbr hM hsr;rw[<-hwz];clear hwz;have H1:Hid (oo s ws=oo s (ws.drop 0)):=rfl
   go_loopg [31] ws.length (fun k i wr=>∃(j:Nat),j+k=ws.length/\i=.int .i64 j/\Below w.heap.size w wr/\SMap wr w.heap.size (Lx.cntF s)/\Hid (oo s ws=oo s (ws.drop j)))
   case atStart=>exact⟨0,by omega,rfl,hbr,hM,H1⟩
   case round=>
    clear H1 hM hbr;obtain⟨j,hk,rfl,hbr,hM,HD⟩:=hrel;have hsr:=hM.lt
    by_cases hlt:j<ws.length
    ·have hwr:WR wr _ ws:=h.below hbr
     obtain⟨g,cap,hv,lg,c0,c1,c2⟩:=hwr.at hlt;cases hv;have hd:=HD.out;rw[List.drop_eq_getElem_cons hlt]at hd;have lgw:g<w.heap.size:=(h.lt g rfl).2;generalize ws[j]=x at c0 c1 c2 hd;obtain⟨ro,tx,at_⟩:=x;obtain⟨W1,hW1⟩:∃W1,W1=wr.alloc (.cells #[.int .i64 (ro:Int),.string tx,.int .i64 (at_:Int)] 119):=⟨_,rfl⟩;have hb1:Below wr.heap.size wr W1:=by rw[hW1];exact(Below.refl _ _).alloc (zL0) _
     have hM1:SMap W1 w.heap.size (Lx.cntF s):=hM.move (hb1.block _ hsr);have fM:Below w.heap.size w W1:=hbr.trans (hb1.mono (by omega));have hl1:=hM1.look tx;rw[hW1]at hl1;rw[oo]at hd
     by_cases hro:ro=2\/ro=4
     ·have hz:(Lx.cntF s tx=0)\/(Lx.cntF s tx≠0):=Decidable.em _
      rcases hz with hz|hz
      ·have hmem:=Wu.1 hz
       rw[if_pos ⟨hro,hmem⟩]at hd;have Ct:Hid (oo s ws=some at_):=hd;rw[hz]at hl1;clear hd HD hz hmem;rcases hro with hro|hro
       have hq0:((ro:Int) == 2)=true:=by simp[hro]
       clear hro
       rotate_left
       have hq0:((ro:Int) == 2)=false:=zB0 (by omega);have hq1:((ro:Int) == 4)=true:=by simp[hro]
       clear hro
       all_goals
        go_wp2_with fail;go_ret;exact⟨by rw[HD2.out,Ct.out];rfl,by rw[<-hW1];exact fM⟩
      ·have hmem:¬iH tx s=false:=fun e=>hz (Wu.2 e)
       rw[if_neg (fun e=>hmem e.2)]at hd;have Ct:Hid (oo s ws=oo s (ws.drop (j+1))):=hd;have hzb:(Lx.cntF s tx == 0)=false:=beq_eq_false_iff_ne.2 hz;clear hd HD hmem;generalize Lx.cntF s tx=cn at hl1 hz hzb;rcases hro with hro|hro
       have hq0:((ro:Int) == 2)=true:=by simp[hro]
       clear hro
       rotate_left
       have hq0:((ro:Int) == 2)=false:=zB0 (by omega);have hq1:((ro:Int) == 4)=true:=by simp[hro]
       clear hro
       all_goals
        go_wp2_with fail;rw[<-hW1];go_roundg (ws.length - (j+1))
        case measure=>omega
        case rel=>exact⟨j+1,by omega,by go_num,fM,hM1,Ct⟩
     ·rw[if_neg (fun e=>hro e.1)]at hd
      have Ct:Hid (oo s ws=oo s (ws.drop (j+1))):=hd;have hq0:((ro:Int) == 2)=false:=zB0 (by omega);have hq1:((ro:Int) == 4)=false:=zB0 (by omega);have hd0:¬(ro:Int)=2:=by omega
      have hd1:¬(ro:Int)=4:=by omega
      clear hd HD hro;go_wp2_with fail;rw[<-hW1];go_roundg (ws.length - (j+1))
      case measure=>omega
      case rel=>exact⟨j+1,by omega,by go_num,fM,hM1,Ct⟩
    ·have:j=ws.length:=by omega
     subst this;have hd:=HD.out;rw[List.drop_length]at hd;have Ct:Hid (oo s ws=none):=hd;clear hd HD;go_wp2_with fail;go_ret;exact⟨by rw[HD2.out,Ct.out];rfl,hbr⟩
namespace Lx
def fl:List Bool->List Wd->Option Nat
 |_,[]=>none
 | [],w::ws=>if w.1=1 then none else fl [] ws
 |b::bs,w::ws=>if w.1=1 then (if b=true then fl bs ws else some w.2.2) else fl (b::bs) ws
def cnt1(ws:List Wd):Nat:=ws.countP fun w=>decide (w.1=1)
theorem Yc{bs:List Bool}{w:Wd}{ws:List Wd}(h:w.1≠1):fl bs (w::ws)=fl bs ws:=by
 cases bs with
 |nil=>rw[fl,if_neg h]
 |cons b bs=>rw[fl,if_neg h]
theorem Yd{b:Bool}{bs:List Bool}{w:Wd}{ws:List Wd}(h:w.1=1):fl (b::bs) (w::ws)=if b=true then fl bs ws else some w.2.2:=by rw[fl,if_pos h]
theorem O5:∀(ws:List Wd)(bs:List Bool),(∀w∈ws,w.1≠1)->∀us,fl bs (ws++us)=fl bs us
 | [],_,_,_=>rfl
 |w::ws,bs,h,us=>by
  rw[List.cons_append,Yc (h w List.mem_cons_self)];exact O5 ws bs (fun x hx=>h x (List.mem_cons_of_mem _ hx)) us
theorem Xp:∀(rs:List Rl)(bs:List Bool),rs.length<=bs.length->fl bs (rs.flatMap fun r=>(1,r.name,r.place)::dw 9 r.alts)=gB rs bs
 | [],bs,_=>by cases bs <;> rfl
 |r::rs,[],h=>by simp at h
 |r::rs,b::bs,h=>by
  rw[List.flatMap_cons,List.cons_append,Yd rfl,gB]
  split
  ·rw[O5 _ _ (fun w hw=>by rcases JR 9 _ w hw with h | h | h <;> omega)]
   exact Xp rs bs (by simpa using h)
  ·rfl
theorem Ye(g:Gr)(bs:List Bool)(h:g.rules.length<=bs.length):fl bs (iE g)=gB g.rules bs:=by
 unfold iE;rw[O5 _ _ (fun w hw=>?_),Xp _ _ h];obtain⟨lv,-,hw⟩:=List.mem_flatMap.1 hw;obtain⟨t,-,rfl⟩:=List.mem_map.1 hw;show (0:Nat)≠1;decide
theorem Vs:∀(rs:List Rl),cnt1 (rs.flatMap fun r=>(1,r.name,r.place)::dw 9 r.alts)=rs.length
 | []=>rfl
 |r::rs=>by
  have h0:cnt1 (dw 9 r.alts)=0:=List.countP_eq_zero.2 fun w hw=>by
   rcases JR 9 _ w hw with h|h|h <;> simp[h]
  have ih:=Vs rs;unfold cnt1 at h0 ih|-;rw[List.flatMap_cons,List.countP_append,ih,List.countP_cons,h0,List.length_cons];simp;omega
theorem Wv(g:Gr):cnt1 (iE g)=g.rules.length:=by
 have h0:cnt1 (g.levels.flatMap fun lv=>lv.tokens.map fun t=>(0,t.1,t.2))=0:=List.countP_eq_zero.2 fun w hw=>by
  obtain⟨lv,-,hw⟩:=List.mem_flatMap.1 hw;obtain⟨t,-,rfl⟩:=List.mem_map.1 hw;simp
 have h1:=Vs g.rules;unfold iE;unfold cnt1 at h0 h1|-;rw[List.countP_append,h0,h1,Nat.zero_add]
end Lx
theorem TB{w:World}{v:Value}{ws:List Lx.Wd}(h:WR w v ws){o:Nat}{bs:List Bool}{n:Nat}(hB:aj w o (bF bs) 4)(hn:bs.length=n)(hc:Lx.cnt1 ws<=n):
  Calls prog 43 #[.slice (some ⟨o,0,none⟩) n n,v] w fun e w'=>e=.returned (.int .i64 (vZ (Lx.fl bs ws)))/\Below w.heap.size w w':=by
 obtain⟨a,c,rfl,hm⟩:=h.len;unfold maxLen at hm;have HN:Hid (bs.length=n):=hn;clear hn;have hcl:Lx.cnt1 ws<=ws.length:=List.countP_le_length;go_enter func43,ntmps43;go_wp2_with fail;have H0:Hid (Lx.fl bs ws=Lx.fl (bs.drop 0) (ws.drop 0)):=rfl;have hc0:0+Lx.cnt1 (ws.drop 0)<=n:=by rw[List.drop_zero,Nat.zero_add];exact hc
 go_loopg [5,10] ws.length (fun k rv i wr=>∃(j r:Nat),j+k=ws.length/\i=.int .i64 j/\rv=.int .i64 r/\Below w.heap.size w wr/\r+Lx.cnt1 (ws.drop j)<=n/\r<=j/\Hid (Lx.fl bs ws=Lx.fl (bs.drop r) (ws.drop j)))
 case atStart=>exact⟨0,0,by omega,rfl,rfl,Below.refl _ _,hc0,zL0,H0⟩
 case round=>
  clear H0 hc0;obtain⟨j,r,hk,rfl,rfl,hbr,hcr,hrj,HD⟩:=hrel;have hsr:=hbr.size
  by_cases hlt:j<ws.length
  ·have hwr:WR wr _ ws:=h.below hbr
   obtain⟨g,cap,hv,lg,c0,c1,c2⟩:=hwr.at hlt;cases hv;have hd:=HD.out;rw[List.drop_eq_getElem_cons hlt]at hd hcr;generalize ws[j]=x at c0 c1 c2 hd hcr;obtain⟨ro,tx,at_⟩:=x;have hb1:Below wr.heap.size wr (wr.alloc (.cells #[.int .i64 (ro:Int),.string tx,.int .i64 (at_:Int)] 119)):=(Below.refl _ _).alloc (zL0) _;have fM:=hbr.trans (hb1.mono hsr)
   by_cases hro:ro=1
   ·have ZK:r+(Lx.cnt1 (ws.drop (j+1))+1)<=n:=by unfold Lx.cnt1 at hcr|-;rw[List.countP_cons]at hcr;simpa [hro]using hcr
    have hrl:r<bs.length:=by have:=HN.out;omega
    have o1:wr.cell? ⟨o,r,none⟩=some (.bool (aS bs r)):=(World.cell?_of_block (w:=w) (hbr.block o hB.lt)).trans ((hB.cell r).trans (qx bs hrl));have eb:aS bs r=bs[r]:=by simp[aS,hrl]
    rw[List.drop_eq_getElem_cons hrl,Yd hro,<-eb]at hd;have hq:((ro:Int) != 1)=false:=by simp[hro]
    have lo:=hB.lt;have lor:o<wr.heap.size:=by omega
    have hrn:r<n:=by omega
    clear hro hcr hrl eb HD;cases hb:aS bs r with
    |true=>
     rw[hb,if_pos rfl]at hd;rw[hb]at o1;have HD2:Hid _:=hd;clear hd hb;go_wp2_with fail;go_roundg (ws.length - (j+1))
     case measure=>omega
     case rel=>exact⟨j+1,r+1,by omega,by go_num,by go_num,fM,by omega,by omega,HD2⟩
    |false=>
     rw[hb,if_neg (by decide)]at hd;rw[hb]at o1;have HD2:Hid (Lx.fl bs ws=some at_):=hd;clear hd hb;go_wp2_with fail;go_ret;exact⟨by rw[HD2.out];rfl,fM⟩
   ·rw[Yc hro]at hd
    have ZK:r+Lx.cnt1 (ws.drop (j+1))<=n:=by unfold Lx.cnt1 at hcr|-;rw[List.countP_cons]at hcr;simpa [hro]using hcr
    have hq:((ro:Int) != 1)=true:=bne_iff_ne.2 (by omega);have hqd:¬(ro:Int)=1:=by omega
    have HD2:Hid _:=hd;clear hd HD hro hcr;go_wp2_with fail;go_roundg (ws.length - (j+1))
    case measure=>omega
    case rel=>exact⟨j+1,r,by omega,by go_num,rfl,fM,ZK,by omega,HD2⟩
  ·have:j=ws.length:=by omega
   subst this;have hd:=HD.out;rw[List.drop_length]at hd;have HD2:Hid (Lx.fl bs ws=none):=by rw[hd];cases bs.drop r <;> rfl
   clear hd HD;go_wp2_with fail;go_ret;exact⟨by rw[HD2.out];rfl,hbr⟩
structure mo(F:Nat->Prop)(w:World)(vR:Value)(rs:List Lx.Rl):Prop where
 lt:∀b,F b->b<w.heap.size
 rl:Tr.Seq F w 179 2 cR (fun va r=>ay YP 9 F w va r.alts) vR rs
theorem mo.move{F:Nat->Prop}{w w':World}{vR:Value}{rs:List Lx.Rl}(h:mo F w vR rs)(hs:∀b,F b->w'.heap[b]?=w.heap[b]?)(hl:w.heap.size<=w'.heap.size):mo F w' vR rs :=
 ⟨fun b hb=>Nat.lt_of_lt_of_le (h.lt b hb) hl,Seq.move h.rl hs (fun _ h=>h) fun _ _ ha=>ay.move hs (fun _ h=>h) ha⟩
theorem mo.below{F:Nat->Prop}{w w':World}{vR:Value}{rs:List Lx.Rl}(h:mo F w vR rs)(hb:Below w.heap.size w w'):mo F w' vR rs:=h.move (fun b hF=>hb.block b (h.lt b hF)) hb.size
theorem mo.len{F:Nat->Prop}{w:World}{vR:Value}{rs:List Lx.Rl}(h:mo F w vR rs):∃a c,vR=.slice a rs.length c/\rs.length<=maxLen:=Seq.len h.rl
theorem mo.at{F:Nat->Prop}{w:World}{vR:Value}{rs:List Lx.Rl}(h:mo F w vR rs){j:Nat}(hj:j<rs.length):∃b cap va,vR=.slice (some ⟨b,0,none⟩) rs.length cap/\F b/\ay YP 9 F w va rs[j].alts/\w.cell? ⟨b,j*2,none⟩=some (.string rs[j].name)/\w.cell? ⟨b,j*2+1,none⟩=some va:=by
 obtain⟨b,cap,va,h1,h2,h3,h4⟩:=Seq.at h.rl (fun _=>rfl) hj;exact⟨b,cap,va,h1,h2,h3,h4 0 (by decide),h4 1 (by decide)⟩
theorem aeb{F:Nat->Prop}{w:World}{vR:Value}{rs:List Lx.Rl}(h:mo F w vR rs):
  Calls prog 42 #[vR] w fun e w'=>∃B f,e=.returned (.map (some B))/\w.heap.size<=B/\SMap w' B f/\(∀i(hi:i<rs.length),(∀k(hk:k<rs.length),i<k->rs[k].name≠rs[i].name)->f rs[i].name=(i:Int))/\Below w.heap.size w w':=by
 obtain⟨a,c,rfl,hm⟩:=h.len;unfold maxLen at hm;have hmm:=@run_makeMap prog;go_enter func42,ntmps42;go_wp2_with fail;clear hmm;obtain⟨W,hW⟩:∃W,W=w.alloc (.map #[] 0):=⟨_,rfl⟩;rw[<-hW];have hWs:W.heap.size=w.heap.size+1:=by rw[hW];simp
 have hB:Below w.heap.size w W:=by rw[hW];exact(Below.refl _ _).alloc (zL0) _
 have hM:SMap W w.heap.size (fun _=>0):=by rw[hW];exact iJ.made _ w
 clear hW
 go_loopg [9] rs.length (fun k i wr=>∃(j:Nat)(f:ByteArray->Int),j+k=rs.length/\i=.int .i64 j/\Below w.heap.size w wr/\SMap wr w.heap.size f/\Hid (∀i(hi:i<rs.length),i<j->(∀k(hk:k<rs.length),i<k->k<j->rs[k].name≠rs[i].name)->f rs[i].name=(i:Int)))
 case atStart=>exact⟨0,_,by omega,rfl,hB,hM,fun i hi h=>by omega⟩
 case round=>
  clear hM;obtain⟨j,f,hk,rfl,hbr,hM,HF⟩:=hrel;have hsr:=hM.lt
  by_cases hlt:j<rs.length
  ·obtain⟨gb,cap,va,hv,hFg,-,c0,c1⟩:=(h.below hbr).at hlt
   cases hv;obtain⟨nm,hnm⟩:∃nm,nm=rs[j].name:=⟨_,rfl⟩;rw[<-hnm]at c0;obtain⟨W1,hW1⟩:∃W1,W1=wr.alloc (.cells #[.string nm,va] 179):=⟨_,rfl⟩;have hb1:Below wr.heap.size wr W1:=by rw[hW1];exact(Below.refl _ _).alloc (zL0) _
   have hM1:SMap W1 w.heap.size f:=hM.move (hb1.block _ hsr);have hs1:W1.heap.size=wr.heap.size+1:=by rw[hW1];simp
   obtain⟨w2,hu,hM2,hg2,hs2⟩:=hM1.put nm (j:Int);have hb2:Below w.heap.size w w2:=(hbr.trans (hb1.mono (by omega))).grown hg2 (by omega) (fun k hk=>by cases hk;exact zL0);have zi:Hid (∀i(hi:i<rs.length),i<j+1->(∀k(hk:k<rs.length),i<k->k<j+1->rs[k].name≠rs[i].name)->(fun c=>if c=nm then (j:Int) else f c) rs[i].name=(i:Int)):=by
    intro i hi hij hu
    by_cases he:i=j
    ·subst he;simp[hnm]
    ·have hne:rs[i].name≠nm:=fun e=>hu j hlt (by omega) (by omega) (by rw[<-hnm,e])
     simp only[if_neg hne];exact HF.out i hi (by omega) fun k hk h1 h2=>hu k hk h1 (by omega)
   rw[hW1]at hu;obtain⟨sa,k',sc,hva⟩:∃a k c,va=.slice a k c:=by
    obtain⟨_,_,tF,hv',_,hA',_,hc'⟩:=(h.below hbr).at hlt;cases hv';rw[c1]at hc';cases hc';exact ay.form hA'
   subst hva;clear hnm HF hM1 hM;go_wp2_with fail;go_roundg (rs.length - (j+1))
   case measure=>omega
   case rel=>exact⟨j+1,_,by omega,by go_num,hb2,hM2,zi⟩
  ·have:j=rs.length:=by omega
   subst this;go_wp2_with fail;go_ret;exact⟨_,f,rfl,zL0,hM,fun i hi hu=>HF.out i hi hi fun k hk h1 _=>hu k hk h1,hbr⟩
namespace Lx
def sO(x:It):Prop:=(x.kind=0/\isName x.name=true/\x.alts=[])\/(x.kind=1/\isToken x.name=true/\x.alts=[])\/x.kind=2
def Cu(a:Alt):Prop:=a.2.1=aL\/isToken a.2.1=true
def Et(d:Nat)(aI:List Tk->aX (List Alt)):Prop:=∀ts l ts',aI ts=.ok (l,ts')->(∀x∈cu d l,sO x)
theorem ahs{d:Nat}{aI:List Tk->aX (List Alt)}(hg:Et d aI){ts ts':List Tk}{x:It}(h:cO aI ts=.ok (x,ts')):∀y∈sJ d x,sO y:=by
 unfold cO at h
 split at h
 ·split at h
  ·cases h
  ·rename_i alts aB hq
   cases h;intro y hy;rcases List.mem_cons.1 hy with rfl|hy
   ·exact .inr (.inr rfl)
   ·exact hg _ _ _ hq y hy
 ·split at h
  ·rename_i hn
   cases h;intro y hy;rcases List.mem_cons.1 hy with rfl|hy
   ·exact .inl ⟨rfl,hn,rfl⟩
   ·rw[Km]at hy;cases hy
  ·split at h
   ·rename_i hn
    cases h;intro y hy;rcases List.mem_cons.1 hy with rfl|hy
    ·exact .inr (.inl ⟨rfl,hn,rfl⟩)
    ·rw[Km]at hy;cases hy
   ·cases h
theorem Ww{d:Nat}{aI:List Tk->aX (List Alt)}(hg:Et d aI):∀(f:Nat)(ts:List Tk)(a x:List It)(ts':List Tk),dM aI f ts a=.ok (x,ts')->(∀y∈pX d a,sO y)->∀y∈pX d x,sO y
 |0,ts,a,x,ts',h,ha=>by cases h;exact ha
 |f+1,ts,a,x,ts',h,ha=>by
  unfold dM at h
  split at h
  ·split at h
   ·cases h
   ·rename_i z t1 hz
    refine Ww hg f t1 _ x ts' h fun y hy=>?_
    unfold pX at hy;rw[List.flatMap_append]at hy;rcases List.mem_append.1 hy with hy|hy
    ·exact ha y hy
    ·rw[List.flatMap_cons,List.flatMap_nil,List.append_nil]at hy
     exact ahs hg hz y hy
  ·cases h;exact ha
theorem Yf{d:Nat}{aI:List Tk->aX (List Alt)}(hg:Et d aI){top:Bool}{ts ts':List Tk}{x:Alt}(h:dG aI top ts=.ok (x,ts')):(∀y∈pX d x.1,sO y)/\Cu x:=by
 unfold dG at h
 split at h
 ·cases h
 ·rename_i its t1 hi
  have h1:=Ww hg _ _ _ _ _ hi (fun y hy=>by cases hy);unfold mG at h
  split at h
  ·split at h
   ·cases h
   ·rename_i b t2 hb
    cases h;obtain⟨rfl,rfl,hk⟩:=mW hb;exact⟨h1,.inr hk⟩
  ·cases h
   exact⟨h1,.inl rfl⟩
theorem Xq{d:Nat}{aI:List Tk->aX (List Alt)}(hg:Et d aI){top:Bool}:∀(f:Nat)(ts:List Tk)(a x:List Alt)(ts':List Tk),jh aI top f ts a=.ok (x,ts')->((∀y∈cu (d+1) a,sO y)/\∀y∈a,Cu y)->(∀y∈cu (d+1) x,sO y)/\∀y∈x,Cu y
 |0,ts,a,x,ts',h,ha=>by cases h;exact ha
 |f+1,ts,a,x,ts',h,ha=>by
  unfold jh at h
  split at h
  ·split at h
   ·cases h
   ·rename_i z t1 hz
    have hz2:=Yf hg hz;refine Xq hg f t1 _ x ts' h ⟨fun y hy=>?_,fun y hy=>?_⟩
    ·rw[tY,List.flatMap_append]at hy
     rcases List.mem_append.1 hy with hy|hy
     ·exact ha.1 y hy
     ·rw[List.flatMap_cons,List.flatMap_nil,List.append_nil]at hy
      exact hz2.1 y hy
    ·rcases List.mem_append.1 hy with hy | hy
     ·exact ha.2 y hy
     ·rw[List.mem_singleton.1 hy];exact hz2.2
  ·cases h;exact ha
theorem Vt{d:Nat}{aI:List Tk->aX (List Alt)}(hg:Et d aI){top:Bool}{ts ts':List Tk}{x:List Alt}(h:ou aI top ts=.ok (x,ts')):(∀y∈cu (d+1) x,sO y)/\∀y∈x,Cu y:=by
 unfold ou at h
 split at h
 ·cases h
 ·rename_i z t1 hz
  have hz2:=Yf hg hz;refine Xq hg _ _ _ _ _ h ⟨fun y hy=>?_,fun y hy=>?_⟩
  ·rw[tY,List.flatMap_cons,List.flatMap_nil,List.append_nil]at hy
   exact hz2.1 y hy
  ·rw[List.mem_singleton.1 hy];exact hz2.2
theorem agr{d:Nat}{r:List Tk->aX (List Alt)}(hr:∀ts l ts',r ts=.ok (l,ts')->(∀y∈cu d l,sO y)/\∀y∈l,Cu y):Et d (nJ r):=by
 intro ts l ts' h;unfold nJ at h
 split at h
 ·cases h
 ·rename_i l1 t1 h1
  split at h
  ·cases h
  ·cases h
   exact(hr _ _ _ h1).1
theorem Xr:∀(d:Nat)(ts:List Tk)(l:List Alt)(ts':List Tk),iP d ts=.ok (l,ts')->(∀y∈cu (d+1) l,sO y)/\∀y∈l,Cu y
 |0,ts,l,ts',h=>Vt (d:=0) (fun _ _ _ h=>by cases h) h
 |d+1,ts,l,ts',h=>Vt (agr (Xr d)) h
def G8(r:Rl):Prop:=isName r.name=true/\(∀y∈cu 9 r.alts,sO y)/\∀y∈r.alts,Cu y
theorem Xt{ts ts':List Tk}{x:Rl}(h:dF ts=.ok (x,ts')):G8 x:=by
 unfold dF at h
 split at h
 ·cases h
 ·rename_i n t1 h1
  obtain⟨rfl,rfl,hk⟩:=mW h1
  split at h
  ·cases h
  ·split at h
   ·cases h
   ·rename_i l t3 h3
    split at h
    ·cases h
    ·cases h
     exact⟨hk,Xr 8 _ _ _ h3⟩
theorem Wx:∀(f:Nat)(ts:List Tk)(a x:List Rl)(ts':List Tk),iC f ts a=.ok (x,ts')->(∀r∈a,G8 r)->∀r∈x,G8 r
 |0,ts,a,x,ts',h,ha=>by cases h;exact ha
 |f+1,ts,a,x,ts',h,ha=>by
  unfold iC at h
  split at h
  ·cases h;exact ha
  ·split at h
   ·cases h
   ·rename_i z t1 hz
    refine Wx f t1 _ x ts' h fun r hr=>?_
    rcases List.mem_append.1 hr with hr|hr
    ·exact ha r hr
    ·rw[List.mem_singleton.1 hr];exact Xt hz
theorem Vu:∀(f:Nat)(ts a x:List Tk)(ts':List Tk),iM f ts a=.ok (x,ts')->(∀t∈a,isToken t.1=true)->∀t∈x,isToken t.1=true
 |0,ts,a,x,ts',h,ha=>by cases h;exact ha
 |f+1,ts,a,x,ts',h,ha=>by
  unfold iM at h
  split at h
  ·cases h;exact ha
  ·split at h
   ·cases h
   ·rename_i b t1 h1
    obtain⟨rfl,rfl,hk⟩:=mW h1;refine Vu f _ _ _ _ h fun t ht=>?_
    rcases List.mem_append.1 ht with ht|ht
    ·exact ha t ht
    ·rw[List.mem_singleton.1 ht];exact hk
def Lr(l:Lv):Prop:=∀t∈l.tokens,isToken t.1=true
theorem Vv:∀(f:Nat)(ts:List Tk)(a x:List Lv)(ts':List Tk),fI f ts a=.ok (x,ts')->(∀l∈a,Lr l)->∀l∈x,Lr l
 |0,ts,a,x,ts',h,ha=>by cases h;exact ha
 |f+1,ts,a,x,ts',h,ha=>by
  unfold fI at h
  split at h
  ·split at h
   ·cases h
   ·rename_i z t1 hz
    refine Vv f t1 _ x ts' h fun l hl=>?_
    rcases List.mem_append.1 hl with hl|hl
    ·exact ha l hl
    ·rw[List.mem_singleton.1 hl]
     unfold gJ at hz
     split at hz
     ·cases hz
     ·rename_i b t2 hb
      obtain⟨rfl,rfl,hw⟩:=mW hb
      split at hz
      ·cases hz
      ·rename_i l t3 h3
       cases hz;exact Vu _ _ _ _ _ h3 fun t ht=>by rw[List.mem_singleton.1 ht];exact hw
  ·cases h;exact ha
theorem BL{s:ByteArray}{g:Gr}(h:parse s=.ok g):(∀l∈g.levels,Lr l)/\(∀r∈g.rules,G8 r)/\0<g.rules.length:=by
 unfold parse at h
 split at h
 ·cases h
 ·split at h
  ·cases h
  ·rename_i g' ts' hp
   cases h;unfold gQ at hp
   split at hp
   ·cases hp
   ·rename_i lv t1 h1
    split at hp
    ·cases hp
    ·rename_i x t2 h2
     split at hp
     ·cases hp
     ·rename_i l t3 h3
      cases hp;refine⟨Vv _ _ _ _ _ h1 (fun _ h=>by cases h),Wx _ _ _ _ _ h3 (fun r hr=>by rw[List.mem_singleton.1 hr];exact Xt h2),?_⟩;obtain⟨y,e,-⟩:=NJ _ _ _ _ _ h3;show 0<l.length;rw[e];simp
def Dp:Nat->List Alt->Prop
 |0,l=>l=[]
 |d+1,l=>∀a∈l,∀x∈a.1,Dp d x.alts
theorem BM{d:Nat}{l:List Alt}{y:It}:y∈cu (d+1) l↔∃a∈l,∃x∈a.1,y=x\/y∈cu d x.alts:=by
 rw[tY,List.mem_flatMap];constructor
 ·rintro⟨a,ha,hy⟩
  obtain⟨x,hx,hy⟩:=List.mem_flatMap.1 hy;exact⟨a,ha,x,hx,List.mem_cons.1 hy⟩
 ·rintro⟨a,ha,x,hx,hy⟩
  exact⟨a,ha,List.mem_flatMap.2 ⟨x,hx,List.mem_cons.2 hy⟩⟩
theorem KE:∀{d:Nat}{l:List Alt},Dp d l->∀{x:It},x∈cu d l->∀{a:Alt},a∈x.alts->∀{y:It},y∈a.1->y∈cu d l
 |0,l,h,x,hx,a,ha,y,hy=>by cases hx
 |d+1,l,h,x,hx,a,ha,y,hy=>by
  obtain⟨b,hb,z,hz,hx⟩:=BM.1 hx;refine BM.2 ⟨b,hb,z,hz,.inr ?_⟩;have hD:=h b hb z hz;rcases hx with rfl|hx
  ·cases d with
   |zero=>rw[show x.alts=[] from hD]at ha;cases ha
   |succ d=>exact BM.2 ⟨a,ha,y,hy,.inl rfl⟩
  ·exact KE hD hx ha hy
theorem Gi{α:Type}(f:α->Nat):∀{l:List α}{a:α},a∈l->f a<=(l.map f).sum
 |b::l,a,h=>by
  rw[List.map_cons,List.sum_cons];rcases List.mem_cons.1 h with rfl|h
  ·omega
  ·have:=Gi f h;omega
theorem zU{α:Type}(f:α->Nat):∀{l:List α},(∀a∈l,1<=f a)->l.length<=(l.map f).sum
 | [],_=>zL0
 |b::l,h=>by
  rw[List.map_cons,List.sum_cons,List.length_cons];have:=h b List.mem_cons_self;have:=zU f (l:=l) fun a ha=>h a (List.mem_cons_of_mem _ ha)
  omega
theorem Wy:∀{d:Nat}{l:List Alt},Dp d l->l.length<=iF d l/\∀a∈l,a.1.length<=iF d l
 |0,l,h=>by rw[show l=[] from h];exact⟨zL0,fun _ h=>by cases h⟩
 |d+1,l,h=>by
  rw[BF];refine⟨zU _ fun a _=>by omega,fun a ha=>?_⟩;have h1:1+sj d a.1<=_:=Gi (fun a:Alt=>1+sj d a.1) ha;have h2:a.1.length<=sj d a.1:=zU _ fun x _=>by unfold BX;omega
  omega
theorem Xu:∀{d:Nat}{l:List Alt},Dp d l->∀{x:It},x∈cu d l->x.alts.length<=iF d l/\∀a∈x.alts,a.1.length<=iF d l
 |0,l,h,x,hx=>by cases hx
 |d+1,l,h,x,hx=>by
  obtain⟨b,hb,z,hz,hx⟩:=BM.1 hx;have hD:=h b hb z hz;have hs:iF d z.alts<=iF (d+1) l:=by
   rw[BF];have h1:1+sj d b.1<=_:=Gi (fun a:Alt=>1+sj d a.1) hb;have h2:1+iF d z.alts<=sj d b.1:=Gi (BX d) hz;omega
  have h4:x.alts.length<=iF d z.alts/\∀a∈x.alts,a.1.length<=iF d z.alts:=by
   rcases hx with rfl|hx
   ·exact Wy hD
   ·exact Xu hD hx
  exact⟨by omega,fun a ha=>by have:=h4.2 a ha;omega⟩
end Lx
theorem OA{Y:Tr.Lay}{F:Nat->Prop}{w:World}:∀{d:Nat}{v:Value}{l:List Lx.Alt},Tr.ay Y d F w v l->Lx.Dp d l
 |0,_,_,h=>h.2
 |d+1,v,l,h=>by
  obtain⟨ps,h1,-,-,h4⟩:=h;intro a ha x hx;rw[<-h1]at ha;obtain⟨q,hq,rfl⟩:=List.mem_map.1 ha;obtain⟨qs,k1,-,-,k4⟩:=h4 q hq;rw[<-k1]at hx;obtain⟨p,hp,rfl⟩:=List.mem_map.1 hx;exact OA (k4 p hp)
def aY:Value->Nat
 | .slice (some a) _ _=>a.block
 |_=>0
def cv(w:World)(a:Addr):Value:=(w.cell? a).getD (.slice none 0 0)
abbrev AI:=Addr×Lx.It
def eu(sub:Value->List Lx.Alt->List AI)(w:World)(g:Nat):Nat->List Lx.It->List AI
 |_,[]=>[]
 |i,x::xs=>((⟨g,i*4,none⟩:Addr),x)::(sub (cv w ⟨g,i*4+3,none⟩) x.alts++eu sub w g (i+1) xs)
def dO(sub:Value->List Lx.Alt->List AI)(w:World)(g:Nat):Nat->List Lx.Alt->List AI
 |_,[]=>[]
 |j,a::l=>eu sub w (aY (cv w ⟨g,j*2,none⟩)) 0 a.1++dO sub w g (j+1) l
def aT:Nat->World->Value->List Lx.Alt->List AI
 |0,_,_,_=>[]
 |d+1,w,v,l=>dO (aT d w) w (aY v) 0 l
theorem UK{sub:Value->List Lx.Alt->List AI}{w:World}{g d:Nat}:∀(its:List Lx.It)(i:Nat),(∀k x,its[k]?=some x->(sub (cv w ⟨g,(i+k)*4+3,none⟩) x.alts).map Prod.snd=cu d x.alts)->(eu sub w g i its).map Prod.snd=pX d its
 | [],_,_=>rfl
 |x::xs,i,h=>by
  have h0:=h 0 x rfl;have h1:=UK (sub:=sub) (w:=w) (g:=g) (d:=d) xs (i+1) fun k y hy=>by
   have:=h (k+1) y (by simpa using hy);rw[show i+(k+1)=i+1+k by omega]at this;exact this
  rw[eu,List.map_cons,List.map_append,h1];simp only[Nat.add_zero]at h0;rw[h0];rfl
theorem Vw{sub:Value->List Lx.Alt->List AI}{w:World}{g d:Nat}:∀(l:List Lx.Alt)(j:Nat),(∀k a,l[k]?=some a->(eu sub w (aY (cv w ⟨g,(j+k)*2,none⟩)) 0 a.1).map Prod.snd=pX d a.1)->(dO sub w g j l).map Prod.snd=cu (d+1) l
 | [],_,_=>rfl
 |a::l,j,h=>by
  have h0:=h 0 a rfl;have h1:=Vw (sub:=sub) (w:=w) (g:=g) (d:=d) l (j+1) fun k y hy=>by
   have:=h (k+1) y (by simpa using hy);rw[show j+(k+1)=j+1+k by omega]at this;exact this
  rw[dO,List.map_append,h1];simp only[Nat.add_zero]at h0;rw[h0];rfl
theorem Ea{d:Nat}{F:Nat->Prop}{w:World}{v:Value}{l:List Lx.Alt}(h:ay YP (d+1) F w v l){j:Nat}(hj:j<l.length):F (aY v)/\∃vi,w.cell? ⟨aY v,j*2,none⟩=some vi/\bM YP d F w vi l[j].1:=by
 obtain⟨b,cap,vi,h1,h2,h3,h4⟩:=Seq.at h (fun _=>rfl) hj;subst h1;exact⟨h2,vi,h4 0 (by decide),h3⟩
theorem Vx{d:Nat}{F:Nat->Prop}{w:World}{v:Value}{l:List Lx.It}(h:bM YP d F w v l){j:Nat}(hj:j<l.length):F (aY v)/\∃va,w.cell? ⟨aY v,j*4+3,none⟩=some va/\ay YP d F w va l[j].alts:=by
 unfold bM ow at h;obtain⟨b,cap,vi,h1,h2,h3,h4⟩:=Seq.at h (fun _=>rfl) hj;subst h1;exact⟨h2,vi,h4 3 (by decide),h3⟩
theorem Em:∀{d:Nat}{F:Nat->Prop}{w:World}{v:Value}{l:List Lx.Alt},ay YP d F w v l->(aT d w v l).map Prod.snd=cu d l
 |0,_,_,_,_,_=>rfl
 |d+1,F,w,v,l,h=>by
  refine Vw l 0 fun k a ha=>?_
  obtain⟨hk,rfl⟩:=List.getElem?_eq_some_iff.1 ha;obtain⟨-,vi,hc,hi⟩:=Ea h hk;have e1:cv w ⟨aY v,(0+k)*2,none⟩=vi:=by unfold cv;rw[Nat.zero_add,hc];rfl
  rw[e1];refine UK _ 0 fun m x hx=>?_
  obtain⟨hm,rfl⟩:=List.getElem?_eq_some_iff.1 hx;obtain⟨-,va,hc2,hA⟩:=Vx hi hm;have e2:cv w ⟨aY vi,(0+m)*4+3,none⟩=va:=by unfold cv;rw[Nat.zero_add,hc2];rfl
  rw[e2];exact Em hA
theorem Ui{sub sub':Value->List Lx.Alt->List AI}{w w':World}{g:Nat}:∀(its:List Lx.It)(i:Nat),(∀k x,its[k]?=some x->sub' (cv w' ⟨g,(i+k)*4+3,none⟩) x.alts=sub (cv w ⟨g,(i+k)*4+3,none⟩) x.alts)->eu sub' w' g i its=eu sub w g i its
 | [],_,_=>rfl
 |x::xs,i,h=>by
  have h0:=h 0 x rfl;have h1:=Ui (sub:=sub) (sub':=sub') (w:=w) (w':=w') (g:=g) xs (i+1) fun k y hy=>by
   have:=h (k+1) y (by simpa using hy);rw[show i+(k+1)=i+1+k by omega]at this;exact this
  simp only[Nat.add_zero]at h0;rw[eu,eu,h0,h1]
theorem UL{sub sub':Value->List Lx.Alt->List AI}{w w':World}{g:Nat}:∀(l:List Lx.Alt)(j:Nat),(∀k a,l[k]?=some a->eu sub' w' (aY (cv w' ⟨g,(j+k)*2,none⟩)) 0 a.1=eu sub w (aY (cv w ⟨g,(j+k)*2,none⟩)) 0 a.1)->dO sub' w' g j l=dO sub w g j l
 | [],_,_=>rfl
 |a::l,j,h=>by
  have h0:=h 0 a rfl;have h1:=UL (sub:=sub) (sub':=sub') (w:=w) (w':=w') (g:=g) l (j+1) fun k y hy=>by
   have:=h (k+1) y (by simpa using hy);rw[show j+(k+1)=j+1+k by omega]at this;exact this
  simp only[Nat.add_zero]at h0;rw[dO,dO,h0,h1]
theorem O6{w w':World}{a:Addr}(h:w'.heap[a.block]?=w.heap[a.block]?):cv w' a=cv w a:=by unfold cv;rw[World.cell?_of_block h]
theorem Gb:∀{d:Nat}{F:Nat->Prop}{w w':World}{v:Value}{l:List Lx.Alt},ay YP d F w v l->(∀b,F b->w'.heap[b]?=w.heap[b]?)->aT d w' v l=aT d w v l
 |0,_,_,_,_,_,_,_=>rfl
 |d+1,F,w,w',v,l,h,hs=>by
  refine UL l 0 fun k a ha=>?_
  obtain⟨hk,rfl⟩:=List.getElem?_eq_some_iff.1 ha;obtain⟨hF,vi,hc,hi⟩:=Ea h hk;have e1:cv w ⟨aY v,(0+k)*2,none⟩=vi:=by unfold cv;rw[Nat.zero_add,hc];rfl
  rw[O6 (hs _ hF),e1];refine Ui _ 0 fun m x hx=>?_
  obtain⟨hm,rfl⟩:=List.getElem?_eq_some_iff.1 hx;obtain⟨hF2,va,hc2,hA⟩:=Vx hi hm;have e2:cv w ⟨aY vi,(0+m)*4+3,none⟩=va:=by unfold cv;rw[Nat.zero_add,hc2];rfl
  rw[O6 (hs _ hF2),e2];exact Gb hA hs
theorem Uj{sub:Value->List Lx.Alt->List AI}{w:World}{g:Nat}{its:List Lx.It}{m:Nat}(hm:m<its.length):eu sub w g m (its.drop m)=((⟨g,m*4,none⟩:Addr),its[m])::(sub (cv w ⟨g,m*4+3,none⟩) its[m].alts++eu sub w g (m+1) (its.drop (m+1))):=by
 rw[List.drop_eq_getElem_cons hm,eu]
theorem UM{sub:Value->List Lx.Alt->List AI}{w:World}{g:Nat}{l:List Lx.Alt}{j:Nat}(hj:j<l.length):dO sub w g j (l.drop j)=eu sub w (aY (cv w ⟨g,j*2,none⟩)) 0 l[j].1++dO sub w g (j+1) (l.drop (j+1)):=by
 rw[List.drop_eq_getElem_cons hj,dO]
def iW(w:World)(b:Nat):Prop:=∃(ca:Array Value)(ta:TypeId),w.heap[b]?=some (.cells ca ta (0,0))
theorem iW.move{w w':World}{b:Nat}(h:iW w b)(hb:w'.heap[b]?=w.heap[b]?):iW w' b:=by
 obtain⟨ca,ta,h⟩:=h;exact⟨ca,ta,hb.trans h⟩
def Apart(F:Nat->Prop)(w:World)(l:List AI):Prop:=(∀p∈l,F p.1.block/\iW w p.1.block)/\(l.map Prod.fst).Nodup
def Qh(Fs:Nat->Nat->Prop):Prop:=∀k k',k<k'->∀b,Fs k b->Fs k' b->False
theorem Tr.dW.at{α:Type}{F:Nat->Prop}{w:World}{e s:Nat}{c:Value×α->List Value}{K:(Nat->Prop)->World->Value->α->Prop}{v:Value}{l:List α}(h:dW F w e s c K v l)(hc:∀q,(c q).length=s):
  ∃Fs:Nat->Nat->Prop,Qh Fs/\(∀k b,Fs k b->F b)/\(∀g,v.ownBlock=some g->F g/\iW w g/\∀k,¬Fs k g) /\
   ∀j(hj:j<l.length),∃g cap vk,v=.slice (some ⟨g,0,none⟩) l.length cap/\K (Fs j) w vk l[j]/\∀i,i<s->w.cell? ⟨g,j*s+i,none⟩=(c (vk,l[j]))[i]?:=by
 obtain⟨ps,Fs,h1,h2,h3,h4,h5,h6,h7⟩:=h;have hl:ps.length=l.length:=by rw[<-h1];simp
 have Dj:∀k b,((Fs[k]?).getD fun _=>False) b->∃hk:k<Fs.length,Fs[k] b:=by
  intro k b hb
  by_cases hk:k<Fs.length
  ·rw[List.getElem?_eq_getElem hk]at hb;exact⟨hk,hb⟩
  ·rw[List.getElem?_eq_none (by omega)]at hb;exact hb.elim
 refine⟨fun k=>(Fs[k]?).getD fun _=>False,?_,?_,?_,?_⟩
 ·intro k k' hkk b hb hb'
  obtain⟨hk,hb⟩:=Dj k b hb;obtain⟨hk',hb'⟩:=Dj k' b hb';exact List.pairwise_iff_getElem.1 h5 k k' hk hk' hkk b hb hb'
 ·intro k b hb
  obtain⟨hk,hb⟩:=Dj k b hb;exact h4 _ (List.getElem_mem hk) b hb
 ·intro g hg
  refine⟨(h3 g hg).1,?_,fun k hb=>?_⟩
  ·rcases h2.2 with h0 | ⟨g',cap,cur,hv,-,hh,-⟩
   ·rw[h0.1]at hg;simp[Value.ownBlock]at hg
   ·have:g'=g:=by rw[hv]at hg;simpa [Value.ownBlock]using hg
    subst this;exact⟨_,_,hh⟩
  ·obtain⟨hk,hb⟩:=Dj k g hb
   exact(h3 g hg).2 _ (List.getElem_mem hk) hb
 ·intro j hj
  obtain⟨g,cap,rfl,-,-⟩:=h2.form (by omega);have hq:ps[j]?=some ps[j]:=List.getElem?_eq_getElem (by omega);have hA:Fs[j]?=some Fs[j]:=List.getElem?_eq_getElem (by omega);have e5:(ps[j]).2=l[j]:=by
   have:(ps.map Prod.snd)[j]?=l[j]?:=by rw[h1]
   rw[List.getElem?_map,hq,List.getElem?_eq_getElem hj]at this;simpa using this
  refine⟨g,cap,(ps[j]).1,rfl,?_,?_⟩
  ·have:=h7 j _ _ hq hA
   rw[e5]at this;show K ((Fs[j]?).getD fun _=>False) w _ _;rw[hA];exact this
  ·intro i hi
   have hlt:j*s+i<l.length*s:=by
    have:(j+1)*s<=l.length*s:=Nat.mul_le_mul_right s hj;rw[Nat.succ_mul]at this;omega
   rw[h2.cellAt (j*s+i) hlt,flat_get c s hc ps j i _ hq hi,<-e5]
theorem TK{sub:Value->List Lx.Alt->List AI}{w:World}{g:Nat}{Fs:Nat->Nat->Prop}(hs:Qh Fs)(hg:∀k,¬Fs k g)(hc:iW w g):∀(its:List Lx.It)(i:Nat),(∀k x,its[k]?=some x->Apart (Fs (i+k)) w (sub (cv w ⟨g,(i+k)*4+3,none⟩) x.alts)) ->
  (∀p∈eu sub w g i its,iW w p.1.block/\((p.1.block=g/\∃m,i<=m/\p.1.off=m*4)\/∃k,i<=k/\Fs k p.1.block))/\((eu sub w g i its).map Prod.fst).Nodup
 | [],i,_=>⟨fun p h=>(by cases h),List.nodup_nil⟩
 |x::xs,i,h=>by
  have h0:=h 0 x rfl;simp only[Nat.add_zero]at h0;have h1:=TK hs hg hc xs (i+1) fun k y hy=>by
   have:=h (k+1) y (by simpa using hy);rw[show i+(k+1)=i+1+k by omega]at this;exact this
  rw[eu];refine⟨fun p hp=>?_,?_⟩
  ·rcases List.mem_cons.1 hp with rfl | hp
   ·exact⟨hc,.inl ⟨rfl,i,zL0,rfl⟩⟩
   ·rcases List.mem_append.1 hp with hp | hp
    ·exact⟨(h0.1 p hp).2,.inr ⟨i,zL0,(h0.1 p hp).1⟩⟩
    ·obtain⟨a,b⟩:=h1.1 p hp
     refine⟨a,?_⟩;rcases b with ⟨e,m,hm,ho⟩|⟨k,hk,hF⟩
     ·exact .inl ⟨e,m,by omega,ho⟩
     ·exact .inr ⟨k,by omega,hF⟩
  ·rw[List.map_cons,List.map_append,List.nodup_cons,List.nodup_append]
   refine⟨fun hm=>?_,h0.2,h1.2,fun a ha b hb e=>?_⟩
   ·rcases List.mem_append.1 hm with hm | hm
    ·obtain⟨p,hp,e⟩:=List.mem_map.1 hm
     have:=(h0.1 p hp).1;rw[e]at this;exact hg _ this
    ·obtain⟨p,hp,e⟩:=List.mem_map.1 hm
     rcases (h1.1 p hp).2 with ⟨-,m,hm,ho⟩|⟨k,hk,hF⟩
     ·rw[e]at ho
      have ho':i*4=m*4:=ho;omega
     ·rw[e]at hF;exact hg _ hF
   ·subst e
    obtain⟨p,hp,e1⟩:=List.mem_map.1 ha;obtain⟨q,hq,e2⟩:=List.mem_map.1 hb;have f1:=(h0.1 p hp).1;rw[e1]at f1;rcases (h1.1 q hq).2 with ⟨hb',-⟩|⟨k,hk,hF⟩
    ·rw[e2]at hb';rw[hb']at f1;exact hg _ f1
    ·rw[e2]at hF;exact hs i k (by omega) _ f1 hF
def pQ{α:Type}(f:Nat->α->List AI):Nat->List α->List AI
 |_,[]=>[]
 |j,a::l=>f j a++pQ f (j+1) l
theorem NE{α:Type}{f:Nat->α->List AI}{w:World}{Fs:Nat->Nat->Prop}(hs:Qh Fs):∀(l:List α)(j:Nat),(∀k a,l[k]?=some a->Apart (Fs (j+k)) w (f (j+k) a)) ->
  (∀p∈pQ f j l,iW w p.1.block/\∃k,j<=k/\Fs k p.1.block)/\((pQ f j l).map Prod.fst).Nodup
 | [],j,_=>⟨fun p h=>(by cases h),List.nodup_nil⟩
 |x::xs,j,h=>by
  have h0:=h 0 x rfl;simp only[Nat.add_zero]at h0;have h1:=NE (f:=f) (w:=w) hs xs (j+1) fun k y hy=>by
   have:=h (k+1) y (by simpa using hy);rw[show j+(k+1)=j+1+k by omega]at this;exact this
  rw[pQ];refine⟨fun p hp=>?_,?_⟩
  ·rcases List.mem_append.1 hp with hp | hp
   ·exact⟨(h0.1 p hp).2,j,zL0,(h0.1 p hp).1⟩
   ·obtain⟨a,k,hk,hF⟩:=h1.1 p hp
    exact⟨a,k,by omega,hF⟩
  ·rw[List.map_append,List.nodup_append]
   refine⟨h0.2,h1.2,fun a ha b hb e=>?_⟩;subst e;obtain⟨p,hp,e1⟩:=List.mem_map.1 ha;obtain⟨q,hq,e2⟩:=List.mem_map.1 hb;have f1:=(h0.1 p hp).1;rw[e1]at f1;obtain⟨-,k,hk,hF⟩:=h1.1 q hq;rw[e2]at hF;exact hs j k (by omega) _ f1 hF
theorem Wz{sub:Value->List Lx.Alt->List AI}{w:World}{g:Nat}:∀(l:List Lx.Alt)(j:Nat),dO sub w g j l=pQ (fun j a=>eu sub w (aY (cv w ⟨g,j*2,none⟩)) 0 a.1) j l
 | [],_=>rfl
 |a::l,j=>by rw[dO,pQ,Wz l (j+1)]
theorem WA:∀{d:Nat}{F:Nat->Prop}{w:World}{v:Value}{l:List Lx.Alt},eO YP d F w v l->Apart F w (aT d w v l)
 |0,_,_,_,_,_=>⟨fun p h=>(by cases h),List.nodup_nil⟩
 |d+1,F,w,v,l,h=>by
  obtain⟨Fs,h1,h2,h3,h4⟩:=dW.at h (fun _=>rfl);have e0:aT (d+1) w v l=pQ (fun j a=>eu (aT d w) w (aY (cv w ⟨aY v,j*2,none⟩)) 0 a.1) 0 l:=Wz l 0;have hx:=NE (f:=fun j(a:Lx.Alt)=>eu (aT d w) w (aY (cv w ⟨aY v,j*2,none⟩)) 0 a.1) (w:=w) h1 l 0 fun k a ha=>by
   obtain⟨hk,rfl⟩:=List.getElem?_eq_some_iff.1 ha;obtain⟨g,cap,vi,hv,hi,hcell⟩:=h4 k hk;subst hv;have hc0:w.cell? ⟨g,k*2,none⟩=some vi:=hcell 0 (by decide);have e1:cv w ⟨g,(0+k)*2,none⟩=vi:=by unfold cv;rw[Nat.zero_add,hc0];rfl
   rw[show aY (.slice (some ⟨g,0,none⟩) l.length cap)=g from rfl,e1,Nat.zero_add];obtain⟨Gs,k1,k2,k3,k4⟩:=dW.at hi (fun _=>rfl)
   by_cases hlen:0<l[k].1.length
   ·obtain⟨n,sG,va,hv2,-,-⟩:=k4 0 hlen
    obtain⟨kF,kc,kn⟩:=k3 n (by rw[hv2];rfl);have hy:=TK (sub:=aT d w) (w:=w) (g:=n) k1 kn kc l[k].1 0 fun m x hx=>by
     obtain⟨hm,rfl⟩:=List.getElem?_eq_some_iff.1 hx;obtain⟨n',al6,tF,hv3,hA,hcell2⟩:=k4 m hm;have:n'=n:=by rw[hv2]at hv3;cases hv3;rfl
     subst this;have hc3:w.cell? ⟨n',m*4+3,none⟩=some tF:=hcell2 3 (by decide);have e2:cv w ⟨n',(0+m)*4+3,none⟩=tF:=by unfold cv;rw[Nat.zero_add,hc3];rfl
     rw[e2,Nat.zero_add];exact WA hA
    rw[hv2,show aY (.slice (some ⟨n,0,none⟩) l[k].1.length sG)=n from rfl];refine⟨fun p hp=>?_,hy.2⟩;obtain⟨a,b⟩:=hy.1 p hp;refine⟨?_,a⟩;rcases b with ⟨e,-⟩|⟨m,-,hF⟩
    ·rw[e];exact kF
    ·exact k2 m _ hF
   ·have:l[k].1=[]:=List.eq_nil_of_length_eq_zero (by omega)
    rw[this];exact⟨fun p h=>(by cases h),List.nodup_nil⟩
  rw[e0];exact⟨fun p hp=>by obtain⟨a,k,-,hF⟩:=hx.1 p hp;exact⟨h2 k _ hF,a⟩,hx.2⟩
def O7(w:World)(g:Nat):Nat->List Lx.Rl->List AI:=pQ fun j r=>aT 9 w (cv w ⟨g,j*2+1,none⟩) r.alts
theorem TL{F:Nat->Prop}{w:World}{v:Value}{rs:List Lx.Rl}(h:Tr.dW F w 179 2 cR KR v rs):Apart F w (O7 w (aY v) 0 rs):=by
 obtain⟨Fs,h1,h2,h3,h4⟩:=dW.at h (fun _=>rfl);have hx:=NE (f:=fun j(r:Lx.Rl)=>aT 9 w (cv w ⟨aY v,j*2+1,none⟩) r.alts) (w:=w) h1 rs 0 fun k a ha=>by
  obtain⟨hk,rfl⟩:=List.getElem?_eq_some_iff.1 ha;obtain⟨g,cap,va,hv,hA,hcell⟩:=h4 k hk;subst hv;have hc0:w.cell? ⟨g,k*2+1,none⟩=some va:=hcell 1 (by decide);have e1:cv w ⟨g,(0+k)*2+1,none⟩=va:=by unfold cv;rw[Nat.zero_add,hc0];rfl
  rw[show aY (.slice (some ⟨g,0,none⟩) rs.length cap)=g from rfl,e1,Nat.zero_add];exact WA hA
 exact⟨fun p hp=>by obtain⟨a,k,-,hF⟩:=hx.1 p hp;exact⟨h2 k _ hF,a⟩,hx.2⟩
theorem adM{P:Program}{w:World}{tp te:TypeId}{j:TypeInfo}{a b:Addr}(hp:P.underlying tp=some (.pointer te))(hte:P.info? te=some j)(hsz:j.size≠0)(ha:iW w a.block)(hb:iW w b.block):
  (Op.equal tp (.pointer (some a)) (.pointer (some b))).run P w=.ok (decide (a=b)) w:=by
 obtain⟨ca,ta,ha⟩:=ha;obtain⟨cb,tb,hb⟩:=hb
 by_cases hab:a=b
 ·subst hab
  have h:∀d:Nat,(Op.equalIn (d+1) tp (.pointer (some a)) (.pointer (some a))).run P w=.ok true w:=fun d=>by
   simp[Op.equalIn,run_underlying hp,sizeOf,typeInfo,hte,run_sameAddr_same]
  simp[Op.equal,Op.maxDepth,h 9999]
 ·have h:∀d:Nat,(Op.equalIn (d+1) tp (.pointer (some a)) (.pointer (some b))).run P w=.ok false w:=fun d=>by
   simp[Op.equalIn,run_underlying hp,sizeOf,typeInfo,hte,hsz,run_sameAddr_other w hab ha hb]
  simp[Op.equal,Op.maxDepth,h 9999,hab]
def mM(a:Addr):Value:=.pointer (some a)
theorem Xv{P:Program}{w:World}{tp te:TypeId}{j:TypeInfo}{a:Addr}(hp:P.underlying tp=some (.pointer te))(hte:P.info? te=some j)(hsz:j.size≠0)(ha:iW w a.block):∀(l:List MapEntry)(i:Nat),(∀x∈l,∃c,x.key=mM c/\iW w c.block) ->
  ((Instr.findAsking tp (mM a) l i).run P w=.ok none w/\∀(x:MapEntry),x∈l->x.key≠mM a)\/∃(k:Nat)(e:MapEntry),(Instr.findAsking tp (mM a) l i).run P w=.ok (some (i+k,e.val)) w/\l[k]?=some e/\e.key=mM a
 | [],i,_=>.inl ⟨by simp[Instr.findAsking],fun x h=>(by cases h)⟩
 |x::l,i,h=>by
  obtain⟨c,hc,hcb⟩:=h x List.mem_cons_self;have he:=adM (w:=w) hp hte hsz ha hcb
  by_cases hac:a=c
  ·subst hac
   refine .inr ⟨0,x,?_,rfl,hc⟩;have he':(Op.equal tp (mM a) x.key).run P w=.ok true w:=by rw[hc];simpa [mM]using he
   simp[Instr.findAsking,he',Result.andThen]
  ·have he':(Op.equal tp (mM a) x.key).run P w=.ok false w:=by rw[hc];simpa [mM,hac]using he
   rcases Xv hp hte hsz ha l (i+1) (fun y hy=>h y (List.mem_cons_of_mem _ hy)) with ⟨h1,h2⟩|⟨k,e,h1,h2,h3⟩
   ·refine .inl ⟨?_,fun y hy=>?_⟩
    ·simp[Instr.findAsking,he',h1,Result.andThen]
    ·rcases List.mem_cons.1 hy with rfl | hy
     ·rw[hc];intro e;unfold mM at e;cases e;exact hac rfl
     ·exact h2 y hy
   ·refine .inr ⟨k+1,e,?_,by simpa using h2,h3⟩
    rw[show i+(k+1)=i+1+k by omega];simp[Instr.findAsking,he',h1,Result.andThen]
theorem ait{P:Program}{tp te:TypeId}{j:TypeInfo}(hp:P.underlying tp=some (.pointer te))(hte:P.info? te=some j)(hsz:j.size≠0):ED P tp mM (fun w a=>iW w a.block) where
 inj a b h:=by unfold mM at h;cases h;rfl
 check em w a:=by
  have h:∀n:Nat,(Instr.checkKey em (n+1) tp (mM a)).run P w=.ok () w:=fun n=>by
   simp[Instr.checkKey,run_underlying hp,mM]
  exact h 9999
 find w a l ha hl:=by
  cases l with
  |nil=>exact .inl ⟨by simp[Instr.findKey,Instr.findNow,run_underlying hp],fun x h=>(by cases h)⟩
  |cons x l=>
   have e0:Instr.findNow (.pointer te) (mM a) (x::l) 0=none:=by
    unfold Instr.findNow mM Instr.sameNow;rfl
   have h1:=Xv hp hte hsz ha (x::l) 0 hl;have e1:(Instr.findKey tp (mM a) (x::l)).run P w=(Instr.findAsking tp (mM a) (x::l) 0).run P w:=by
    simp[Instr.findKey,run_underlying hp,e0]
   rw[e1];rcases h1 with h1|⟨k,e,h1,h2,h3⟩
   ·exact .inl h1
   ·rw[Nat.zero_add]at h1
    exact .inr ⟨k,e,h1,h2,h3⟩
 stays w a:=by simp[Instr.keyThatStays,Instr.sameBits,mM]
theorem Tryz.aht:prog.underlying 185=some (.pointer 187):=by kernel_rfl
theorem Tryz.YU:prog.underlying 125=some (.map 185 3):=by kernel_rfl
theorem Tryz.ahu:(prog.info? 187).map (fun i=>i.size)=some 4:=by kernel_rfl
theorem Tryz.ZL:ED prog 185 mM (fun w a=>iW w a.block):=by
 have h:=Tryz.ahu;cases hi:prog.info? 187 with
 |none=>rw[hi]at h;cases h
 |some j=>
  rw[hi]at h;have hj:j.size=4:=by simpa using h
  exact ait Tryz.aht hi (by omega)
def sP(G:Nat->Prop)(w:World)(B:Nat)(f:Addr->Int):Prop:=iJ mM (fun a=>G a.block) w B f
theorem sP.look{G:Nat->Prop}{w:World}{B:Nat}{f:Addr->Int}(h:sP G w B f)(hG:∀b,G b->iW w b){a:Addr}(ha:G a.block):(Instr.lookup 125 (.map (some B)) (.pointer (some a)) false).run prog w=.ok (.int .i64 (f a)) w:=iJ.look Tryz.ZL Tryz.YU Tryz.Zl (fun _ ha=>hG _ ha) h ha
theorem sP.put{G:Nat->Prop}{w:World}{B:Nat}{f:Addr->Int}(h:sP G w B f)(hG:∀b,G b->iW w b){a:Addr}(ha:G a.block)(v:Int):∃w',(Instr.mapUpdate 125 (.map (some B)) (.pointer (some a)) (.int .i64 v)).run prog w=.ok () w'/\sP G w' B (fun c=>if c=a then v else f c)/\w.grownBy w' (some B)/\w'.heap.size=w.heap.size:=iJ.put Tryz.ZL Tryz.YU (fun _ ha=>hG _ ha) h ha v
structure oQ(w:World)(n m:Nat)(it:Lx.It):Prop where
 kind:w.cell? ⟨n,m*4,none⟩=some (.int .i64 (it.kind:Int))
 name:w.cell? ⟨n,m*4+1,none⟩=some (.string it.name)
 mark:w.cell? ⟨n,m*4+2,none⟩=some (.int .u8 (it.mark:Int))
def Kq(d:Nat):Prop:=∀(nw nv:Nat)(caps:Array Value)(wd:Lx.It->Bool)(F:Nat->Prop)(w0:World)(I:List AI->World->Prop)(Q:AI->Prop),
 (∀(ar:Array Value)(w:World),(callFunc nw ar).run prog w=.ok (.enter nw ar) w)->(∀(ar:Array Value)(w:World),(callFunc nv ar).run prog w=.ok (.enter nv ar) w) ->
 (∀(w':World)(n m:Nat)(it:Lx.It),F n->oQ w' n m it->Calls prog nw #[.pointer (some ⟨n,m*4,none⟩)] w' fun e w''=>e=.returned (.bool (wd it))/\w''=w') ->
 (∀(w':World)(L:List AI)(n m:Nat)(it:Lx.It),I L w'->F n->oQ w' n m it->wd it=true->Q (⟨n,m*4,none⟩,it)->Calls prog nv (#[.pointer (some ⟨n,m*4,none⟩)]++caps) w' fun e w''=>e=.returned (.tuple #[])/\I (L++[(⟨n,m*4,none⟩,it)]) w'') ->
 (∀(L:List AI)(w':World),I L w'->∀b,F b->w'.heap[b]?=w0.heap[b]?) ->
 ∀(v:Value)(l:List Lx.Alt),ay YP d F w0 v l->(∀p∈aT d w0 v l,Q p)->∀(w:World)(L:List AI),I L w ->
 Calls prog 82 #[v,.func (.func nw) #[] #[],.func (.func nv) #[] caps] w fun e w'=>e=.returned (.tuple #[])/\I (L++(aT d w0 v l).filter fun p=>wd p.2) w'
theorem ags:Kq 0:=by
 intro nw nv caps wd F w0 I Q hcw hcv hw hv hf v l hl hq w L hI;obtain⟨rfl,rfl⟩:=hl;go_enter func82,ntmps82;go_wp2_with fail
 go_loopg [11] 0 (fun k i wr=>k=0/\i=.int .i64 0/\wr=w)
 case atStart=>exact⟨rfl,rfl,rfl⟩
 case round=>
  obtain⟨rfl,rfl,rfl⟩:=hrel;go_wp2_with fail
  go_end0
  refine⟨rfl,?_⟩;rw[show aT 0 w0 (.slice none 0 0) []=[] from rfl,List.filter_nil,List.append_nil];exact hI
theorem agt{d:Nat}(IH:Kq d):Kq (d+1):=by
 intro nw nv caps wd F w0 I Q hcw hcv hw hv hf v l hl hq w L hI;obtain⟨va,vc,hvv,hm⟩:=ay.len hl;subst hvv;unfold maxLen at hm;obtain⟨T,hT⟩:∃T,T=L++(aT (d+1) w0 (.slice va l.length vc) l).filter (fun p=>wd p.2):=⟨_,rfl⟩;rw[<-hT];go_enter func82,ntmps82;go_wp2_with fail;have e0:aT (d+1) w0 (.slice va l.length vc) l=dO (aT d w0) w0 (aY (.slice va l.length vc)) 0 (l.drop 0):=rfl;have H0:Hid (T=L++(dO (aT d w0) w0 (aY (.slice va l.length vc)) 0 (l.drop 0)).filter (fun p=>wd p.2)):=by show _=_;rw[hT,e0]
 rw[e0]at hq;clear e0;clear hT
 go_loopg [11] l.length (fun k i wr=>∃(j:Nat)(L':List AI),j+k=l.length/\i=.int .i64 j/\I L' wr/\(∀p∈dO (aT d w0) w0 (aY (.slice va l.length vc)) j (l.drop j),Q p)/\Hid (T=L'++(dO (aT d w0) w0 (aY (.slice va l.length vc)) j (l.drop j)).filter (fun p=>wd p.2)))
 case atStart=>exact⟨0,L,by omega,rfl,hI,hq,H0⟩
 case round=>
  clear H0 hq hI;revert wr;intro wz hrel;obtain⟨j,L1,hk,rfl,hz,hqz,HZ⟩:=hrel
  by_cases hlt:j<l.length
  ·obtain⟨gb,cap,vi,hvv,hg,hi,hc⟩:=Seq.at hl (fun _=>rfl) hlt
   cases hvv;have hz2:=HZ.out;have ec:cv w0 ⟨gb,j*2,none⟩=vi:=by unfold cv;rw[show w0.cell? ⟨gb,j*2,none⟩=some vi from hc 0 (by decide)];rfl
   rw[UM hlt,show aY (.slice (some ⟨gb,0,none⟩) l.length vc)=gb from rfl,ec]at hz2 hqz;generalize l[j]=x at hi hc hz2 hqz;obtain⟨its,prec,pa⟩:=x;have hi':bM YP d F w0 vi its:=hi;obtain⟨ia,ic,iK,him⟩:=Seq.len hi;subst iK;unfold maxLen at him;have c0:wz.cell? ⟨gb,j*2,none⟩=some (.slice ia its.length ic):=(World.cell?_of_block (w:=w0) (hf _ _ hz gb hg)).trans (hc 0 (by decide));have HZ2:Hid (T=L1++(eu (aT d w0) w0 (aY (.slice ia its.length ic)) 0 (its.drop 0)++dO (aT d w0) w0 gb (j+1) (l.drop (j+1))).filter (fun p=>wd p.2)):=hz2;have G9:∀p∈eu (aT d w0) w0 (aY (.slice ia its.length ic)) 0 (its.drop 0)++dO (aT d w0) w0 gb (j+1) (l.drop (j+1)),Q p:=hqz;clear hc hz2 HZ hqz ec hi;go_wp2_with fail
   go_loopg [21] its.length (fun k i wr=>∃(m:Nat)(L':List AI),m+k=its.length/\i=.int .i64 m/\I L' wr/\(∀p∈eu (aT d w0) w0 (aY (.slice ia its.length ic)) m (its.drop m)++dO (aT d w0) w0 gb (j+1) (l.drop (j+1)),Q p)/\Hid (T=L'++(eu (aT d w0) w0 (aY (.slice ia its.length ic)) m (its.drop m)++dO (aT d w0) w0 gb (j+1) (l.drop (j+1))).filter (fun p=>wd p.2)))
   case atStart=>exact⟨0,L1,by omega,rfl,hz,G9,HZ2⟩
   case round=>
    clear HZ2 G9 hz c0;obtain⟨m,L2,hkm,rfl,hr,hqr,HR⟩:=hrel
    by_cases bJ:m<its.length
    ·have hir:=hi'
     unfold bM ow at hir;obtain⟨n,sG,va,hvv,hn,ha,hcc⟩:=Seq.at hir (fun _=>rfl) bJ;cases hvv;have hr2:=HR.out;have ec:cv w0 ⟨n,m*4+3,none⟩=va:=by unfold cv;rw[show w0.cell? ⟨n,m*4+3,none⟩=some va from hcc 3 (by decide)];rfl
     rw[Uj bJ,show aY (.slice (some ⟨n,0,none⟩) its.length ic)=n from rfl,ec]at hr2 hqr;generalize its[m]=it at ha hcc hr2 hqr;obtain⟨sa,sc,hva,-⟩:=ay.len ha;subst hva;have en:wr.heap[n]?=w0.heap[n]?:=hf _ _ hr n hn;have hia:oQ wr n m it:=⟨(World.cell?_of_block (w:=w0) en).trans (hcc 0 (by decide)),(World.cell?_of_block (w:=w0) en).trans (hcc 1 (by decide)),(World.cell?_of_block (w:=w0) en).trans (hcc 2 (by decide))⟩;have RG:Q (⟨n,m*4,none⟩,it):=hqr _ (by simp);have IJ:∀p∈aT d w0 (.slice sa it.alts.length sc) it.alts,Q p:=fun p hp=>hqr p (by simp[hp])
     have IK:∀p∈eu (aT d w0) w0 n (m+1) (its.drop (m+1))++dO (aT d w0) w0 gb (j+1) (l.drop (j+1)),Q p:=fun p hp=>hqr p (by
      rcases List.mem_append.1 hp with hp|hp
      ·simp[hp]
      ·simp[hp])
     clear hqr hir HR ec;go_wp2_with fail;refine(hw wr n m it hn hia).mono ?_;rintro e w1⟨rfl,hw1⟩;obtain rfl:=hw1.symm;cases hwd:wd it with
     |true=>
      have HWD:Hid (wd it=true):=hwd;have hr3:T=(L2++[(⟨n,m*4,none⟩,it)])++((aT d w0 (.slice sa it.alts.length sc) it.alts).filter (fun p=>wd p.2)++(eu (aT d w0) w0 n (m+1) (its.drop (m+1))++dO (aT d w0) w0 gb (j+1) (l.drop (j+1))).filter (fun p=>wd p.2)):=by
       rw[hr2];simp[hwd,List.append_assoc]
      have HR3:Hid _:=hr3;have q1:=hv wr L2 n m it hr hn hia hwd RG;clear hr2 hr3 hwd;go_wp2_with fail;refine q1.mono ?_;rintro e w2⟨rfl,hI2⟩;have RH:w2.heap[n]?=w0.heap[n]?:=hf _ _ hI2 n hn;have y3:w2.cell? ⟨n,m*4+3,none⟩=some (.slice sa it.alts.length sc):=(World.cell?_of_block (w:=w0) RH).trans (hcc 3 (by decide));go_wp2_with fail;refine(IH nw nv caps wd F w0 I Q hcw hcv hw hv hf _ _ ha IJ w2 _ hI2).mono ?_;rintro e w3⟨rfl,Dk⟩;have HR4:Hid _:=HR3.out;rw[<-List.append_assoc]at HR4;go_wp2_with fail;go_roundg (its.length - (m+1))
      case measure=>omega
      case rel=>exact⟨m+1,_,by omega,by go_num,Dk,IK,HR4⟩
     |false=>
      have hr3:T=L2++((aT d w0 (.slice sa it.alts.length sc) it.alts).filter (fun p=>wd p.2)++(eu (aT d w0) w0 n (m+1) (its.drop (m+1))++dO (aT d w0) w0 gb (j+1) (l.drop (j+1))).filter (fun p=>wd p.2)):=by
       rw[hr2];simp[hwd,List.append_assoc]
      have HR3:Hid _:=hr3;clear hr2 hr3 hwd;have y3:wr.cell? ⟨n,m*4+3,none⟩=some (.slice sa it.alts.length sc):=(World.cell?_of_block (w:=w0) en).trans (hcc 3 (by decide));go_wp2_with fail;refine(IH nw nv caps wd F w0 I Q hcw hcv hw hv hf _ _ ha IJ wr _ hr).mono ?_;rintro e w3⟨rfl,Dk⟩;have HR4:Hid _:=HR3.out;rw[<-List.append_assoc]at HR4;go_wp2_with fail;go_roundg (its.length - (m+1))
      case measure=>omega
      case rel=>exact⟨m+1,_,by omega,by go_num,Dk,IK,HR4⟩
    ·have:m=its.length:=by omega
     subst this;have hr2:=HR.out;rw[List.drop_length,eu,List.nil_append]at hr2 hqr;have HR2:Hid _:=hr2;clear hr2 HR;go_wp2_with fail;go_roundg (l.length - (j+1))
     case measure=>omega
     case rel=>exact⟨j+1,L2,by omega,by go_num,hr,hqr,HR2⟩
  ·have:j=l.length:=by omega
   subst this;have hz2:=HZ.out;rw[List.drop_length,dO,List.filter_nil,List.append_nil]at hz2;have HZ2:Hid _:=hz2;clear hz2 HZ;go_wp2_with fail
   go_end0
   refine⟨rfl,?_⟩;rw[HZ2.out];exact hz
theorem Yg:∀d,Kq d
 |0=>ags
 |d+1=>agt (Yg d)
end Go.Proofs.YtjaalkocdbkdeaaGreatDoor
