import Derived.Test.YtlcppnabbicmoaaGreatDoorME35
set_option maxHeartbeats 8000000
set_option maxRecDepth 1000000
namespace Go.Proofs.YtlcppnabbicmoaaGreatDoor
section
open Go.RowKit
open Tr
def itP (va:Value)(it:Lx.It):Value:=.agg #[.int .i64 (it.kind:Int),.string it.name,.int .u8 (it.mark:Int),va]
def alP (vi:Value)(a:Lx.Alt):Value:=.agg #[vi,.string a.2.1]
structure OkW (F:Nat->Prop) (w0:World) (Ok:World->Prop):Prop where
 fr:∀ w,Ok w->∀ b,F b->w.heap[b]?=w0.heap[b]?/\b<w.heap.size
 up:∀ w w',Ok w->Below w.heap.size w w'->Ok w'
def Asks (w:World)(b:Bool)(e:Ending)(w':World):Prop:=e=.returned (.bool b)/\Below w.heap.size w w'
theorem index_items {F:Nat->Prop} {w0:World} {Ok:World->Prop} (hO:OkW F w0 Ok) {nf:Nat} {caps:Array Value} (hcf:∀ (ar:Array Value) (w:World),(callFunc nf ar).run Tryz.prog w=.ok (.enter nf ar) w) {d:Nat} {pr:Lx.It->Bool} {R:Lx.It->Prop}
  (hf:∀ (w':World) (va:Value) (it:Lx.It),Ok w'->AltsIn YP d F w0 va it.alts->R it->Calls Tryz.prog nf (#[itP va it]++caps) w' (Asks w' (pr it)))
  {vi:Value} {its:List Lx.It} (hi:ItemsIn YP d F w0 vi its) (hR:∀ it∈its,R it) {w:World} (hw:Ok w) :
  Calls Tryz.prog 147 #[vi,.func (.func nf) #[] caps] w fun e w'=>∃ q:Int,e=.returned (.int .i64 q)/\(0<=q↔its.any pr=true)/\Below w.heap.size w w':=by
 obtain⟨ia,ic,hvi,him⟩:∃ a c,vi=.slice a its.length c/\its.length<=maxLen:=Seq.len (show Tr.Seq F w0 YP.eI YP.sI YP.cI (fun va it=>AltsIn YP d F w0 va it.alts) vi its from hi);subst hvi;unfold maxLen at him;go_enter Tryz.func147,Tryz.ntmps147;go_wp2_with fail
 go_loopg [8] its.length (fun k i wr=>∃ j:Nat,j+k=its.length/\i=.int .i64 j/\Below w.heap.size w wr/\Hid (∀ m (hm:m<its.length),m<j->pr its[m]=false))
 case atStart=>exact⟨0,by omega,rfl,Below.refl _ _,fun m _ h=>by omega⟩
 case round =>
  obtain⟨j,hk,rfl,hbr,HN⟩:=hrel;have hokr:=hO.up _ _ hw hbr
  by_cases hlt:j<its.length
  ·have hir:=hi
   unfold ItemsIn ItemsBy at hir;obtain⟨n,ncap,va,hv,hn,ha,hcc⟩:=Seq.at hir (fun _=>rfl) hlt;cases hv;have hRj:=hR its[j] (List.getElem_mem hlt);have hq:=hf wr va its[j] hokr ha hRj;obtain⟨sa,sc,hva,-⟩:=AltsIn.len ha;subst hva;have en:=(hO.fr _ hokr n hn).1;have ln:=(hO.fr _ hokr n hn).2;have x0:wr.cell? ⟨n,j*4,none⟩=some (.int .i64 (its[j].kind:Int)):=(World.cell?_of_block (w:=w0) en).trans (hcc 0 (by decide));have x1:wr.cell? ⟨n,j*4+1,none⟩=some (.string its[j].name):=(World.cell?_of_block (w:=w0) en).trans (hcc 1 (by decide));have x2:wr.cell? ⟨n,j*4+2,none⟩=some (.int .u8 (its[j].mark:Int)):=(World.cell?_of_block (w:=w0) en).trans (hcc 2 (by decide));have x3:wr.cell? ⟨n,j*4+3,none⟩=some (.slice sa its[j].alts.length sc):=(World.cell?_of_block (w:=w0) en).trans (hcc 3 (by decide));unfold itP at hq;have HJ:Hid (∀ b,pr its[j]=b->(b=true->its.any pr=true)/\(b=false->∀ m (hm:m<its.length),m<j+1->pr its[m]=false)):=by
    intro b hb;refine⟨fun h=>List.any_eq_true.2 ⟨its[j],List.getElem_mem hlt,by rw[hb,h]⟩,fun h m hm hmj=>?_⟩
    by_cases hmj2:m=j
    ·subst hmj2;rw[hb,h]
    ·exact HN.out m hm (by omega)
   clear hcc hir HN;generalize hit:its[j]=it at hq x0 x1 x2 x3 HJ;clear hit;go_wp2_with fail;refine hq.mono ?_;rintro e w2 ⟨rfl,hb2⟩;have hb3:=hbr.trans (hb2.mono hbr.size);cases hp:pr it with
   | true =>
    have HJ2:=(HJ.out true hp).1 rfl;have HA:Hid (its.any pr=true):=HJ2;clear HJ HJ2 hp hq;go_wp2_with fail;go_ret;exact⟨_,rfl,⟨fun _=>HA.out,fun _=>by omega⟩,hb3⟩
   | false =>
    have HA:Hid _:=(HJ.out false hp).2 rfl;clear HJ hp hq;go_wp2_with fail;go_roundg (its.length - (j+1))
    case measure=>omega
    case rel=>exact⟨j+1,by omega,by go_num,hb3,HA⟩
  ·have:j=its.length:=by omega
   subst this;have HA:Hid (¬ its.any pr=true):=by
    intro h;obtain⟨x,hx,hp⟩:=List.any_eq_true.1 h;obtain⟨m,hm,rfl⟩:=List.mem_iff_getElem.1 hx;rw[HN.out m hm hm]at hp;cases hp
   clear HN;go_wp2_with fail;go_ret;exact⟨_,rfl,⟨fun h=>by omega,fun h=>absurd h HA.out⟩,hbr⟩
end
section
open Go.RowKit
open Tr
theorem index_alts {F:Nat->Prop} {w0:World} {Ok:World->Prop} (hO:OkW F w0 Ok) {nf:Nat} {caps:Array Value} (hcf:∀ (ar:Array Value) (w:World),(callFunc nf ar).run Tryz.prog w=.ok (.enter nf ar) w) {d:Nat} {pr:Lx.Alt->Bool} {R:Lx.Alt->Prop}
  (hf:∀ (w':World) (va:Value) (it:Lx.Alt),Ok w'->ItemsIn YP d F w0 va it.1->R it->Calls Tryz.prog nf (#[alP va it]++caps) w' (Asks w' (pr it)))
  {vi:Value} {its:List Lx.Alt} (hi:AltsIn YP (d+1) F w0 vi its) (hR:∀ it∈its,R it) {w:World} (hw:Ok w) :
  Calls Tryz.prog 146 #[vi,.func (.func nf) #[] caps] w fun e w'=>∃ q:Int,e=.returned (.int .i64 q)/\(0<=q↔its.any pr=true)/\Below w.heap.size w w':=by
 obtain⟨ia,ic,hvi,him⟩:∃ a c,vi=.slice a its.length c/\its.length<=maxLen:=AltsIn.len hi;subst hvi;unfold maxLen at him;go_enter Tryz.func146,Tryz.ntmps146;go_wp2_with fail
 go_loopg [8] its.length (fun k i wr=>∃ j:Nat,j+k=its.length/\i=.int .i64 j/\Below w.heap.size w wr/\Hid (∀ m (hm:m<its.length),m<j->pr its[m]=false))
 case atStart=>exact⟨0,by omega,rfl,Below.refl _ _,fun m _ h=>by omega⟩
 case round =>
  obtain⟨j,hk,rfl,hbr,HN⟩:=hrel;have hokr:=hO.up _ _ hw hbr
  by_cases hlt:j<its.length
  ·have hir:=hi
   obtain⟨n,ncap,va,hv,hn,ha,hcc⟩:=Seq.at hir (fun _=>rfl) hlt;cases hv;have hRj:=hR its[j] (List.getElem_mem hlt);have hq:=hf wr va its[j] hokr ha hRj;obtain⟨sa,sc,hva,-⟩:∃ a c,va=.slice a its[j].1.length c/\its[j].1.length<=maxLen:=Seq.len (show Tr.Seq F w0 YP.eI YP.sI YP.cI (fun va it=>AltsIn YP d F w0 va it.alts) va its[j].1 from ha);subst hva;have en:=(hO.fr _ hokr n hn).1;have ln:=(hO.fr _ hokr n hn).2;have x0:wr.cell? ⟨n,j*2,none⟩=some (.slice sa its[j].1.length sc):=(World.cell?_of_block (w:=w0) en).trans (hcc 0 (by decide));have x1:wr.cell? ⟨n,j*2+1,none⟩=some (.string its[j].2.1):=(World.cell?_of_block (w:=w0) en).trans (hcc 1 (by decide));unfold alP at hq;have HJ:Hid (∀ b,pr its[j]=b->(b=true->its.any pr=true)/\(b=false->∀ m (hm:m<its.length),m<j+1->pr its[m]=false)):=by
    intro b hb;refine⟨fun h=>List.any_eq_true.2 ⟨its[j],List.getElem_mem hlt,by rw[hb,h]⟩,fun h m hm hmj=>?_⟩
    by_cases hmj2:m=j
    ·subst hmj2;rw[hb,h]
    ·exact HN.out m hm (by omega)
   clear hcc hir HN;generalize hit:its[j]=it at hq x0 x1 HJ;clear hit;go_wp2_with fail;refine hq.mono ?_;rintro e w2 ⟨rfl,hb2⟩;have hb3:=hbr.trans (hb2.mono hbr.size);cases hp:pr it with
   | true =>
    have HJ2:=(HJ.out true hp).1 rfl;have HA:Hid (its.any pr=true):=HJ2;clear HJ HJ2 hp hq;go_wp2_with fail;go_ret;exact⟨_,rfl,⟨fun _=>HA.out,fun _=>by omega⟩,hb3⟩
   | false =>
    have HA:Hid _:=(HJ.out false hp).2 rfl;clear HJ hp hq;go_wp2_with fail;go_roundg (its.length - (j+1))
    case measure=>omega
    case rel=>exact⟨j+1,by omega,by go_num,hb3,HA⟩
  ·have:j=its.length:=by omega
   subst this;have HA:Hid (¬ its.any pr=true):=by
    intro h;obtain⟨x,hx,hp⟩:=List.any_eq_true.1 h;obtain⟨m,hm,rfl⟩:=List.mem_iff_getElem.1 hx;rw[HN.out m hm hm]at hp;cases hp
   clear HN;go_wp2_with fail;go_ret;exact⟨_,rfl,⟨fun h=>by omega,fun h=>absurd h HA.out⟩,hbr⟩
theorem contains_items {F:Nat->Prop} {w0:World} {Ok:World->Prop} (hO:OkW F w0 Ok) {nf:Nat} {caps:Array Value} (hcf:∀ (ar:Array Value) (w:World),(callFunc nf ar).run Tryz.prog w=.ok (.enter nf ar) w) {d:Nat} {pr:Lx.It->Bool} {R:Lx.It->Prop}
  (hf:∀ (w':World) (va:Value) (it:Lx.It),Ok w'->AltsIn YP d F w0 va it.alts->R it->Calls Tryz.prog nf (#[itP va it]++caps) w' (Asks w' (pr it)))
  {vi:Value} {its:List Lx.It} (hi:ItemsIn YP d F w0 vi its) (hR:∀ it∈its,R it) {w:World} (hw:Ok w) :
  Calls Tryz.prog 130 #[vi,.func (.func nf) #[] caps] w (Asks w (its.any pr)):=by
 have hq:=index_items hO hcf hf hi hR hw;obtain⟨ia,ic,hvi,-⟩:∃ a c,vi=.slice a its.length c/\its.length<=maxLen:=Seq.len (show Tr.Seq F w0 YP.eI YP.sI YP.cI (fun va it=>AltsIn YP d F w0 va it.alts) vi its from hi);subst hvi;go_enter Tryz.func130,Tryz.ntmps130;go_wp2_with fail;refine hq.mono ?_;rintro e w2 ⟨q,rfl,hiff,hb⟩;have HQ:Hid (decide (0<=q)=its.any pr):=by
  show _=_;cases ha:its.any pr with
  | true=>exact decide_eq_true (hiff.2 ha)
  | false=>exact decide_eq_false fun h=>by rw[hiff.1 h]at ha;cases ha
 clear hiff hq;go_wp2_with fail;go_ret;refine⟨?_,hb⟩;rw[<-HQ.out];rfl
theorem contains_alts {F:Nat->Prop} {w0:World} {Ok:World->Prop} (hO:OkW F w0 Ok) {nf:Nat} {caps:Array Value} (hcf:∀ (ar:Array Value) (w:World),(callFunc nf ar).run Tryz.prog w=.ok (.enter nf ar) w) {d:Nat} {pr:Lx.Alt->Bool} {R:Lx.Alt->Prop}
  (hf:∀ (w':World) (va:Value) (it:Lx.Alt),Ok w'->ItemsIn YP d F w0 va it.1->R it->Calls Tryz.prog nf (#[alP va it]++caps) w' (Asks w' (pr it)))
  {vi:Value} {its:List Lx.Alt} (hi:AltsIn YP (d+1) F w0 vi its) (hR:∀ it∈its,R it) {w:World} (hw:Ok w) :
  Calls Tryz.prog 128 #[vi,.func (.func nf) #[] caps] w (Asks w (its.any pr)):=by
 have hq:=index_alts hO hcf hf hi hR hw;obtain⟨ia,ic,hvi,-⟩:∃ a c,vi=.slice a its.length c/\its.length<=maxLen:=AltsIn.len hi;subst hvi;go_enter Tryz.func128,Tryz.ntmps128;go_wp2_with fail;refine hq.mono ?_;rintro e w2 ⟨q,rfl,hiff,hb⟩;have HQ:Hid (decide (0<=q)=its.any pr):=by
  show _=_;cases ha:its.any pr with
  | true=>exact decide_eq_true (hiff.2 ha)
  | false=>exact decide_eq_false fun h=>by rw[hiff.1 h]at ha;cases ha
 clear hiff hq;go_wp2_with fail;go_ret;refine⟨?_,hb⟩;rw[<-HQ.out];rfl
end
section
open Go.RowKit
open Tr
theorem callF_129 (ar:Array Value)(w:World):(callFunc 129 ar).run Tryz.prog w=.ok (.enter 129 ar) w:=by kernel_rfl
theorem callF_131 (ar:Array Value)(w:World):(callFunc 131 ar).run Tryz.prog w=.ok (.enter 131 ar) w:=by kernel_rfl
def EndOk (P:ByteArray->Prop)(it:Lx.It):Prop:=it.kind<=2/\(it.kind=0->P it.name)
structure NameF (Ok:World->Prop) (nf:Nat) (caps:Array Value) (on:ByteArray->Bool) (P:ByteArray->Prop):Prop where
 cf:∀ (ar:Array Value) (w:World),(callFunc nf ar).run Tryz.prog w=.ok (.enter nf ar) w
 says:∀ (w':World) (b:ByteArray),Ok w'->P b->Calls Tryz.prog nf (#[.string b]++caps) w' (Asks w' (on b))
def AltsEndSaid (d:Nat):Prop:=∀ (F:Nat->Prop) (w0:World) (Ok:World->Prop),OkW F w0 Ok->∀ (nf:Nat) (caps:Array Value) (on:ByteArray->Bool) (P:ByteArray->Prop),NameF Ok nf caps on P ->
 ∀ (v:Value) (l:List Lx.Alt),AltsIn YP d F w0 v l->(∀ it∈Lx.itsA d l,EndOk P it)->∀ w,Ok w->Calls Tryz.prog 98 #[v,.func (.func nf) #[] caps] w (Asks w (Lx.endsA on d l))
theorem itemEnds_any {d:Nat} (IH:AltsEndSaid d) {F:Nat->Prop} {w0:World} {Ok:World->Prop} (hO:OkW F w0 Ok) {nf:Nat} {caps:Array Value} {on:ByteArray->Bool} {P:ByteArray->Prop} (hN:NameF Ok nf caps on P)
  {va:Value} {it:Lx.It} (ha:AltsIn YP d F w0 va it.alts) (hi:∀ x∈Lx.itsI d it,EndOk P x) {w:World} (hw:Ok w) :
  Calls Tryz.prog 132 #[itP va it,.func (.func nf) #[] caps] w (Asks w (Lx.itemE on d it)):=by
 obtain⟨sa,sc,hva,-⟩:=AltsIn.len ha;subst hva;have hit:=hi it List.mem_cons_self;have hsub:∀ x∈Lx.itsA d it.alts,EndOk P x:=fun x hx=>hi x (List.mem_cons_of_mem _ hx)
 unfold itP;obtain⟨W,hW⟩:∃ W,W=w.alloc (.cells #[.int .i64 (it.kind:Int),.string it.name,.int .u8 (it.mark:Int),.slice sa it.alts.length sc] 187):=⟨_,rfl⟩;have hB:Below w.heap.size w W:=by rw[hW];exact (Below.refl _ _).alloc (Nat.le_refl _) _
 have hWO:=hO.up _ _ hw hB;have hcf:=hN.cf;have HE:Hid (Lx.itemE on d it=(decide (it.kind=1) || decide (it.mark=42) || decide (it.mark=63) || (decide (it.kind=0) && on it.name) || (decide (it.kind=2) && Lx.endsA on d it.alts))):=rfl;go_enter Tryz.func132,Tryz.ntmps132
 by_cases h1:it.mark=42∨it.mark=63∨it.kind=1
 ·have HT:Hid (Lx.itemE on d it=true):=by
   show _=_;rw[HE.out];rcases h1 with h | h | h <;> simp[h]
  have hcase:(it.mark=42)∨(it.mark≠42/\it.mark=63)∨(it.mark≠42/\it.mark≠63/\it.kind=1):=by
   rcases h1 with h | h | h
   ·exact .inl h
   ·exact .inr (.inl ⟨by omega,h⟩)
   ·by_cases h2:it.mark=42
    ·exact .inl h2
    ·by_cases h3:it.mark=63
     ·exact .inr (.inl ⟨h2,h3⟩)
     ·exact .inr (.inr ⟨h2,h3,h⟩)
  clear h1;rcases hcase with h | ⟨h,h'⟩ | ⟨h,h',h''⟩
  ·have q1:((it.mark:Int) == 42)=true:=by simp[h]
   clear h;go_wp2_with fail;go_ret;exact⟨by rw[HT.out];rfl,hW ▸ hB⟩
  ·have q1:((it.mark:Int) == 42)=false:=beq_eq_false_iff_ne.2 (by omega)
   have q2:((it.mark:Int) == 63)=true:=by simp[h']
   clear h h';go_wp2_with fail;go_ret;exact⟨by rw[HT.out];rfl,hW ▸ hB⟩
  ·have q1:((it.mark:Int) == 42)=false:=beq_eq_false_iff_ne.2 (by omega)
   have q2:((it.mark:Int) == 63)=false:=beq_eq_false_iff_ne.2 (by omega);have q3:((it.kind:Int) == 1)=true:=by simp[h'']
   clear h h' h'';go_wp2_with fail;go_ret;exact⟨by rw[HT.out];rfl,hW ▸ hB⟩
 ·have h2:it.mark≠42/\it.mark≠63/\it.kind≠1:=⟨fun e=>h1 (.inl e),fun e=>h1 (.inr (.inl e)),fun e=>h1 (.inr (.inr e))⟩
  have q1:((it.mark:Int) == 42)=false:=beq_eq_false_iff_ne.2 (by omega);have q2:((it.mark:Int) == 63)=false:=beq_eq_false_iff_ne.2 (by omega);have q3:((it.kind:Int) == 1)=false:=beq_eq_false_iff_ne.2 (by omega);clear h1
  by_cases h0:it.kind=0
  ·have HT:Hid (Lx.itemE on d it=on it.name):=by
    show _=_;rw[HE.out];simp[h0,h2.1,h2.2.1]
   have q4:((it.kind:Int) == 0)=true:=by simp[h0]
   have hs:=hN.says W it.name hWO (hit.2 h0);clear h0 h2 HE hit;go_wp2_with fail;rw[<-hW];refine hs.mono ?_;rintro e w2 ⟨rfl,hb2⟩;go_wp2_with fail;go_ret;exact⟨by rw[HT.out];rfl,hB.trans (hb2.mono hB.size)⟩
  ·have hk2:it.kind=2:=by have:=hit.1;omega
   have HT:Hid (Lx.itemE on d it=Lx.endsA on d it.alts):=by
    show _=_;rw[HE.out];simp[hk2,h2.1,h2.2.1]
   have q4:((it.kind:Int) == 0)=false:=beq_eq_false_iff_ne.2 (by omega);have hs:=IH F w0 Ok hO nf caps on P hN _ _ ha hsub W hWO;clear h0 h2 HE hit hk2;go_wp2_with fail;rw[<-hW];refine hs.mono ?_;rintro e w2 ⟨rfl,hb2⟩;go_wp2_with fail;go_ret;exact⟨by rw[HT.out];rfl,hB.trans (hb2.mono hB.size)⟩
end
section
open Go.RowKit
open Tr
theorem OkW.box {F:Nat->Prop}{w0:World}{Ok:World->Prop}(h:OkW F w0 Ok)(eb:Nat)(v:Value):OkW F w0 (fun w=>Ok w/\Blk w eb #[v] 38) :=
 ⟨fun w hw b hb=>h.fr w hw.1 b hb,fun w w' hw hb=>⟨h.up w w' hw.1 hb,(hb.block eb hw.2.lt).trans hw.2⟩⟩
theorem inner_any {d:Nat} (IH:AltsEndSaid d) {F:Nat->Prop} {w0:World} {Ok:World->Prop} (hO:OkW F w0 Ok) {nf:Nat} {caps:Array Value} {on:ByteArray->Bool} {P:ByteArray->Prop} (hN:NameF Ok nf caps on P) {eb:Nat}
  {va:Value} {it:Lx.It} (ha:AltsIn YP d F w0 va it.alts) (hi:∀ x∈Lx.itsI d it,EndOk P x) {w:World} (hw:Ok w) (he:Blk w eb #[.func (.func nf) #[] caps] 38) :
  Calls Tryz.prog 131 #[itP va it,.pointer (some ⟨eb,0,none⟩)] w (Asks w (!Lx.itemE on d it)):=by
 obtain⟨sa,sc,hva,-⟩:=AltsIn.len ha;subst hva;obtain⟨W,hW⟩:∃ W,W=w.alloc (.cells #[.int .i64 (it.kind:Int),.string it.name,.int .u8 (it.mark:Int),.slice sa it.alts.length sc] 187):=⟨_,rfl⟩;have hB:Below w.heap.size w W:=by rw[hW];exact (Below.refl _ _).alloc (Nat.le_refl _) _
 have hWO:=hO.up _ _ hw hB;have q:=itemEnds_any IH hO hN ha hi hWO;have c0:w.cell? ⟨eb,0,none⟩=some (.func (.func nf) #[] caps):=he.cell 0;have le:=he.lt;unfold itP at q ⊢;go_enter Tryz.func131,Tryz.ntmps131;go_wp2_with fail;rw[<-hW];refine q.mono ?_;rintro e w2 ⟨rfl,hb2⟩;go_wp2_with fail;go_ret;exact⟨rfl,hB.trans (hb2.mono hB.size)⟩
theorem outer_any {d:Nat} (IH:AltsEndSaid d) {F:Nat->Prop} {w0:World} {Ok:World->Prop} (hO:OkW F w0 Ok) {nf:Nat} {caps:Array Value} {on:ByteArray->Bool} {P:ByteArray->Prop} (hN:NameF Ok nf caps on P) {eb:Nat}
  {vi:Value} {a:Lx.Alt} (ha:ItemsIn YP d F w0 vi a.1) (hi:∀ x∈Lx.itsL d a.1,EndOk P x) {w:World} (hw:Ok w) (he:Blk w eb #[.func (.func nf) #[] caps] 38) :
  Calls Tryz.prog 129 #[alP vi a,.pointer (some ⟨eb,0,none⟩)] w (Asks w (a.1.all (Lx.itemE on d))):=by
 obtain⟨ia,ic,hvi,-⟩:∃ x c,vi=.slice x a.1.length c/\a.1.length<=maxLen:=Seq.len (show Tr.Seq F w0 YP.eI YP.sI YP.cI (fun va it=>AltsIn YP d F w0 va it.alts) vi a.1 from ha);subst hvi;obtain⟨W,hW⟩:∃ W,W=w.alloc (.cells #[.slice ia a.1.length ic,.string a.2.1] 194):=⟨_,rfl⟩;have hB:Below w.heap.size w W:=by rw[hW];exact (Below.refl _ _).alloc (Nat.le_refl _) _
 have hWO:=hO.up _ _ hw hB;have heW:Blk W eb #[.func (.func nf) #[] caps] 38:=(hB.block eb he.lt).trans he;have q:=contains_items (hO.box eb (.func (.func nf) #[] caps)) callF_131 (caps:=#[.pointer (some ⟨eb,0,none⟩)]) (pr:=fun it=>!Lx.itemE on d it) (R:=fun it=>∀ x∈Lx.itsI d it,EndOk P x)
  (fun w' va it hw' ha' hr=>inner_any IH hO hN ha' hr hw'.1 hw'.2) ha (fun it hit x hx=>hi x (List.mem_flatMap.2 ⟨it,hit,hx⟩)) ⟨hWO,heW⟩
 have HA:Hid (a.1.all (Lx.itemE on d)=!(a.1.any fun it=>!Lx.itemE on d it)):=by
  show _=_;rw[List.not_any_eq_all_not];congr 1;funext x;simp
 unfold alP;go_enter Tryz.func129,Tryz.ntmps129;go_wp2_with fail;rw[<-hW];refine q.mono ?_;rintro e w2 ⟨rfl,hb2⟩;go_wp2_with fail;go_ret;exact⟨by rw[HA.out];rfl,hB.trans (hb2.mono hB.size)⟩
theorem altsEnd_zero:AltsEndSaid 0:=by
 intro F w0 Ok hO nf caps on P hN v l hl hi w hw;have hl1:=AltsIn.up hl;obtain⟨rfl,rfl⟩:=hl;obtain⟨W,hW⟩:∃ W,W=w.alloc (.cells #[.func (.func nf) #[] caps] 38):=⟨_,rfl⟩;have hB:Below w.heap.size w W:=by rw[hW];exact (Below.refl _ _).alloc (Nat.le_refl _) _
 have hWO:=hO.up _ _ hw hB;have q:=contains_alts hO callF_129 (caps:=#[.pointer (some ⟨w.heap.size,0,none⟩)]) (pr:=fun _=>false) (R:=fun _=>False) (fun _ _ _ _ _ hr=>hr.elim) hl1 (fun it hit=>by cases hit) hWO;go_enter Tryz.func98,Tryz.ntmps98;go_wp2_with fail;rw[<-hW];refine q.mono ?_;rintro e w2 ⟨rfl,hb2⟩;go_wp2_with fail;go_ret;exact⟨rfl,hB.trans (hb2.mono hB.size)⟩
theorem altsEnd_succ {d:Nat}(IH:AltsEndSaid d):AltsEndSaid (d+1):=by
 intro F w0 Ok hO nf caps on P hN v l hl hi w hw;obtain⟨va,vc,hv,-⟩:=AltsIn.len hl;subst hv;obtain⟨W,hW⟩:∃ W,W=w.alloc (.cells #[.func (.func nf) #[] caps] 38):=⟨_,rfl⟩;have hB:Below w.heap.size w W:=by rw[hW];exact (Below.refl _ _).alloc (Nat.le_refl _) _
 have hWO:=hO.up _ _ hw hB;have he:Blk W w.heap.size #[.func (.func nf) #[] caps] 38:=by rw[hW];exact Blk.new w _ 38
 have q:=contains_alts (hO.box w.heap.size (.func (.func nf) #[] caps)) callF_129 (caps:=#[.pointer (some ⟨w.heap.size,0,none⟩)]) (pr:=fun a=>a.1.all (Lx.itemE on d)) (R:=fun a=>∀ x∈Lx.itsL d a.1,EndOk P x)
  (fun w' vi a hw' ha' hr=>outer_any IH hO hN ha' hr hw'.1 hw'.2) hl (fun a ha x hx=>hi x (by rw[Lx.itsA_succ];exact List.mem_flatMap.2 ⟨a,ha,hx⟩)) ⟨hWO,he⟩
 rw[Lx.endsA_succ];go_enter Tryz.func98,Tryz.ntmps98;go_wp2_with fail;rw[<-hW];refine q.mono ?_;rintro e w2 ⟨rfl,hb2⟩;go_wp2_with fail;go_ret;exact⟨rfl,hB.trans (hb2.mono hB.size)⟩
theorem altsEnd_at:∀ d,AltsEndSaid d
 | 0=>altsEnd_zero
 | d+1=>altsEnd_succ (altsEnd_at d)
end
section
open Go.RowKit
open Tr
namespace Lx
def visL (names:List ByteArray)(s:List Bool × List Nat)(us:List ByteArray):List Bool × List Nat:=us.foldl (vis names) s
theorem visL_fst (names:List ByteArray):∀ (us:List ByteArray) (s:List Bool × List Nat),(visL names s us).1=markL names us s.1
 | [],_=>rfl
 | u::us,s=>by
  show (visL names (vis names s u) us).1=markL names us (s.1.set (ixOf names u) true);rw[visL_fst names us];congr 1;unfold vis
  split
  ·rename_i h;exact (set_same fun _=>h).symm
  ·rfl
theorem cnt_set:∀ {bs:List Bool} {i:Nat},i<bs.length->at? bs i=false->cntB (bs.set i true)=cntB bs+1
 | b::bs,0,_,h=>by
  have hb:b=false:=h;subst hb;simp[cntB]
 | b::bs,i+1,hl,h=>by
  have ih:=cnt_set (bs:=bs) (i:=i) (by simpa using hl) (by simpa [at?]using h);unfold cntB at ih ⊢;rw[List.set_cons_succ,List.countP_cons,List.countP_cons,ih];omega
theorem visL_op (names:List ByteArray):∀ (us:List ByteArray) (s:List Bool × List Nat),(∀ u∈us,fix names u<s.1.length)->∃ new,(visL names s us).2=s.2++new/\(∀ i∈new,i<s.1.length/\at? (visL names s us).1 i=true)/\(∀ i,at? (visL names s us).1 i=true->at? s.1 i=true∨i∈new)/\new.length+cntB s.1=cntB (visL names s us).1
 | [],s,_=>⟨[],by simp[visL],fun i h=>(by cases h),fun i h=>.inl h,by simp[visL]⟩
 | u::us,s,h=>by
  have hu:=h u List.mem_cons_self;cases hb:at? s.1 (fix names u) with
  | true =>
   have e:vis names s u=s:=if_pos hb;have e2:visL names s (u::us)=visL names s us:=by show visL names (vis names s u) us=_;rw[e]
   rw[e2];exact visL_op names us s fun x hx=>h x (List.mem_cons_of_mem _ hx)
  | false =>
   have e:vis names s u=(s.1.set (fix names u) true,s.2++[fix names u]):=if_neg (by rw[hb];decide);have e2:visL names s (u::us)=visL names (s.1.set (fix names u) true,s.2++[fix names u]) us:=by show visL names (vis names s u) us=_;rw[e]
   obtain⟨new,h1,h2,h3,h4⟩:=visL_op names us (s.1.set (fix names u) true,s.2++[fix names u]) fun x hx=>by
    rw[List.length_set];exact h x (List.mem_cons_of_mem _ hx)
   rw[e2];refine⟨fix names u::new,by rw[h1];simp,?_,?_,?_⟩
   ·intro i hi
    rcases List.mem_cons.1 hi with rfl | hi
    ·refine⟨hu,?_⟩
     rw[visL_fst];refine (mark_le names us _).2 _ ?_;rw[at_set,if_pos ⟨rfl,hu⟩]
    ·have:=h2 i hi
     rw[List.length_set]at this;exact this
   ·intro i hi
    rcases h3 i hi with h' | h'
    ·have h'':at? (s.1.set (fix names u) true) i=true:=h'
     rw[at_set]at h''
     split at h''
     ·rename_i hc;exact .inr (by rw[hc.1];exact List.mem_cons_self)
     ·exact .inl h''
    ·exact .inr (List.mem_cons_of_mem _ h')
   ·have h4':new.length+cntB (s.1.set (fix names u) true)=_:=h4
    rw[cnt_set hu hb]at h4';rw[List.length_cons];omega
structure RI (g:Gr) (s0:List Bool) (s:List Bool × List Nat):Prop where
 len:s.1.length=g.rules.length
 op:∀ i∈s.2,i<g.rules.length/\at? s.1 i=true
 done:∀ i,at? s.1 i=true->i∈s.2∨ClC g i s.1
 has:LeB s0 s.1
 least:∀ T,T.length=g.rules.length->LeB s0 T->(∀ i,i<g.rules.length->ClC g i T)->LeB s.1 T
theorem RI.step {g:Gr}{s0 bs:List Bool}{op:List Nat}{r:Nat}(h:RI g s0 (bs,op++[r]))(hu:∀ u∈usedN (altsAt g r),fix (ruleNames g) u<bs.length):RI g s0 (visL (ruleNames g) (bs,op) (usedN (altsAt g r)))/\(visL (ruleNames g) (bs,op) (usedN (altsAt g r))).2.length+cntB bs=op.length+cntB (visL (ruleNames g) (bs,op) (usedN (altsAt g r))).1:=by
 obtain⟨h1,h2,h3,h4,h5⟩:=h;obtain⟨new,n1,n2,n3,n4⟩:=visL_op (ruleNames g) (usedN (altsAt g r)) (bs,op) hu;have hr:=h2 r (by simp);have hm:(visL (ruleNames g) (bs,op) (usedN (altsAt g r))).1=comeStep g r bs:=by
  rw[visL_fst,comeStep,if_pos hr.2]
 have hle:LeB bs (visL (ruleNames g) (bs,op) (usedN (altsAt g r))).1:=by rw[visL_fst];exact mark_le _ _ _
 refine⟨⟨hle.1.symm.trans h1,?_,?_,h4.trans hle,?_⟩,?_⟩
 ·intro i hi
  rw[n1]at hi;rcases List.mem_append.1 hi with hi | hi
  ·have:=h2 i (by simp[hi])
   exact⟨this.1,hle.2 i this.2⟩
  ·have:=n2 i hi
   exact⟨by rw[<-h1];exact this.1,this.2⟩
 ·intro i hi
  rw[n1];rcases n3 i hi with h' | h'
  ·rcases h3 i h' with h'' | h''
   ·rcases List.mem_append.1 h'' with h'' | h''
    ·exact .inl (List.mem_append.2 (.inl h''))
    ·right
     rw[List.mem_singleton.1 h''];intro _ b hb hlt;rw[visL_fst];exact mark_has _ _ _ b hb (hu b hb)
   ·right
    intro _ b hb hlt;exact hle.2 _ (h'' h' b hb (by rw[hle.1];exact hlt))
  ·exact .inl (List.mem_append.2 (.inr h'))
 ·intro T hT h6 h7
  rw[hm];exact come_keep g T (fun i hi=>h7 i (by omega)) r bs (h5 T hT h6 h7)
 ·rw[n1,List.length_append]
  have n4':new.length+cntB bs=_:=n4;show op.length+new.length+cntB bs=op.length+_;omega
theorem RI.end {g:Gr}{s0 bs:List Bool}(h:RI g s0 (bs,[])):LeastB (ClC g) g.rules.length s0 bs:=by
 refine⟨h.len,h.has,fun i hi=>?_,h.least⟩;intro ha;rcases h.done i ha with h' | h'
 ·cases h'
 ·exact h' ha
theorem RI.start {g:Gr}(hn:0<g.rules.length):RI g ((List.replicate g.rules.length false).set 0 true) ((List.replicate g.rules.length false).set 0 true,[0]):=by
 refine⟨by simp,?_,?_,LeB.refl _,fun T _ h _=>h⟩
 ·intro i hi
  rw[List.mem_singleton.1 hi];exact⟨hn,by rw[at_set,if_pos ⟨rfl,by simpa using hn⟩]⟩
 ·intro i hi
  rw[at_set]at hi
  split at hi
  ·rename_i hc;exact .inl (by rw[<-hc.1];simp)
  ·unfold at? at hi
   rw[List.getElem?_replicate]at hi
   split at hi <;> cases hi
theorem used_its:∀ (d:Nat) (l:List Alt),((itsA d l).filter fun x=>decide (x.kind=0)).map It.name=usedD d l
 | 0,_=>rfl
 | d+1,l=>by
  rw[usedD_succ,itsA_succ,filter_flat,List.map_flatMap];congr 1;funext a;unfold itsL;rw[filter_flat,List.map_flatMap];congr 1;funext x;have ih:=used_its d x.alts;unfold itsI usedI;rw[List.filter_cons,<-ih]
  by_cases h:x.kind=0
  ·simp[h]
  ·simp[h]
end Lx
end
section
open Go.RowKit
open Tr
theorem callF_95 (ar:Array Value)(w:World):(callFunc 95 ar).run Tryz.prog w=.ok (.enter 95 ar) w:=by kernel_rfl
theorem callF_96 (ar:Array Value)(w:World):(callFunc 96 ar).run Tryz.prog w=.ok (.enter 96 ar) w:=by kernel_rfl
theorem own_pop {w:World}{B:Nat}{a:Option Addr}{c:Nat}{op:List Nat}{r:Nat}(h:w.ownsRow B 3 1 (.slice a (op++[r]).length c) (op++[r]).length (intsV (op++[r]))):∃ g,a=some ⟨g,0,none⟩/\op.length+1<=c/\c<=maxLen/\g<w.heap.size/\w.ownsRow B 3 1 (.slice (some ⟨g,0,none⟩) op.length c) op.length (intsV op)/\w.cell? ⟨g,op.length,none⟩=some (.int .i64 (r:Int)):=by
 rcases h.2 with ⟨h1,h2⟩ | ⟨g,cap,cur,h1,h2,h3,h4,h5,h6,h7⟩
 ·simp at h2
 ·injection h1 with e1 e2 e3
  subst e1 e3;have hc:=h.cellAt op.length (by simp);simp at h4;refine⟨g,rfl,h4,h5,(Array.getElem?_eq_some_iff.1 h3).1,⟨by simp[intsV],.inr ⟨g,c,cur,rfl,h2,h3,by omega,h5,h6,?_⟩⟩,?_⟩
  ·have h8:=congrArg (List.take op.length) h7
   rw[List.take_take]at h8;rw[intsV_app]at h8;rw[Nat.mul_one];have e4:min op.length ((op++[r]).length*1)=op.length:=by simp
   rw[e4]at h8;rw[h8];have:op.length=(intsV op).length:=(intsV_len op).symm;rw[this,List.take_left]
  ·have e5:(intsV (op++[r]))[op.length]?=some (.int .i64 (r:Int)):=by rw[intsV_app,List.getElem?_append_right (by rw[intsV_len];exact Nat.le_refl _),intsV_len,Nat.sub_self];rfl
   rw[e5]at hc;exact hc
def ReachedEnds (g:Lx.Gr)(w:World)(e:Ending)(w':World):Prop:=∃ o bs,e=.returned (.slice (some ⟨o,0,none⟩) g.rules.length g.rules.length)/\w.heap.size<=o/\Blk w' o (boolsV bs) 4/\Lx.LeastB (Lx.ClC g) g.rules.length ((List.replicate g.rules.length false).set 0 true) bs/\Below w.heap.size w w'
theorem preached_any {F:Nat->Prop} {w:World} {vR:Value} {g:Lx.Gr} (h:PGr F w vR g.rules) {B:Nat} {num:ByteArray->Int} (hM:SMap w B num) (hnum:∀ b,b∈Lx.ruleNames g->num b=(Lx.fix (Lx.ruleNames g) b:Int)) (hu:Lx.unkG g=none) (hn:0<g.rules.length) (hrn:g.rules.length<=2001) :
  Calls Tryz.prog 53 #[vR,.map (some B)] w (ReachedEnds g w):=by
 obtain⟨a,c,rfl,hm⟩:=h.len;have hlB:=hM.lt;have hmk:=fun w=>make_bools hrn w
 have hb0:(boolsV (List.replicate g.rules.length false))[0]?=some (.bool false):=by rw[bools_get _ (by simpa using hn)];simp[Lx.at?,hn]
 go_enter Tryz.func53,Tryz.ntmps53;go_wp2_with fail;have e4:w.heap.size+1+1+1+1=w.heap.size+4:=rfl;have e3:w.heap.size+1+1+1=w.heap.size+3:=rfl;have e2:w.heap.size+1+1=w.heap.size+2:=rfl;rw[e4,e3,e2];clear e4 e3 e2 hmk;obtain⟨W,hW⟩:∃ W,W=((((w.alloc (.cells #[.map (some B)] 119)).alloc (.cells ((boolsV (List.replicate g.rules.length false)).setIfInBounds 0 (.bool true)) 4)).alloc (.cells #[.slice (some ⟨w.heap.size+1,0,none⟩) g.rules.length g.rules.length] 39)).alloc (.cells #[.int .i64 0] 3)).alloc (.cells #[.slice (some ⟨w.heap.size+3,0,none⟩) 1 1] 24):=⟨_,rfl⟩;rw[<-hW];have hRS0:RS w.heap.size g.rules.length B num w W ((List.replicate g.rules.length false).set 0 true,[0]):=by
  have hb:Below w.heap.size w W:=by rw[hW];exact (((((Below.refl _ _).alloc (Nat.le_refl _) _).alloc (by simp) _).alloc (by simp;omega) _).alloc (by simp;omega) _).alloc (by simp;omega) _
  refine⟨?_,hM.move (hb.block B hlB),hlB,?_,?_,⟨.slice (some ⟨w.heap.size+3,0,none⟩) 1 1,?_,⟨rfl,.inr ⟨w.heap.size+3,1,#[.int .i64 0],rfl,Nat.zero_le _,?_,Nat.le_refl _,by decide,rfl,rfl⟩⟩,fun g hg=>.inl (Option.some.inj hg).symm⟩,by show _=_;simp,hb⟩
  ·rw[hW];exact ((((Blk.new w _ 119).alloc _).alloc _).alloc _).alloc _
  ·rw[hW,<-bools_set]
   have:=(((Blk.new (w.alloc (.cells #[.map (some B)] 119)) ((boolsV (List.replicate g.rules.length false)).setIfInBounds 0 (.bool true)) 4).alloc (.cells #[.slice (some ⟨w.heap.size+1,0,none⟩) g.rules.length g.rules.length] 39)).alloc (.cells #[.int .i64 0] 3)).alloc (.cells #[.slice (some ⟨w.heap.size+3,0,none⟩) 1 1] 24);simpa using this
  ·rw[hW]
   have:=((Blk.new ((w.alloc (.cells #[.map (some B)] 119)).alloc (.cells ((boolsV (List.replicate g.rules.length false)).setIfInBounds 0 (.bool true)) 4)) #[.slice (some ⟨w.heap.size+1,0,none⟩) g.rules.length g.rules.length] 39).alloc (.cells #[.int .i64 0] 3)).alloc (.cells #[.slice (some ⟨w.heap.size+3,0,none⟩) 1 1] 24);simpa using this
  ·rw[hW]
   have:=Blk.new ((((w.alloc (.cells #[.map (some B)] 119)).alloc (.cells ((boolsV (List.replicate g.rules.length false)).setIfInBounds 0 (.bool true)) 4)).alloc (.cells #[.slice (some ⟨w.heap.size+1,0,none⟩) g.rules.length g.rules.length] 39)).alloc (.cells #[.int .i64 0] 3)) #[.slice (some ⟨w.heap.size+3,0,none⟩) 1 1] 24;simpa using this
  ·rw[hW]
   have k3:Blk (((((w.alloc (.cells #[.map (some B)] 119)).alloc (.cells ((boolsV (List.replicate g.rules.length false)).setIfInBounds 0 (.bool true)) 4)).alloc (.cells #[.slice (some ⟨w.heap.size+1,0,none⟩) g.rules.length g.rules.length] 39)).alloc (.cells #[.int .i64 0] 3)).alloc (.cells #[.slice (some ⟨w.heap.size+3,0,none⟩) 1 1] 24)) (w.heap.size+3) #[.int .i64 0] 3:=by
    have:=(Blk.new (((w.alloc (.cells #[.map (some B)] 119)).alloc (.cells ((boolsV (List.replicate g.rules.length false)).setIfInBounds 0 (.bool true)) 4)).alloc (.cells #[.slice (some ⟨w.heap.size+1,0,none⟩) g.rules.length g.rules.length] 39)) #[.int .i64 0] 3).alloc (.cells #[.slice (some ⟨w.heap.size+3,0,none⟩) 1 1] 24);simpa using this
   exact k3
 have hRI0:=Lx.RI.start hn;clear hW;obtain⟨s0,hs0⟩:∃ s0,s0=(List.replicate g.rules.length false).set 0 true:=⟨_,rfl⟩;have HS0:Hid (s0=(List.replicate g.rules.length false).set 0 true):=hs0;rw[<-hs0]at hRS0 hRI0;clear hs0
 go_loopg [] (g.rules.length+1) (fun k wr=>∃ s:List Bool × List Nat,s.2.length+(g.rules.length-Lx.cntB s.1)<=k/\s.2.length+(g.rules.length-Lx.cntB s.1)<=g.rules.length+1/\RS w.heap.size g.rules.length B num w wr s/\Lx.RI g s0 s)
 case atStart=>exact⟨(s0,[0]),by simp;omega,by simp;omega,hRS0,hRI0⟩
 case round =>
  clear hRS0 hRI0;obtain⟨⟨bs,opx⟩,hk,hk2,hRS,hRI⟩:=hrel;obtain⟨h1,h2,h3,h4,h5,⟨vo,h6,h7,h8⟩,h9,h10⟩:=id hRS;have hsr:w.heap.size+5<=wr.heap.size:=h6.lt;have hcb:=Lx.cntB_le bs;have hlb:Hid (bs.length=g.rules.length):=h9;rcases List.eq_nil_or_concat opx with hnil | ⟨op,r,hop⟩
  ·subst hnil
   obtain⟨oa,oc,hvo,-⟩:=own_len h7;subst hvo;have c4:wr.cell? ⟨w.heap.size+4,0,none⟩=some (.slice oa 0 oc):=h6.cell 0;have c2:wr.cell? ⟨w.heap.size+2,0,none⟩=some (.slice (some ⟨w.heap.size+1,0,none⟩) g.rules.length g.rules.length):=h5.cell 0;go_wp2_with fail;go_ret;exact⟨w.heap.size+1,bs,rfl,Nat.le_succ _,h4,HS0.out ▸ hRI.end,h10⟩
  ·rw[List.concat_eq_append]at hop
   subst hop;obtain⟨oa,oc,hvo,hom⟩:=own_len h7;subst hvo;obtain⟨og,rfl,hoc,hocm,log,how,hoc2⟩:=own_pop h7;have hrr:=hRI.op r (by simp);have c4:wr.cell? ⟨w.heap.size+4,0,none⟩=some (.slice (some ⟨og,0,none⟩) (op.length+1) oc):=by have:=h6.cell 0;simpa using this
   have f4:∀ i,wr.frozen? ⟨w.heap.size+4,i,none⟩=false:=h6.frozen;unfold maxLen at hocm;have hopl:op.length+1+(g.rules.length-Lx.cntB bs)<=gk:=by simpa using hk
   have hopm:op.length+1+(g.rules.length-Lx.cntB bs)<=g.rules.length+1:=by simpa using hk2
   have hrlt:=hrr.1;obtain⟨gb,cap,va,hv,hFg,hA,d0,d1⟩:=h.at hrlt;cases hv;obtain⟨sa,sc,hva,-⟩:=AltsIn.len hA;subst hva;have lgb:gb<w.heap.size:=h.lt gb hFg;have dr1:wr.cell? ⟨gb,r*2+1,none⟩=some (.slice sa g.rules[r].alts.length sc):=(World.cell?_of_block (w:=w) (h10.block gb lgb)).trans d1;have hunk:Lx.unk g (Lx.flatA 9 g.rules[r].alts)=none:=Lx.unkG_all hu _ (List.getElem_mem hrlt);have halt:Lx.altsAt g r=g.rules[r].alts:=Lx.altsAt_eq hrlt;have hnm:∀ it,it∈Lx.itsA 9 g.rules[r].alts->it.kind=0->it.name∈Lx.ruleNames g:=fun it hi hk=>Lx.fnd_mem.1 (Lx.unk_its hunk hi hk)
   have hfl:∀ b,b∈Lx.ruleNames g->Lx.fix (Lx.ruleNames g) b<g.rules.length:=fun b hb=>by
    have:=(fnd_fix (Lx.fnd_mem.2 hb)).2;simpa [Lx.ruleNames]using this
   obtain⟨w1,hw1⟩:∃ w1,w1=wr.setCell ⟨w.heap.size+4,0,none⟩ (.slice (some ⟨og,0,none⟩) op.length oc):=⟨_,rfl⟩;have hog:og=w.heap.size+3∨w.heap.size+5<=og:=h8 og rfl;have hRS1:RS w.heap.size g.rules.length B num w w1 (bs,op):=by
    rw[hw1];refine⟨h1.other (by omega) _,h2.move (Below.heap_setCell _ _ _ _ (by show B≠w.heap.size+4;omega)),h3,h4.other (by omega) _,h5.other (by omega) _,⟨_,h6.set 0 _,own_move how fun g hg=>Below.heap_setCell _ _ _ _ (fun e=>?_),fun g hg=>?_⟩,h9,h10.setCell (p:=⟨w.heap.size+4,0,none⟩) (by show w.heap.size<=w.heap.size+4;omega) _⟩
    ·have e':g=w.heap.size+4:=e
     have e'':og=g:=Option.some.inj hg;omega
    ·have e'':og=g:=Option.some.inj hg
     rw[<-e''];exact hog
   have HST:Hid (Lx.RI g s0 (Lx.visL (Lx.ruleNames g) (bs,op) (Lx.usedN (Lx.altsAt g r)))/\(Lx.visL (Lx.ruleNames g) (bs,op) (Lx.usedN (Lx.altsAt g r))).2.length+Lx.cntB bs=op.length+Lx.cntB (Lx.visL (Lx.ruleNames g) (bs,op) (Lx.usedN (Lx.altsAt g r))).1):=by
    refine Lx.RI.step hRI fun u hu'=>?_
    rw[halt]at hu';have e:Lx.usedN g.rules[r].alts=Lx.usedD 9 g.rules[r].alts:=rfl;rw[e,<-Lx.used_its]at hu';obtain⟨it,hit,rfl⟩:=List.mem_map.1 hu';obtain⟨hi1,hi2⟩:=List.mem_filter.1 hit;have:=hfl _ (hnm it hi1 (of_decide_eq_true hi2));rw[hlb.out];exact this
   have q1:=each_at 9 95 96 #[.pointer (some ⟨w.heap.size,0,none⟩),.pointer (some ⟨w.heap.size+2,0,none⟩),.pointer (some ⟨w.heap.size+4,0,none⟩)] (fun it=>decide (it.kind=0)) F w (fun L w'=>(∀ p∈L,Lx.fix (Lx.ruleNames g) p.2.name<bs.length)/\RS w.heap.size g.rules.length B num w w' (Lx.visL (Lx.ruleNames g) (bs,op) (L.map fun p=>p.2.name))) (fun p=>p.2.kind=0->p.2.name∈Lx.ruleNames g) callF_95 callF_96
    (fun w' n m it _ hi=>isName_item hi)
    (fun w' L n m it hI _ hi hwd hq=>by
     have hk0:it.kind=0:=of_decide_eq_true hwd;have hmem:=hq hk0;have hlt:=hfl _ hmem;obtain⟨new,n1,-,-,n4⟩:=Lx.visL_op (Lx.ruleNames g) (L.map fun p=>p.2.name) (bs,op) (fun u hu'=>by
      obtain⟨p,hp,rfl⟩:=List.mem_map.1 hu';exact hI.1 p hp)
     have hcl:=Lx.cntB_le (Lx.visL (Lx.ruleNames g) (bs,op) (L.map fun p=>p.2.name)).1;have hcl2:=hI.2.len.out;have n1':(Lx.visL (Lx.ruleNames g) (bs,op) (L.map fun p=>p.2.name)).2.length=op.length+new.length:=by rw[n1,List.length_append]
     refine (visit_reach hI.2 hi (hnum _ hmem) hlt (by omega)).mono ?_;rintro e w'' ⟨rfl,hR⟩;refine⟨rfl,fun p hp=>?_,?_⟩
     ·rcases List.mem_append.1 hp with hp | hp
      ·exact hI.1 p hp
      ·rw[List.mem_singleton.1 hp,hlb.out];exact hlt
     ·have e:Lx.visL (Lx.ruleNames g) (bs,op) ((L++[((⟨n,m*4,none⟩:Addr),it)]).map fun p=>p.2.name)=Lx.vis (Lx.ruleNames g) (Lx.visL (Lx.ruleNames g) (bs,op) (L.map fun p=>p.2.name)) it.name:=by
       unfold Lx.visL;rw[List.map_append,List.foldl_append];rfl
      rw[e];exact hR)
    (fun L w' hI b hb=>hI.2.fr.block b (h.lt b hb))
    _ _ hA (fun p hp hk0=>hnm p.2 (by rw[<-adA_snd hA];exact List.mem_map.2 ⟨p,hp,rfl⟩) hk0) w1 [] ⟨fun p hp=>(by cases hp),hRS1⟩
   have hus:((adA 9 w (.slice sa g.rules[r].alts.length sc) g.rules[r].alts).filter fun p=>decide (p.2.kind=0)).map (fun p=>p.2.name)=Lx.usedN (Lx.altsAt g r):=by
    rw[halt];have e:Lx.usedN g.rules[r].alts=Lx.usedD 9 g.rules[r].alts:=rfl;rw[e,<-Lx.used_its,<-adA_snd hA,List.filter_map,List.map_map];rfl
   rw[List.nil_append,hus]at q1;clear hk hk2 hom h7 hus hnm hfl halt hunk hRS hRI hRS1 how h1 h2 h4 h5 h6 hA d0 hb0;generalize g.rules[r].alts=al at dr1 q1;generalize Lx.visL (Lx.ruleNames g) (bs,op) (Lx.usedN (Lx.altsAt g r))=s2 at q1 HST;go_wp2_with fail;rw[<-hw1];refine q1.mono ?_;rintro e w2 ⟨rfl,-,hR2⟩;have hst:=HST.out;have hcl2:=Lx.cntB_le s2.1;have hln:=hR2.len.out;have hlbo:=hlb.out;have hm1:s2.2.length+(g.rules.length-Lx.cntB s2.1)<=op.length+(g.rules.length-Lx.cntB bs):=by omega
   go_wp2_with fail;go_roundg (s2.2.length+(g.rules.length-Lx.cntB s2.1))
   case measure=>omega
   case rel=>exact⟨s2,Nat.le_refl _,by omega,hR2,hst.1⟩
end
section
open Go.RowKit
open Tr
theorem callF_97 (ar:Array Value)(w:World):(callFunc 97 ar).run Tryz.prog w=.ok (.enter 97 ar) w:=by kernel_rfl
structure ES (lo n B:Nat) (num:ByteArray->Int) (w0 w:World) (bs:List Bool):Prop where
 nb:Blk w lo #[.map (some B)] 119
 mp:SMap w B num
 bl:B<lo
 fo:Blk w (lo+1) (boolsV bs) 4
 fv:Blk w (lo+2) #[.slice (some ⟨lo+1,0,none⟩) n n] 39
 len:Hid (bs.length=n)
 fr:Below lo w0 w
theorem ES.below {lo n B:Nat}{num:ByteArray->Int}{w0 w w':World}{bs:List Bool}(h:ES lo n B num w0 w bs)(hb:Below w.heap.size w w'):ES lo n B num w0 w' bs:=by
 have l2:=h.fv.lt;exact⟨(hb.block _ (by omega)).trans h.nb,h.mp.move (hb.block _ (by have:=h.bl;omega)),h.bl,(hb.block _ (by omega)).trans h.fo,(hb.block _ l2).trans h.fv,h.len,h.fr.trans (hb.mono (by omega))⟩
theorem endName_any {lo n B:Nat} {num:ByteArray->Int} {w0 w:World} {bs:List Bool} (h:ES lo n B num w0 w bs) {q:Nat} {b:ByteArray} (hq:num b=(q:Int)) (hl:q<n) :
  Calls Tryz.prog 97 #[.string b,.pointer (some ⟨lo+2,0,none⟩),.pointer (some ⟨lo,0,none⟩)] w (Asks w (Lx.at? bs q)):=by
 have hlk:=h.mp.look b;rw[hq]at hlk;have c0:w.cell? ⟨lo,0,none⟩=some (.map (some B)):=h.nb.cell 0;have c2:w.cell? ⟨lo+2,0,none⟩=some (.slice (some ⟨lo+1,0,none⟩) n n):=h.fv.cell 0;have o1:w.cell? ⟨lo+1,q,none⟩=some (.bool (Lx.at? bs q)):=(h.fo.cell q).trans (bools_get bs (by have:=h.len.out;omega));go_enter Tryz.func97,Tryz.ntmps97;go_wp2_with fail;go_ret;exact⟨rfl,Below.refl _ _⟩
namespace Lx
structure EI (g:Gr) (s0 bs:List Bool):Prop where
 len:bs.length=g.rules.length
 has:LeB s0 bs
 least:∀ T,T.length=g.rules.length->LeB s0 T->(∀ i,i<g.rules.length->ClE g i T)->LeB bs T
theorem EI.step {g:Gr}{s0 bs:List Bool}(h:EI g s0 bs)(i:Nat):EI g s0 (endStep g i bs):=by
 have hle:=(end_step g).le i bs;exact⟨hle.1.symm.trans h.len,h.has.trans hle,fun T hT h1 h2=>end_keep g T (fun i hi=>h2 i (by omega)) i bs (h.least T hT h1 h2)⟩
theorem endStep_on {g:Gr}{i:Nat}{bs:List Bool}(hi:i<g.rules.length)(he:endsA (onB g bs) 9 g.rules[i].alts=true):endStep g i bs=bs.set i true:=by
 rw[endStep,altsAt_eq hi,if_pos he]
theorem endStep_off {g:Gr}{i:Nat}{bs:List Bool}(hi:i<g.rules.length)(h:at? bs i=true∨endsA (onB g bs) 9 g.rules[i].alts=false):ClE g i bs:=by
 intro he hl;rw[altsAt_eq hi]at he;rcases h with h | h
 ·exact h
 ·rw[h]at he;cases he
end Lx
def EndingEnds (g:Lx.Gr)(w:World)(e:Ending)(w':World):Prop:=∃ o bs,e=.returned (.slice (some ⟨o,0,none⟩) g.rules.length g.rules.length)/\w.heap.size<=o/\Blk w' o (boolsV bs) 4/\Lx.LeastB (Lx.ClE g) g.rules.length (List.replicate g.rules.length false) bs/\Below w.heap.size w w'
def grN (b:Bool):Nat:=if b=true then 1 else 0
theorem pending_any {F:Nat->Prop} {w:World} {vR:Value} {g:Lx.Gr} (h:PGr F w vR g.rules) {B:Nat} {num:ByteArray->Int} (hM:SMap w B num) (hnum:∀ b,b∈Lx.ruleNames g->num b=(Lx.fix (Lx.ruleNames g) b:Int)) (hu:Lx.unkG g=none) (hkd:∀ r∈g.rules,∀ it∈Lx.itsA 9 r.alts,it.kind<=2) (hrn:g.rules.length<=2001) :
  Calls Tryz.prog 54 #[vR,.map (some B)] w (EndingEnds g w):=by
 obtain⟨a,c,rfl,hm⟩:=h.len;unfold maxLen at hm;have hlB:=hM.lt;have hmk:=fun w=>make_bools hrn w
 have hfl:∀ b,b∈Lx.ruleNames g->Lx.fix (Lx.ruleNames g) b<g.rules.length:=fun b hb=>by
  have:=(fnd_fix (Lx.fnd_mem.2 hb)).2;simpa [Lx.ruleNames]using this
 go_enter Tryz.func54,Tryz.ntmps54;go_wp2_with fail;rw[show w.heap.size+1+1=w.heap.size+2 from rfl];obtain⟨W,hW⟩:∃ W,W=((w.alloc (.cells #[.map (some B)] 119)).alloc (.cells (boolsV (List.replicate g.rules.length false)) 4)).alloc (.cells #[.slice (some ⟨w.heap.size+1,0,none⟩) g.rules.length g.rules.length] 39):=⟨_,rfl⟩;rw[<-hW];have hES0:ES w.heap.size g.rules.length B num w W (List.replicate g.rules.length false):=by
  have hb:Below w.heap.size w W:=by rw[hW];exact (((Below.refl _ _).alloc (Nat.le_refl _) _).alloc (by simp) _).alloc (by simp;omega) _
  refine⟨?_,hM.move (hb.block B hlB),hlB,?_,?_,by show _=_;simp,hb⟩
  ·rw[hW];exact ((Blk.new w _ 119).alloc _).alloc _
  ·rw[hW]
   have:=(Blk.new (w.alloc (.cells #[.map (some B)] 119)) (boolsV (List.replicate g.rules.length false)) 4).alloc (.cells #[.slice (some ⟨w.heap.size+1,0,none⟩) g.rules.length g.rules.length] 39);simpa using this
  ·rw[hW]
   have:=Blk.new ((w.alloc (.cells #[.map (some B)] 119)).alloc (.cells (boolsV (List.replicate g.rules.length false)) 4)) #[.slice (some ⟨w.heap.size+1,0,none⟩) g.rules.length g.rules.length] 39;simpa using this
 have hEI0:Lx.EI g (List.replicate g.rules.length false) (List.replicate g.rules.length false):=⟨by simp,Lx.LeB.refl _,fun T _ h _=>h⟩;obtain⟨s0,hs0⟩:∃ s0,s0=List.replicate g.rules.length false:=⟨_,rfl⟩;have HS0:Hid (s0=List.replicate g.rules.length false):=hs0;rw[<-hs0]at hES0 hEI0;clear hs0 hW hmk
 go_loopg [7] (g.rules.length+1) (fun k gv wr=>∃ (bs:List Bool) (gr:Bool),gv=.bool gr/\(g.rules.length-Lx.cntB bs)+grN gr<=k/\ES w.heap.size g.rules.length B num w wr bs/\Lx.EI g s0 bs/\Hid (gr=false->∀ i,i<g.rules.length->Lx.ClE g i bs))
 case atStart=>exact⟨s0,true,rfl,by simp[grN],hES0,hEI0,fun h=>by cases h⟩
 case round =>
  clear hES0 hEI0;revert wr;intro wz hrel;obtain⟨bs,gr,rfl,hk,hES,hEI,HC⟩:=hrel;have hcb:=Lx.cntB_le bs;have hlbs:=hEI.len;cases gr with
  | false =>
   have c2:wz.cell? ⟨w.heap.size+2,0,none⟩=some (.slice (some ⟨w.heap.size+1,0,none⟩) g.rules.length g.rules.length):=hES.fv.cell 0;have hst:Lx.LeastB (Lx.ClE g) g.rules.length (List.replicate g.rules.length false) bs:=by rw[<-HS0.out];exact⟨hEI.len,hEI.has,HC.out rfl,hEI.least⟩
   have HLB:Hid _:=hlbs;clear hlbs;go_wp2_with fail;go_ret;exact⟨w.heap.size+1,bs,rfl,Nat.le_succ _,hES.fo,hst,hES.fr⟩
  | true =>
   clear HC;have hk2:g.rules.length-Lx.cntB bs+1<=gk:=by simpa [grN]using hk
   have HLB:Hid (bs.length=g.rules.length):=hlbs;clear hk hlbs;go_wp2_with fail;have H1:Hid ((false=false->bs=bs/\∀ i,i<g.rules.length->i<0->Lx.ClE g i bs)/\(false=true->Lx.cntB bs<Lx.cntB bs)/\Lx.LeB bs bs):=⟨fun _=>⟨rfl,fun i _ h=>(by omega)⟩,fun h=>(by cases h),Lx.LeB.refl _⟩
   go_loopg [7,17] g.rules.length (fun k gv i wr=>∃ (j:Nat) (b2:List Bool) (gr:Bool),j+k=g.rules.length/\gv=.bool gr/\i=.int .i64 j/\ES w.heap.size g.rules.length B num w wr b2/\Lx.EI g s0 b2/\Hid ((gr=false->b2=bs/\∀ i,i<g.rules.length->i<j->Lx.ClE g i bs)/\(gr=true->Lx.cntB bs<Lx.cntB b2)/\Lx.LeB bs b2))
   case atStart=>exact⟨0,bs,false,by omega,rfl,rfl,hES,hEI,H1⟩
   case round =>
    clear H1 hES hEI;obtain⟨j,b2,gr,hkj,rfl,rfl,hES,hEI,HJ⟩:=hrel;have hl2:=hES.fv.lt;have hl1:=hES.fo.lt
    by_cases hlt:j<g.rules.length
    ·obtain⟨gb,cap,va,hv,hFg,hA,d0,d1⟩:=h.at hlt
     cases hv;obtain⟨sa,sc,hva,-⟩:=AltsIn.len hA;subst hva;have lgb:gb<w.heap.size:=h.lt gb hFg;have dr0:wr.cell? ⟨gb,j*2,none⟩=some (.string g.rules[j].name):=(World.cell?_of_block (w:=w) (hES.fr.block gb lgb)).trans d0;have dr1:wr.cell? ⟨gb,j*2+1,none⟩=some (.slice sa g.rules[j].alts.length sc):=(World.cell?_of_block (w:=w) (hES.fr.block gb lgb)).trans d1;have hunk:Lx.unk g (Lx.flatA 9 g.rules[j].alts)=none:=Lx.unkG_all hu _ (List.getElem_mem hlt);have hok:∀ it∈Lx.itsA 9 g.rules[j].alts,EndOk (fun b=>b∈Lx.ruleNames g) it:=fun it hi=>⟨hkd _ (List.getElem_mem hlt) it hi,fun hk=>Lx.fnd_mem.1 (Lx.unk_its hunk hi hk)⟩
     obtain⟨W1,hW1⟩:∃ W1,W1=wr.alloc (.cells #[.string g.rules[j].name,.slice sa g.rules[j].alts.length sc] 179):=⟨_,rfl⟩;have hb1:Below wr.heap.size wr W1:=by rw[hW1];exact (Below.refl _ _).alloc (Nat.le_refl _) _
     have hES1:=hES.below hb1;have hOW:OkW F w (fun w'=>ES w.heap.size g.rules.length B num w w' b2):=⟨fun w' hw' b hb=>⟨hw'.fr.block b (h.lt b hb),by have:=hw'.fv.lt;have:=h.lt b hb;omega⟩,fun w' w'' hw' hb=>hw'.below hb⟩;have hNF:NameF (fun w'=>ES w.heap.size g.rules.length B num w w' b2) 97 #[.pointer (some ⟨w.heap.size+2,0,none⟩),.pointer (some ⟨w.heap.size,0,none⟩)] (Lx.onB g b2) (fun b=>b∈Lx.ruleNames g):=⟨callF_97,fun w' b hw' hb=>endName_any hw' (hnum b hb) (hfl b hb)⟩;have q1:=altsEnd_at 9 F w _ hOW 97 _ _ _ hNF _ _ hA hok W1 hES1;have hlb2:j<b2.length:=by have:=hES.len.out;omega
     have c2:wr.cell? ⟨w.heap.size+2,0,none⟩=some (.slice (some ⟨w.heap.size+1,0,none⟩) g.rules.length g.rules.length):=hES.fv.cell 0;have o1:wr.cell? ⟨w.heap.size+1,j,none⟩=some (.bool (Lx.at? b2 j)):=(hES.fo.cell j).trans (bools_get b2 hlb2);have HLJ:Hid (j<b2.length):=hlb2;have hon:Lx.endsA (Lx.onB g b2) 9 g.rules[j].alts=true->Lx.endStep g j b2=b2.set j true:=Lx.endStep_on hlt;have hoff:(Lx.at? b2 j=true∨Lx.endsA (Lx.onB g b2) 9 g.rules[j].alts=false)->Lx.ClE g j b2:=Lx.endStep_off hlt;have HON:Hid _:=hon;have HOF:Hid _:=hoff;have hEI2:=hEI.step j;clear hon hoff hunk hok hA d0 d1 hlb2;cases hb:Lx.at? b2 j with
     | true =>
      have HJ2:Hid ((gr=false->b2=bs/\∀ i,i<g.rules.length->i<j+1->Lx.ClE g i bs)/\(gr=true->Lx.cntB bs<Lx.cntB b2)/\Lx.LeB bs b2):=by
       refine⟨fun hg=>?_,HJ.out.2⟩;have h1:=HJ.out.1 hg;refine⟨h1.1,fun i hi hij=>?_⟩
       by_cases hij2:i=j
       ·rw[hij2,<-h1.1];exact HOF.out (.inl hb)
       ·exact h1.2 i hi (by omega)
      rw[hb]at o1;clear HJ HON HOF q1 hb;go_wp2_with fail;rw[<-hW1];go_roundg (g.rules.length - (j+1))
      case measure=>omega
      case rel=>exact⟨j+1,b2,gr,by omega,rfl,by go_num,hES1,hEI,HJ2⟩
     | false =>
      rw[hb]at o1;cases he:Lx.endsA (Lx.onB g b2) 9 g.rules[j].alts with
      | true =>
       have HS:Hid (Lx.endStep g j b2=b2.set j true):=HON.out he;have HCN:Hid (Lx.cntB (b2.set j true)=Lx.cntB b2+1):=Lx.cnt_set HLJ.out hb;have HJ2:Hid ((true=false->b2.set j true=bs/\∀ i,i<g.rules.length->i<j+1->Lx.ClE g i bs)/\(true=true->Lx.cntB bs<Lx.cntB (b2.set j true))/\Lx.LeB bs (b2.set j true)):=by
        refine⟨fun h=>(by cases h),fun _=>?_,HJ.out.2.2.trans (Lx.LeB.set b2 j)⟩;have:=Lx.cnt_mono HJ.out.2.2;rw[HCN.out];omega
       rw[he]at q1;clear HJ HON HOF hb he;go_wp2_with fail;rw[<-hW1];refine q1.mono ?_;rintro e w2 ⟨rfl,hb2⟩;have hES2:=hES1.below hb2;have c22:w2.cell? ⟨w.heap.size+2,0,none⟩=some (.slice (some ⟨w.heap.size+1,0,none⟩) g.rules.length g.rules.length):=hES2.fv.cell 0;have o2:w2.cell? ⟨w.heap.size+1,j,none⟩=some (.bool (Lx.at? b2 j)):=(hES2.fo.cell j).trans (bools_get b2 HLJ.out);have of2:∀ i,w2.frozen? ⟨w.heap.size+1,i,none⟩=false:=hES2.fo.frozen;have hES3:ES w.heap.size g.rules.length B num w (w2.setCell ⟨w.heap.size+1,j,none⟩ (.bool true)) (b2.set j true):=by
        refine⟨hES2.nb.other (by omega) _,hES2.mp.move (Below.heap_setCell _ _ _ _ (by show B≠w.heap.size+1;omega)),hES2.bl,?_,hES2.fv.other (by omega) _,?_,hES2.fr.setCell (p:=⟨w.heap.size+1,j,none⟩) (by show w.heap.size<=w.heap.size+1;omega) _⟩
        ·rw[<-bools_set];exact hES2.fo.set j _
        ·show (b2.set j true).length=_
         rw[List.length_set];exact hES2.len.out
       rw[HS.out]at hEI2;go_wp2_with fail;go_roundg (g.rules.length - (j+1))
       case measure=>omega
       case rel=>exact⟨j+1,b2.set j true,true,by omega,rfl,by go_num,hES3,hEI2,⟨HJ2.out.1,fun _=>HJ2.out.2.1 trivial,HJ2.out.2.2⟩⟩
      | false =>
       have HJ2:Hid ((gr=false->b2=bs/\∀ i,i<g.rules.length->i<j+1->Lx.ClE g i bs)/\(gr=true->Lx.cntB bs<Lx.cntB b2)/\Lx.LeB bs b2):=by
        refine⟨fun hg=>?_,HJ.out.2⟩;have h1:=HJ.out.1 hg;refine⟨h1.1,fun i hi hij=>?_⟩
        by_cases hij2:i=j
        ·rw[hij2,<-h1.1];exact HOF.out (.inr he)
        ·exact h1.2 i hi (by omega)
       rw[he]at q1;clear HJ HON HOF hb he;go_wp2_with fail;rw[<-hW1];refine q1.mono ?_;rintro e w2 ⟨rfl,hb2⟩;have hES2:=hES1.below hb2;go_wp2_with fail;go_roundg (g.rules.length - (j+1))
       case measure=>omega
       case rel=>exact⟨j+1,b2,gr,by omega,rfl,by go_num,hES2,hEI,HJ2⟩
    ·have:j=g.rules.length:=by omega
     subst this;have hj:=HJ.out;clear HJ;have hlb:=HLB.out;have hcb2:=Lx.cntB_le b2;have hl2':=hES.len.out;have HX:Hid (g.rules.length-Lx.cntB b2+grN gr<=g.rules.length-Lx.cntB bs+grN gr/\(gr=true->Lx.cntB bs<Lx.cntB b2)/\(gr=false->∀ i,i<g.rules.length->Lx.ClE g i b2)):=by
      have:=Lx.cnt_mono hj.2.2;refine⟨by omega,hj.2.1,fun hg i hi=>?_⟩;have h1:=hj.1 hg;rw[h1.1];exact h1.2 i hi hi
     clear hj hlb hl2';have HM:Hid (g.rules.length-Lx.cntB b2+grN gr<g.rules.length-Lx.cntB bs+1):=by
      have h1:=HX.out;have h2:=HLB.out;have h3:=hES.len.out;show _<_;cases gr with
      | true=>have:=h1.2.1 rfl;simp[grN];omega
      | false=>have:=h1.1;simp[grN]at this ⊢;omega
     go_wp2_with fail;go_roundg (g.rules.length-Lx.cntB b2+grN gr)
     case measure=>have:=HM.out;omega
     case rel=>exact⟨b2,gr,rfl,Nat.le_refl _,hES,hEI,HX.out.2.2⟩
end
section
open Go.RowKit
open Tr
namespace Lx
theorem dup_nodup:∀ (ws:List Wd) (s:List ByteArray),firstDup s ws=none->(textsOf ws).Nodup/\∀ b∈textsOf ws,b ∉ s
 | [],_,_=>⟨List.nodup_nil,fun b h=>by cases h⟩
 | w::ws,s,h=>by
  rw[firstDup]at h
  split at h
  ·cases h
  ·rename_i hm
   obtain⟨h1,h2⟩:=dup_nodup ws _ h;rw[textsOf_cons];refine⟨List.nodup_cons.2 ⟨fun hw=>h2 _ hw List.mem_cons_self,h1⟩,fun b hb=>?_⟩;rcases List.mem_cons.1 hb with rfl | hb
   ·exact fun hs=>hm (memB_iff.2 hs)
   ·exact fun hs=>h2 b hb (List.mem_cons_of_mem _ hs)
theorem texts_rules (g:Gr):textsOf (ruleWords g)=ruleNames g:=by unfold textsOf ruleWords ruleNames;rw[List.map_map];rfl
theorem dup_rules {g:Gr}(h:dupG g=none):(ruleNames g).Nodup:=by
 unfold dupG at h;cases h1:firstDup [] (levelWords g) with
 | some p=>rw[h1]at h;cases h
 | none =>
  rw[h1]at h;have:=(dup_nodup _ _ h).1;rw[texts_rules]at this;exact this
theorem twice_is {s:ByteArray}{g:Gr}(h:parse s=.ok g):firstDup [] (told (flatG g))=dupG g:=dup_parts h
theorem unknown_is {s:ByteArray}{g:Gr}(h:parse s=.ok g):firstNone (textsOf (told (flatG g))) (flatG g)=unkG g:=by
 have hk:=flat_kinds h;have e:textsOf (told (flatG g))=levelToks g++ruleNames g:=by rw[told_flat,textsOf_app,texts_rules];rfl
 rw[e,none_unknown ?_ ?_ _ hk,unknown_rules]
 ·rfl
 ·intro b hb
  obtain⟨r,hr,rfl⟩:=List.mem_map.1 hb;exact ((parse_is h).2.1 r hr).1
 ·intro b hb
  rw[show levelToks g=textsOf (levelWords g) from rfl]at hb;obtain⟨w,hw,rfl⟩:=List.mem_map.1 hb;obtain⟨lv,hl,hw⟩:=List.mem_flatMap.1 hw;obtain⟨t,ht,rfl⟩:=List.mem_map.1 hw;exact (parse_is h).1 lv hl t ht
theorem come_is {g:Gr}{bs:List Bool}(h:LeastB (ClC g) g.rules.length ((List.replicate g.rules.length false).set 0 true) bs):bs=comeL g:=h.unique (come_least g _ _ _ (by simp) (Nat.le_refl _))
theorem end_is {g:Gr}{bs:List Bool}(h:LeastB (ClE g) g.rules.length (List.replicate g.rules.length false) bs):bs=endL g:=h.unique (end_least g _ _ _ (by simp) (Nat.le_refl _))
end Lx
theorem firstFault_any {F:Nat->Prop} {w:World} {vR vW:Value} {s:ByteArray} {g:Lx.Gr} (hp:Lx.parse s=.ok g) (h:PGr F w vR g.rules) (hW:WR w vW (Lx.flatG g)) :
  Calls Tryz.prog 26 #[vR,vW] w fun e w'=>e=.returned (.tuple #[.int .i64 ((Lx.chk g).1:Int),.int .i64 ((Lx.chk g).2:Int)])/\Below w.heap.size w w':=by
 have hpi:=Lx.parse_is hp;have hsz:=(Lx.parse_took hp).1;have hrn:g.rules.length<=2001:=by
  have h1:g.rules.length<=Lx.sizeG g.rules:=Lx.len_sum (fun r:Lx.Rl=>1+Lx.sizeA 9 r.alts) fun _ _=>by omega
  omega
 have hkd:∀ r∈g.rules,∀ it∈Lx.itsA 9 r.alts,it.kind<=2:=fun r hr it hi=>by rcases (hpi.2.1 r hr).2.1 it hi with h | h | h <;> omega
 have q1:=ptwice_any hW;rw[Lx.twice_is hp]at q1;obtain⟨wa,wc,rfl,-⟩:=hW.len;obtain⟨ra,rc,rfl,-⟩:=h.len;have HC:Hid (Lx.chk g=Lx.orE 4 (Lx.dupG g) (Lx.orE 5 (Lx.unkG g) (Lx.orE 6 (Lx.firstOff g.rules (Lx.comeL g)) (Lx.orE 7 (Lx.firstOff g.rules (Lx.endL g)) (0,0))))):=rfl;generalize hcr:Lx.chk g=cr at HC;clear hcr;go_enter Tryz.func26,Tryz.ntmps26;go_wp2_with fail;refine q1.mono ?_;rintro e w1 ⟨rfl,hb1⟩;cases hd:Lx.dupG g with
 | some p =>
  have HC2:Hid (cr=(4,p)):=by have:=HC.out;rw[hd]at this;exact this
  have hn1:((p:Int) != -1)=true:=bne_iff_ne.2 (by omega);clear HC q1 hd;unfold atM;go_wp2_with fail;refine bodyPost_ret (v:=.tuple #[.int .i64 4,.int .i64 (p:Int)]) (by simp[results,Tryz.results26,go_sem]) rfl ⟨?_,hb1⟩;rw[HC2.out];rfl
 | none =>
  have q2:=punknown_any (hW.below hb1);rw[Lx.unknown_is hp]at q2;have hnd:=Lx.dup_rules hd;have HC1:Hid (cr=Lx.orE 5 (Lx.unkG g) (Lx.orE 6 (Lx.firstOff g.rules (Lx.comeL g)) (Lx.orE 7 (Lx.firstOff g.rules (Lx.endL g)) (0,0)))):=by have:=HC.out;rw[hd]at this;exact this
  clear HC q1 hd;unfold atM;go_wp2_with fail;refine q2.mono ?_;rintro e w2 ⟨rfl,hb2⟩;have hb12:=hb1.trans (hb2.mono hb1.size);cases hu:Lx.unkG g with
  | some p =>
   have HC2:Hid (cr=(5,p)):=by have:=HC1.out;rw[hu]at this;exact this
   have hn1:((p:Int) != -1)=true:=bne_iff_ne.2 (by omega);clear HC1 q2 hu;unfold atM;go_wp2_with fail;refine bodyPost_ret (v:=.tuple #[.int .i64 5,.int .i64 (p:Int)]) (by simp[results,Tryz.results26,go_sem]) rfl ⟨?_,hb12⟩;rw[HC2.out];rfl
  | none =>
   have HC2:Hid (cr=Lx.orE 6 (Lx.firstOff g.rules (Lx.comeL g)) (Lx.orE 7 (Lx.firstOff g.rules (Lx.endL g)) (0,0))):=by have:=HC1.out;rw[hu]at this;exact this
   have q3:=pnumbers_any (h.below hb12);have HU:Hid (Lx.unkG g=none):=hu;clear HC1 q2 hu;unfold atM;go_wp2_with fail;refine q3.mono ?_;rintro e w3 ⟨B,num,rfl,hB3,hM3,hnum,hb3⟩;have hb13:=hb12.trans (hb3.mono hb12.size);have hnum2:∀ b,b∈Lx.ruleNames g->num b=(Lx.fix (Lx.ruleNames g) b:Int):=by
    intro b hb;have hlt:=(fnd_fix (Lx.fnd_mem.2 hb)).2;have hlr:Lx.fix (Lx.ruleNames g) b<g.rules.length:=by simpa [Lx.ruleNames]using hlt
    have hat:(Lx.ruleNames g)[Lx.fix (Lx.ruleNames g) b]=b:=of_decide_eq_true (List.findIdx_getElem (w:=hlt));have hat2:g.rules[Lx.fix (Lx.ruleNames g) b].name=b:=by
     have:(Lx.ruleNames g)[Lx.fix (Lx.ruleNames g) b]=g.rules[Lx.fix (Lx.ruleNames g) b].name:=by simp[Lx.ruleNames]
     rw[<-this];exact hat
    have:=hnum _ hlr (fun k hk hik e=>by
     have hp:=List.pairwise_iff_getElem.1 hnd _ k hlt (by simpa [Lx.ruleNames]using hk) hik;apply hp;simp only[Lx.ruleNames,List.getElem_map];exact e.symm)
    rw[hat2]at this;exact this
   have q4:=preached_any (h.below hb13) hM3 hnum2 HU.out hpi.2.2 hrn;clear q3;go_wp2_with fail;refine q4.mono ?_;rintro e w4 ⟨o,bs,rfl,ho4,hk4,hls,hb4⟩;have hb14:=hb13.trans (hb4.mono hb13.size);have hbs:=Lx.come_is hls;have q5:=pfirstLeft_any (hW.below hb14) hk4 hls.len (by rw[Lx.cnt1_flat];exact Nat.le_refl _);rw[Lx.fl_flat g bs (by rw[hls.len];exact Nat.le_refl _),hbs]at q5;clear q4;go_wp2_with fail;refine q5.mono ?_;rintro e w5 ⟨rfl,hb5⟩;have hb15:=hb14.trans (hb5.mono hb14.size);cases hf:Lx.firstOff g.rules (Lx.comeL g) with
   | some p =>
    have HC3:Hid (cr=(6,p)):=by have:=HC2.out;rw[hf]at this;exact this
    have hn1:((p:Int) != -1)=true:=bne_iff_ne.2 (by omega);clear HC2 q5 hf hbs hls;unfold atM;go_wp2_with fail;refine bodyPost_ret (v:=.tuple #[.int .i64 6,.int .i64 (p:Int)]) (by simp[results,Tryz.results26,go_sem]) rfl ⟨?_,hb15⟩;rw[HC3.out];rfl
   | none =>
    have HC3:Hid (cr=Lx.orE 7 (Lx.firstOff g.rules (Lx.endL g)) (0,0)):=by have:=HC2.out;rw[hf]at this;exact this
    have hM5:SMap w5 B num:=hM3.move ((hb5.block B (by have:=hM3.lt;have:=hb4.size;omega)).trans (hb4.block B hM3.lt));have q6:=pending_any (h.below hb15) hM5 hnum2 HU.out hkd hrn;clear HC2 q5 hf hbs hls;unfold atM;go_wp2_with fail;refine q6.mono ?_;rintro e w6 ⟨o6,bs6,rfl,ho6,hk6,hls6,hb6⟩;have hb16:=hb15.trans (hb6.mono hb15.size);have hbs6:=Lx.end_is hls6;have q7:=pfirstLeft_any (hW.below hb16) hk6 hls6.len (by rw[Lx.cnt1_flat];exact Nat.le_refl _);rw[Lx.fl_flat g bs6 (by rw[hls6.len];exact Nat.le_refl _),hbs6]at q7;clear q6;go_wp2_with fail;refine q7.mono ?_;rintro e w7 ⟨rfl,hb7⟩;have hb17:=hb16.trans (hb7.mono hb16.size);cases hf:Lx.firstOff g.rules (Lx.endL g) with
    | some p =>
     have HC4:Hid (cr=(7,p)):=by have:=HC3.out;rw[hf]at this;exact this
     have hn1:((p:Int) != -1)=true:=bne_iff_ne.2 (by omega);clear HC3 q7 hf hbs6 hls6;unfold atM;go_wp2_with fail;refine bodyPost_ret (v:=.tuple #[.int .i64 7,.int .i64 (p:Int)]) (by simp[results,Tryz.results26,go_sem]) rfl ⟨?_,hb17⟩;rw[HC4.out];rfl
    | none =>
     have HC4:Hid (cr=(0,0)):=by have:=HC3.out;rw[hf]at this;exact this
     clear HC3 q7 hf hbs6 hls6;unfold atM;go_wp2_with fail;refine bodyPost_ret (v:=.tuple #[.int .i64 0,.int .i64 0]) (by simp[results,Tryz.results26,go_sem]) rfl ⟨?_,hb17⟩;rw[HC4.out];rfl
end
section
open Go.RowKit
open Tr
namespace Lx
theorem firstNone_all:∀ {ws:List Wd} {all:List ByteArray},firstNone all ws=none->∀ x∈ws,(x.1=2∨x.1=4)->x.2.1∈all
 | [],_,_,x,hx,_=>by cases hx
 | w::ws,all,h,x,hx,hr=>by
  rw[firstNone]at h
  split at h
  ·cases h
  ·rename_i hn
   rcases List.mem_cons.1 hx with rfl | hx
   ·cases hm:memB x.2.1 all with
    | true=>exact memB_iff.1 hm
    | false=>exact absurd ⟨hr,hm⟩ hn
   ·exact firstNone_all h x hx hr
theorem prec_lev {s:ByteArray}{g:Gr}(hp:parse s=.ok g)(hu:unkG g=none):∀ x∈flatG g,x.1=4->x.2.1∈levelToks g:=by
 intro x hx h4;have h1:=unknown_is hp;rw[hu]at h1;have h2:=firstNone_all h1 x hx (.inr h4);have e:textsOf (told (flatG g))=levelToks g++ruleNames g:=by rw[told_flat,textsOf_app,texts_rules];rfl
 rw[e]at h2;rcases List.mem_append.1 h2 with h2 | h2
 ·exact h2
 ·exfalso
  obtain⟨r,hr,hn⟩:=List.mem_map.1 h2;have hn1:isName r.name=true:=((parse_is hp).2.1 r hr).1;rcases flat_kinds hp x hx with ⟨h5,-⟩ | ⟨-,h5⟩
  ·omega
  ·have hn2:r.name=x.2.1:=hn
   rw[hn2,tok_not_name h5]at hn1;cases hn1
theorem flat_small {s:ByteArray}{g:Gr}(hp:parse s=.ok g):∀ x∈flatG g,x.2.1.size<=2000:=by
 intro x hx;rcases flat_kinds hp x hx with ⟨-,h⟩ | ⟨-,h⟩
 ·have:=name_size h;omega
 ·have:=token_size h;omega
theorem flat_dollar {s:ByteArray}{g:Gr}(hp:parse s=.ok g):∀ x∈flatG g,¬ x.1=1->¬ x.1=2->x.2.1≠tDollar:=by
 intro x hx h1 h2 e;rcases flat_kinds hp x hx with ⟨h,-⟩ | ⟨-,h⟩
 ·rcases h with h | h
  ·exact h1 h
  ·exact h2 h
 ·rw[e]at h
  revert h;decide
end Lx
section
variable {g:Lx.Gr} {fS:ByteArray -> Int}
theorem sym_tok (hf:Lx.Fit g)(hs:SymF (Lx.tokG g).length g.rules g.rules.length (Lx.tokN (Lx.tokG g)) fS){c:ByteArray}(ht:Lx.isToken c=true)(h0:0<=Lx.fnd (Lx.tokG g) c):fS c=(Lx.fix (Lx.tokG g) c:Int):=by
 rw[hs.tok c fun i hi _ e=>?_]
 ·unfold Lx.tokN
  rw[if_pos h0];unfold Lx.fnd at h0 ⊢
  split at h0
  ·rename_i h1;rw[if_pos h1]
  ·omega
 ·have:=(hf.rl _ (List.getElem_mem hi)).1
  rw[e,Lx.tok_not_name ht]at this;cases this
theorem sym_rule (hf:Lx.Fit g)(hs:SymF (Lx.tokG g).length g.rules g.rules.length (Lx.tokN (Lx.tokG g)) fS){c:ByteArray}(hc:c∈Lx.ruleNames g):fS c=(((Lx.tokG g).length+Lx.fix (Lx.namG g) c:Nat):Int):=by
 obtain⟨r,hr,rfl⟩:=List.mem_map.1 hc;obtain⟨i,hi,rfl⟩:=List.getElem_of_mem hr;rw[hs.rule i hi hi];have:=Lx.fix_nms (fun r hr=>(hf.rl r hr).1) (Lx.dup_rules hf.dup) hi;have e:Lx.namG g=Lx.nms g.rules:=rfl;rw[e,this]
theorem sym_plain (hf:Lx.Fit g)(hs:SymF (Lx.tokG g).length g.rules g.rules.length (Lx.tokN (Lx.tokG g)) fS){r:Lx.Rl}(hr:r∈g.rules){x:Lx.It}(hx:x∈Lx.itsA 9 r.alts)(hk:x.kind≠2):fS x.name=(Lx.psym (Lx.tokG g) (Lx.namG g) x:Int):=by
 have hp:=hf.plain hr hx hk;unfold Lx.Plain1 at hp;unfold Lx.psym;rcases (hf.rl r hr).2.1 x hx with h2 | h2 | h2
 ·rw[if_neg (by omega)]
  exact sym_rule hf hs (Lx.fnd_mem.1 (Lx.unk_its (hf.unkr hr) hx h2.1))
 ·rw[if_pos h2.1]at hp ⊢
  exact sym_tok hf hs h2.2.1 hp
 ·exact absurd h2 hk
end
theorem ruleQ_of {g:Lx.Gr}{F:Nat->Prop}{w:World}{vR:Value}{fS:ByteArray->Int}{fH:Addr->Int}(hf:Lx.Fit g)(hRw:PGr F w vR g.rules)(hap:Apart F w (adRules w (blkOf vR) 0 g.rules))(hs:SymF (Lx.tokG g).length g.rules g.rules.length (Lx.tokN (Lx.tokG g)) fS)(hh:HelF w (blkOf vR) (Lx.tokG g).length g.rules g.rules.length fH){G:Nat->Prop}(hG:∀ b,F b->CellsB w b->G b):∀ i (hi:i<g.rules.length),RuleQ w F G fS fH (Lx.tokG g) (Lx.namG g) (cv w ⟨blkOf vR,i*2+1,none⟩) g.rules[i] ((Lx.tokG g).length+(Lx.nms (g.rules.take i)).length):=by
 intro i hi;have hr:=List.getElem_mem hi;obtain⟨gR,cap,va,hv,hFg,hA,c0,c1⟩:=hRw.at hi;subst hv;have egR:blkOf (.slice (some ⟨gR,0,none⟩) g.rules.length cap)=gR:=rfl;rw[egR]at hap hh ⊢;have ecv:cv w ⟨gR,i*2+1,none⟩=va:=by unfold cv;rw[c1];rfl
 have hel:∀ k p,(hlA w va g.rules[i].alts)[k]?=some p->fH p.1=(((Lx.tokG g).length+(Lx.nms (g.rules.take i)).length+1+k:Nat):Int):=fun k p hp=>hh i hi hi k p (by rw[ecv];exact hp)
 rw[ecv];have hmem:∀ p∈adA 9 w va g.rules[i].alts,p.2∈Lx.itsA 9 g.rules[i].alts:=fun p hp=>by rw[<-adA_snd hA];exact List.mem_map.2 ⟨p,hp,rfl⟩
 have hFC:∀ p∈adA 9 w va g.rules[i].alts,F p.1.block/\CellsB w p.1.block:=fun p hp=>hap.1 p (ixFlat_has g.rules 0 i (List.getElem?_eq_getElem hi) (by rw[Nat.zero_add,ecv];exact hp))
 have hsym:∀ p∈adA 9 w va g.rules[i].alts,symP fS fH p=(Lx.symOf (Lx.tokG g) (Lx.namG g) ((Lx.tokG g).length+(Lx.nms (g.rules.take i)).length) (Lx.hlpA 9 g.rules[i].alts) p.2:Int):=by
  intro p hp;unfold symP Lx.symOf
  by_cases hlp:Lx.hlp p.2=true
  ·rw[if_pos hlp,if_pos hlp]
   have hin:p∈hlA w va g.rules[i].alts:=List.mem_filter.2 ⟨hp,hlp⟩;obtain⟨k,hk,rfl⟩:=List.getElem_of_mem hin;rw[hel k _ (List.getElem?_eq_getElem hk)];have hsnd:=hlA_snd hA;have hk':k<(Lx.hlpA 9 g.rules[i].alts).length:=by rw[<-hlA_len hA];exact hk
   have hx:(Lx.hlpA 9 g.rules[i].alts)[k]=((hlA w va g.rules[i].alts)[k]).2:=by
    have h5:((hlA w va g.rules[i].alts).map Prod.snd)[k]?=(Lx.hlpA 9 g.rules[i].alts)[k]?:=by rw[hsnd]
    rw[List.getElem?_map,List.getElem?_eq_getElem hk,List.getElem?_eq_getElem hk']at h5;simpa using h5.symm
   have hfx:Lx.fixP (Lx.hlpA 9 g.rules[i].alts) ((hlA w va g.rules[i].alts)[k]).2.place<(Lx.hlpA 9 g.rules[i].alts).length:=Lx.fixP_lt (by rw[<-hx];exact List.getElem_mem hk');have:=(Lx.fixP_iff (hf.rise hr) hk' hfx).1 (by rw[hx]);rw[<-this]
  ·rw[if_neg hlp,if_neg hlp]
   refine sym_plain hf hs hr (hmem p hp) fun h2=>hlp ?_
   simp[Lx.hlp,h2]
 refine⟨?_,fun p hp=>⟨(hFC p hp).1,hG _ (hFC p hp).1 (hFC p hp).2,fun h2=>sym_plain hf hs hr (hmem p hp) h2,?_,?_,?_⟩,hsym,hel,?_,?_,?_,?_,hf.ruleL hr _ _ _⟩
 ·exact hs.rule i hi hi
 ·have:=(hf.its hr (hmem p hp)).1;omega
 ·intro a ha
  have:=(hf.its hr (hmem p hp)).2 a ha;omega
 ·obtain⟨n,m,d',va',h1,h2,h3,h4,h5,h6⟩:=adA_sub hA hp
  exact⟨n,m,d',va',h1,h4,h5,fun q hq=>⟨hG _ (hFC q (h6 q hq)).1 (hFC q (h6 q hq)).2,hsym q (h6 q hq)⟩⟩
 ·intro a ha hn
  have h0:=hf.prec hr ha hn;rcases (hf.rl _ hr).2.2 a ha with h1 | h1
  ·exact absurd h1 hn
  ·exact sym_tok hf hs h1 h0
 ·have:=(hf.alts hr).1;omega
 ·intro a ha
  have:=(hf.alts hr).2 a ha;omega
 ·rw[hlA_len hA]
  have:=hf.hlpL hr;omega
end
end Go.Proofs.YtlcppnabbicmoaaGreatDoor
