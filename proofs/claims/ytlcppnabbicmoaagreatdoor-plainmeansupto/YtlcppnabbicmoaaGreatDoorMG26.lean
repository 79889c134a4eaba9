import Derived.Test.YtlcppnabbicmoaaGreatDoorMG25
set_option maxHeartbeats 8000000
set_option maxRecDepth 1000000
namespace Go.Proofs.YtlcppnabbicmoaaGreatDoor
open Lx Go.Proofs.Tryz
open Go.RowKit Tr
def DN (va:Value)(it:Lx.It):Value:=.agg #[.int .i64 (it.kind:Int),.string it.name,.int .u8 (it.mark:Int),va]
def JB (vi:Value)(a:Lx.Alt):Value:=.agg #[vi,.string a.2.1]
structure OkW (F:Nat->Prop) (w0:World) (Ok:World->Prop):Prop where
 fr:∀ w,Ok w->∀ b,F b->w.heap[b]?=w0.heap[b]?/\b<w.heap.size
 up:∀ w w',Ok w->Below w.heap.size w w'->Ok w'
def uQ (w:World)(b:Bool)(e:Ending)(w':World):Prop:=e=.returned (.bool b)/\Below w.heap.size w w'
theorem afG {F:Nat->Prop} {w0:World} {Ok:World->Prop} (hO:OkW F w0 Ok) {nf:Nat} {caps:Array Value} (hcf:∀ (ar:Array Value) (w:World),(callFunc nf ar).run prog w=.ok (.enter nf ar) w) {d:Nat} {pr:Lx.It->Bool} {R:Lx.It->Prop}
  (hf:∀ (w':World) (va:Value) (it:Lx.It),Ok w'->ay YP d F w0 va it.alts->R it->Calls prog nf (#[DN va it]++caps) w' (uQ w' (pr it)))
  {vi:Value} {its:List Lx.It} (hi:bJ YP d F w0 vi its) (hR:∀ it∈its,R it) {w:World} (hw:Ok w) :
  Calls prog 147 #[vi,.func (.func nf) #[] caps] w fun e w'=>∃ q:Int,e=.returned (.int .i64 q)/\(0<=q↔its.any pr=true)/\Below w.heap.size w w':=by
 obtain⟨ia,ic,iF,him⟩:∃ a c,vi=.slice a its.length c/\its.length<=maxLen:=Seq.len (show Tr.Seq F w0 YP.eI YP.sI YP.cI (fun va it=>ay YP d F w0 va it.alts) vi its from hi);subst iF;unfold maxLen at him;go_enter func147,ntmps147;go_wp2_with fail
 go_loopg [8] its.length (fun k i wr=>∃ j:Nat,j+k=its.length/\i=.int .i64 j/\Below w.heap.size w wr/\Hid (∀ m (hm:m<its.length),m<j->pr its[m]=false))
 case atStart=>exact⟨0,by omega,rfl,Below.refl _ _,fun m _ h=>by omega⟩
 case round =>
  obtain⟨j,hk,rfl,hbr,HN⟩:=hrel;have hokr:=hO.up _ _ hw hbr
  by_cases hlt:j<its.length
  ·have hir:=hi
   unfold bJ nV at hir;obtain⟨n,rP,va,hv,hn,ha,hcc⟩:=Seq.at hir (fun _=>rfl) hlt;cases hv;have hRj:=hR its[j] (List.getElem_mem hlt);have hq:=hf wr va its[j] hokr ha hRj;obtain⟨sa,sc,hva,-⟩:=ay.len ha;subst hva;have en:=(hO.fr _ hokr n hn).1;have ln:=(hO.fr _ hokr n hn).2;have x0:wr.cell? ⟨n,j*4,none⟩=some (.int .i64 (its[j].kind:Int)):=(World.cell?_of_block (w:=w0) en).trans (hcc 0 (by decide));have x1:wr.cell? ⟨n,j*4+1,none⟩=some (.string its[j].name):=(World.cell?_of_block (w:=w0) en).trans (hcc 1 (by decide));have x2:wr.cell? ⟨n,j*4+2,none⟩=some (.int .u8 (its[j].mark:Int)):=(World.cell?_of_block (w:=w0) en).trans (hcc 2 (by decide));have x3:wr.cell? ⟨n,j*4+3,none⟩=some (.slice sa its[j].alts.length sc):=(World.cell?_of_block (w:=w0) en).trans (hcc 3 (by decide));unfold DN at hq;have HJ:Hid (∀ b,pr its[j]=b->(b=true->its.any pr=true)/\(b=false->∀ m (hm:m<its.length),m<j+1->pr its[m]=false)):=by
    intro b hb;refine⟨fun h=>List.any_eq_true.2 ⟨its[j],List.getElem_mem hlt,by rw[hb,h]⟩,fun h m hm hmj=>?_⟩
    by_cases Ry:m=j
    ·subst Ry;rw[hb,h]
    ·exact HN.out m hm (by omega)
   clear hcc hir HN;generalize hit:its[j]=it at hq x0 x1 x2 x3 HJ;clear hit;go_wp2_with fail;refine hq.mono ?_;rintro e w2 ⟨rfl,hb2⟩;have hb3:=hbr.trans (hb2.mono hbr.size);cases hp:pr it with
   | true =>
    have HJ2:=(HJ.out true hp).1 rfl;have HA:Hid (its.any pr=true):=HJ2;clear HJ HJ2 hp hq;go_wp2_with fail;go_ret;exact⟨_,rfl,⟨fun _=>HA.out,fun _=>by omega⟩,hb3⟩
   | false =>
    have HA:Hid _:=(HJ.out false hp).2 rfl;clear HJ hp hq;go_wp2_with fail;go_roundg (its.length - (j+1))
    case measure=>omega
    case rel=>exact⟨j+1,by omega,by go_num,hb3,HA⟩
  ·have:j=its.length:=by omega
   subst this;have HA:Hid (¬ its.any pr=true):=by
    intro h;obtain⟨x,hx,hp⟩:=List.any_eq_true.1 h;obtain⟨m,hm,rfl⟩:=List.mem_iff_getElem.1 hx;rw[HN.out m hm hm]at hp;cases hp
   clear HN;go_wp2_with fail;go_ret;exact⟨_,rfl,⟨fun h=>by omega,fun h=>absurd h HA.out⟩,hbr⟩
theorem agr {F:Nat->Prop} {w0:World} {Ok:World->Prop} (hO:OkW F w0 Ok) {nf:Nat} {caps:Array Value} (hcf:∀ (ar:Array Value) (w:World),(callFunc nf ar).run prog w=.ok (.enter nf ar) w) {d:Nat} {pr:Lx.Alt->Bool} {R:Lx.Alt->Prop}
  (hf:∀ (w':World) (va:Value) (it:Lx.Alt),Ok w'->bJ YP d F w0 va it.1->R it->Calls prog nf (#[JB va it]++caps) w' (uQ w' (pr it)))
  {vi:Value} {its:List Lx.Alt} (hi:ay YP (d+1) F w0 vi its) (hR:∀ it∈its,R it) {w:World} (hw:Ok w) :
  Calls prog 146 #[vi,.func (.func nf) #[] caps] w fun e w'=>∃ q:Int,e=.returned (.int .i64 q)/\(0<=q↔its.any pr=true)/\Below w.heap.size w w':=by
 obtain⟨ia,ic,iF,him⟩:∃ a c,vi=.slice a its.length c/\its.length<=maxLen:=ay.len hi;subst iF;unfold maxLen at him;go_enter func146,ntmps146;go_wp2_with fail
 go_loopg [8] its.length (fun k i wr=>∃ j:Nat,j+k=its.length/\i=.int .i64 j/\Below w.heap.size w wr/\Hid (∀ m (hm:m<its.length),m<j->pr its[m]=false))
 case atStart=>exact⟨0,by omega,rfl,Below.refl _ _,fun m _ h=>by omega⟩
 case round =>
  obtain⟨j,hk,rfl,hbr,HN⟩:=hrel;have hokr:=hO.up _ _ hw hbr
  by_cases hlt:j<its.length
  ·have hir:=hi
   obtain⟨n,rP,va,hv,hn,ha,hcc⟩:=Seq.at hir (fun _=>rfl) hlt;cases hv;have hRj:=hR its[j] (List.getElem_mem hlt);have hq:=hf wr va its[j] hokr ha hRj;obtain⟨sa,sc,hva,-⟩:∃ a c,va=.slice a its[j].1.length c/\its[j].1.length<=maxLen:=Seq.len (show Tr.Seq F w0 YP.eI YP.sI YP.cI (fun va it=>ay YP d F w0 va it.alts) va its[j].1 from ha);subst hva;have en:=(hO.fr _ hokr n hn).1;have ln:=(hO.fr _ hokr n hn).2;have x0:wr.cell? ⟨n,j*2,none⟩=some (.slice sa its[j].1.length sc):=(World.cell?_of_block (w:=w0) en).trans (hcc 0 (by decide));have x1:wr.cell? ⟨n,j*2+1,none⟩=some (.string its[j].2.1):=(World.cell?_of_block (w:=w0) en).trans (hcc 1 (by decide));unfold JB at hq;have HJ:Hid (∀ b,pr its[j]=b->(b=true->its.any pr=true)/\(b=false->∀ m (hm:m<its.length),m<j+1->pr its[m]=false)):=by
    intro b hb;refine⟨fun h=>List.any_eq_true.2 ⟨its[j],List.getElem_mem hlt,by rw[hb,h]⟩,fun h m hm hmj=>?_⟩
    by_cases Ry:m=j
    ·subst Ry;rw[hb,h]
    ·exact HN.out m hm (by omega)
   clear hcc hir HN;generalize hit:its[j]=it at hq x0 x1 HJ;clear hit;go_wp2_with fail;refine hq.mono ?_;rintro e w2 ⟨rfl,hb2⟩;have hb3:=hbr.trans (hb2.mono hbr.size);cases hp:pr it with
   | true =>
    have HJ2:=(HJ.out true hp).1 rfl;have HA:Hid (its.any pr=true):=HJ2;clear HJ HJ2 hp hq;go_wp2_with fail;go_ret;exact⟨_,rfl,⟨fun _=>HA.out,fun _=>by omega⟩,hb3⟩
   | false =>
    have HA:Hid _:=(HJ.out false hp).2 rfl;clear HJ hp hq;go_wp2_with fail;go_roundg (its.length - (j+1))
    case measure=>omega
    case rel=>exact⟨j+1,by omega,by go_num,hb3,HA⟩
  ·have:j=its.length:=by omega
   subst this;have HA:Hid (¬ its.any pr=true):=by
    intro h;obtain⟨x,hx,hp⟩:=List.any_eq_true.1 h;obtain⟨m,hm,rfl⟩:=List.mem_iff_getElem.1 hx;rw[HN.out m hm hm]at hp;cases hp
   clear HN;go_wp2_with fail;go_ret;exact⟨_,rfl,⟨fun h=>by omega,fun h=>absurd h HA.out⟩,hbr⟩
theorem aeJ {F:Nat->Prop} {w0:World} {Ok:World->Prop} (hO:OkW F w0 Ok) {nf:Nat} {caps:Array Value} (hcf:∀ (ar:Array Value) (w:World),(callFunc nf ar).run prog w=.ok (.enter nf ar) w) {d:Nat} {pr:Lx.It->Bool} {R:Lx.It->Prop}
  (hf:∀ (w':World) (va:Value) (it:Lx.It),Ok w'->ay YP d F w0 va it.alts->R it->Calls prog nf (#[DN va it]++caps) w' (uQ w' (pr it)))
  {vi:Value} {its:List Lx.It} (hi:bJ YP d F w0 vi its) (hR:∀ it∈its,R it) {w:World} (hw:Ok w) :
  Calls prog 130 #[vi,.func (.func nf) #[] caps] w (uQ w (its.any pr)):=by
 have hq:=afG hO hcf hf hi hR hw;obtain⟨ia,ic,iF,-⟩:∃ a c,vi=.slice a its.length c/\its.length<=maxLen:=Seq.len (show Tr.Seq F w0 YP.eI YP.sI YP.cI (fun va it=>ay YP d F w0 va it.alts) vi its from hi);subst iF;go_enter func130,ntmps130;go_wp2_with fail;refine hq.mono ?_;rintro e w2 ⟨q,rfl,hiff,hb⟩;have HQ:Hid (decide (0<=q)=its.any pr):=by
  show _=_;cases ha:its.any pr with
  | true=>exact decide_eq_true (hiff.2 ha)
  | false=>exact decide_eq_false fun h=>by rw[hiff.1 h]at ha;cases ha
 clear hiff hq;go_wp2_with fail;go_ret;refine⟨?_,hb⟩;rw[<-HQ.out];rfl
theorem U9 {F:Nat->Prop} {w0:World} {Ok:World->Prop} (hO:OkW F w0 Ok) {nf:Nat} {caps:Array Value} (hcf:∀ (ar:Array Value) (w:World),(callFunc nf ar).run prog w=.ok (.enter nf ar) w) {d:Nat} {pr:Lx.Alt->Bool} {R:Lx.Alt->Prop}
  (hf:∀ (w':World) (va:Value) (it:Lx.Alt),Ok w'->bJ YP d F w0 va it.1->R it->Calls prog nf (#[JB va it]++caps) w' (uQ w' (pr it)))
  {vi:Value} {its:List Lx.Alt} (hi:ay YP (d+1) F w0 vi its) (hR:∀ it∈its,R it) {w:World} (hw:Ok w) :
  Calls prog 128 #[vi,.func (.func nf) #[] caps] w (uQ w (its.any pr)):=by
 have hq:=agr hO hcf hf hi hR hw;obtain⟨ia,ic,iF,-⟩:∃ a c,vi=.slice a its.length c/\its.length<=maxLen:=ay.len hi;subst iF;go_enter func128,ntmps128;go_wp2_with fail;refine hq.mono ?_;rintro e w2 ⟨q,rfl,hiff,hb⟩;have HQ:Hid (decide (0<=q)=its.any pr):=by
  show _=_;cases ha:its.any pr with
  | true=>exact decide_eq_true (hiff.2 ha)
  | false=>exact decide_eq_false fun h=>by rw[hiff.1 h]at ha;cases ha
 clear hiff hq;go_wp2_with fail;go_ret;refine⟨?_,hb⟩;rw[<-HQ.out];rfl
theorem XT (ar:Array Value)(w:World):(callFunc 129 ar).run prog w=.ok (.enter 129 ar) w:=by kernel_rfl
theorem ahn (ar:Array Value)(w:World):(callFunc 131 ar).run prog w=.ok (.enter 131 ar) w:=by kernel_rfl
def Az (P:ByteArray->Prop)(it:Lx.It):Prop:=it.kind<=2/\(it.kind=0->P it.name)
structure HY (Ok:World->Prop) (nf:Nat) (caps:Array Value) (on:ByteArray->Bool) (P:ByteArray->Prop):Prop where
 cf:∀ (ar:Array Value) (w:World),(callFunc nf ar).run prog w=.ok (.enter nf ar) w
 says:∀ (w':World) (b:ByteArray),Ok w'->P b->Calls prog nf (#[.string b]++caps) w' (uQ w' (on b))
def BN (d:Nat):Prop:=∀ (F:Nat->Prop) (w0:World) (Ok:World->Prop),OkW F w0 Ok->∀ (nf:Nat) (caps:Array Value) (on:ByteArray->Bool) (P:ByteArray->Prop),HY Ok nf caps on P ->
 ∀ (v:Value) (l:List Lx.Alt),ay YP d F w0 v l->(∀ it∈aX d l,Az P it)->∀ w,Ok w->Calls prog 98 #[v,.func (.func nf) #[] caps] w (uQ w (ig on d l))
theorem afe {d:Nat} (IH:BN d) {F:Nat->Prop} {w0:World} {Ok:World->Prop} (hO:OkW F w0 Ok) {nf:Nat} {caps:Array Value} {on:ByteArray->Bool} {P:ByteArray->Prop} (hN:HY Ok nf caps on P)
  {va:Value} {it:Lx.It} (ha:ay YP d F w0 va it.alts) (hi:∀ x∈nA d it,Az P x) {w:World} (hw:Ok w) :
  Calls prog 132 #[DN va it,.func (.func nf) #[] caps] w (uQ w (gB on d it)):=by
 obtain⟨sa,sc,hva,-⟩:=ay.len ha;subst hva;have hit:=hi it List.mem_cons_self;have hsub:∀ x∈aX d it.alts,Az P x:=fun x hx=>hi x (List.mem_cons_of_mem _ hx)
 unfold DN;obtain⟨W,hW⟩:∃ W,W=w.alloc (.cells #[.int .i64 (it.kind:Int),.string it.name,.int .u8 (it.mark:Int),.slice sa it.alts.length sc] 187):=⟨_,rfl⟩;have hB:Below w.heap.size w W:=by rw[hW];exact (Below.refl _ _).alloc (lr0) _
 have xU:=hO.up _ _ hw hB;have hcf:=hN.cf;have HE:Hid (gB on d it=(decide (it.kind=1) || decide (it.mark=42) || decide (it.mark=63) || (decide (it.kind=0) && on it.name) || (decide (it.kind=2) && ig on d it.alts))):=rfl;go_enter func132,ntmps132
 by_cases h1:it.mark=42\/it.mark=63\/it.kind=1
 ·have HT:Hid (gB on d it=true):=by
   show _=_;rw[HE.out];rcases h1 with h | h | h <;> simp[h]
  have hcase:(it.mark=42)\/(it.mark≠42/\it.mark=63)\/(it.mark≠42/\it.mark≠63/\it.kind=1):=by
   rcases h1 with h | h | h
   ·exact .inl h
   ·exact .inr (.inl ⟨by omega,h⟩)
   ·by_cases h2:it.mark=42
    ·exact .inl h2
    ·by_cases h3:it.mark=63
     ·exact .inr (.inl ⟨h2,h3⟩)
     ·exact .inr (.inr ⟨h2,h3,h⟩)
  clear h1;rcases hcase with h | ⟨h,h'⟩ | ⟨h,h',h''⟩
  ·have q1:((it.mark:Int) == 42)=true:=by simp[h]
   clear h;go_wp2_with fail;go_ret;exact⟨by rw[HT.out];rfl,hW ▸ hB⟩
  ·have q1:((it.mark:Int) == 42)=false:=bq0 (by omega)
   have q2:((it.mark:Int) == 63)=true:=by simp[h']
   clear h h';go_wp2_with fail;go_ret;exact⟨by rw[HT.out];rfl,hW ▸ hB⟩
  ·have q1:((it.mark:Int) == 42)=false:=bq0 (by omega)
   have q2:((it.mark:Int) == 63)=false:=bq0 (by omega);have q3:((it.kind:Int) == 1)=true:=by simp[h'']
   clear h h' h'';go_wp2_with fail;go_ret;exact⟨by rw[HT.out];rfl,hW ▸ hB⟩
 ·have h2:it.mark≠42/\it.mark≠63/\it.kind≠1:=⟨fun e=>h1 (.inl e),fun e=>h1 (.inr (.inl e)),fun e=>h1 (.inr (.inr e))⟩
  have q1:((it.mark:Int) == 42)=false:=bq0 (by omega);have q2:((it.mark:Int) == 63)=false:=bq0 (by omega);have q3:((it.kind:Int) == 1)=false:=bq0 (by omega);clear h1
  by_cases h0:it.kind=0
  ·have HT:Hid (gB on d it=on it.name):=by
    show _=_;rw[HE.out];simp[h0,h2.1,h2.2.1]
   have q4:((it.kind:Int) == 0)=true:=by simp[h0]
   have hs:=hN.says W it.name xU (hit.2 h0);clear h0 h2 HE hit;go_wp2_with fail;rw[<-hW];refine hs.mono ?_;rintro e w2 ⟨rfl,hb2⟩;go_wp2_with fail;go_ret;exact⟨by rw[HT.out];rfl,hB.trans (hb2.mono hB.size)⟩
  ·have hk2:it.kind=2:=by have:=hit.1;omega
   have HT:Hid (gB on d it=ig on d it.alts):=by
    show _=_;rw[HE.out];simp[hk2,h2.1,h2.2.1]
   have q4:((it.kind:Int) == 0)=false:=bq0 (by omega);have hs:=IH F w0 Ok hO nf caps on P hN _ _ ha hsub W xU;clear h0 h2 HE hit hk2;go_wp2_with fail;rw[<-hW];refine hs.mono ?_;rintro e w2 ⟨rfl,hb2⟩;go_wp2_with fail;go_ret;exact⟨by rw[HT.out];rfl,hB.trans (hb2.mono hB.size)⟩
theorem OkW.box {F:Nat->Prop}{w0:World}{Ok:World->Prop}(h:OkW F w0 Ok)(eb:Nat)(v:Value):OkW F w0 (fun w=>Ok w/\aj w eb #[v] 38) :=
 ⟨fun w hw b hb=>h.fr w hw.1 b hb,fun w w' hw hb=>⟨h.up w w' hw.1 hb,(hb.block eb hw.2.lt).trans hw.2⟩⟩
theorem aho {d:Nat} (IH:BN d) {F:Nat->Prop} {w0:World} {Ok:World->Prop} (hO:OkW F w0 Ok) {nf:Nat} {caps:Array Value} {on:ByteArray->Bool} {P:ByteArray->Prop} (hN:HY Ok nf caps on P) {eb:Nat}
  {va:Value} {it:Lx.It} (ha:ay YP d F w0 va it.alts) (hi:∀ x∈nA d it,Az P x) {w:World} (hw:Ok w) (he:aj w eb #[.func (.func nf) #[] caps] 38) :
  Calls prog 131 #[DN va it,.pointer (some ⟨eb,0,none⟩)] w (uQ w (!gB on d it)):=by
 obtain⟨sa,sc,hva,-⟩:=ay.len ha;subst hva;obtain⟨W,hW⟩:∃ W,W=w.alloc (.cells #[.int .i64 (it.kind:Int),.string it.name,.int .u8 (it.mark:Int),.slice sa it.alts.length sc] 187):=⟨_,rfl⟩;have hB:Below w.heap.size w W:=by rw[hW];exact (Below.refl _ _).alloc (lr0) _
 have xU:=hO.up _ _ hw hB;have q:=afe IH hO hN ha hi xU;have c0:w.cell? ⟨eb,0,none⟩=some (.func (.func nf) #[] caps):=he.cell 0;have le:=he.lt;unfold DN at q |-;go_enter func131,ntmps131;go_wp2_with fail;rw[<-hW];refine q.mono ?_;rintro e w2 ⟨rfl,hb2⟩;go_wp2_with fail;go_ret;exact⟨rfl,hB.trans (hb2.mono hB.size)⟩
theorem ahp {d:Nat} (IH:BN d) {F:Nat->Prop} {w0:World} {Ok:World->Prop} (hO:OkW F w0 Ok) {nf:Nat} {caps:Array Value} {on:ByteArray->Bool} {P:ByteArray->Prop} (hN:HY Ok nf caps on P) {eb:Nat}
  {vi:Value} {a:Lx.Alt} (ha:bJ YP d F w0 vi a.1) (hi:∀ x∈nC d a.1,Az P x) {w:World} (hw:Ok w) (he:aj w eb #[.func (.func nf) #[] caps] 38) :
  Calls prog 129 #[JB vi a,.pointer (some ⟨eb,0,none⟩)] w (uQ w (a.1.all (gB on d))):=by
 obtain⟨ia,ic,iF,-⟩:∃ x c,vi=.slice x a.1.length c/\a.1.length<=maxLen:=Seq.len (show Tr.Seq F w0 YP.eI YP.sI YP.cI (fun va it=>ay YP d F w0 va it.alts) vi a.1 from ha);subst iF;obtain⟨W,hW⟩:∃ W,W=w.alloc (.cells #[.slice ia a.1.length ic,.string a.2.1] 194):=⟨_,rfl⟩;have hB:Below w.heap.size w W:=by rw[hW];exact (Below.refl _ _).alloc (lr0) _
 have xU:=hO.up _ _ hw hB;have heW:aj W eb #[.func (.func nf) #[] caps] 38:=(hB.block eb he.lt).trans he;have q:=aeJ (hO.box eb (.func (.func nf) #[] caps)) ahn (caps:=#[.pointer (some ⟨eb,0,none⟩)]) (pr:=fun it=>!gB on d it) (R:=fun it=>∀ x∈nA d it,Az P x)
  (fun w' va it hw' ha' hr=>aho IH hO hN ha' hr hw'.1 hw'.2) ha (fun it hit x hx=>hi x (List.mem_flatMap.2 ⟨it,hit,hx⟩)) ⟨xU,heW⟩
 have HA:Hid (a.1.all (gB on d)=!(a.1.any fun it=>!gB on d it)):=by
  show _=_;rw[List.not_any_eq_all_not];congr 1;funext x;simp
 unfold JB;go_enter func129,ntmps129;go_wp2_with fail;rw[<-hW];refine q.mono ?_;rintro e w2 ⟨rfl,hb2⟩;go_wp2_with fail;go_ret;exact⟨by rw[HA.out];rfl,hB.trans (hb2.mono hB.size)⟩
theorem aff:BN 0:=by
 intro F w0 Ok hO nf caps on P hN v l hl hi w hw;have hl1:=ay.up hl;obtain⟨rfl,rfl⟩:=hl;obtain⟨W,hW⟩:∃ W,W=w.alloc (.cells #[.func (.func nf) #[] caps] 38):=⟨_,rfl⟩;have hB:Below w.heap.size w W:=by rw[hW];exact (Below.refl _ _).alloc (lr0) _
 have xU:=hO.up _ _ hw hB;have q:=U9 hO XT (caps:=#[.pointer (some ⟨w.heap.size,0,none⟩)]) (pr:=fun _=>false) (R:=fun _=>False) (fun _ _ _ _ _ hr=>hr.elim) hl1 (fun it hit=>by cases hit) xU;go_enter func98,ntmps98;go_wp2_with fail;rw[<-hW];refine q.mono ?_;rintro e w2 ⟨rfl,hb2⟩;go_wp2_with fail;go_ret;exact⟨rfl,hB.trans (hb2.mono hB.size)⟩
theorem afg {d:Nat}(IH:BN d):BN (d+1):=by
 intro F w0 Ok hO nf caps on P hN v l hl hi w hw;obtain⟨va,vc,hv,-⟩:=ay.len hl;subst hv;obtain⟨W,hW⟩:∃ W,W=w.alloc (.cells #[.func (.func nf) #[] caps] 38):=⟨_,rfl⟩;have hB:Below w.heap.size w W:=by rw[hW];exact (Below.refl _ _).alloc (lr0) _
 have xU:=hO.up _ _ hw hB;have he:aj W w.heap.size #[.func (.func nf) #[] caps] 38:=by rw[hW];exact aj.new w _ 38
 have q:=U9 (hO.box w.heap.size (.func (.func nf) #[] caps)) XT (caps:=#[.pointer (some ⟨w.heap.size,0,none⟩)]) (pr:=fun a=>a.1.all (gB on d)) (R:=fun a=>∀ x∈nC d a.1,Az P x)
  (fun w' vi a hw' ha' hr=>ahp IH hO hN ha' hr hw'.1 hw'.2) hl (fun a ha x hx=>hi x (by rw[rH];exact List.mem_flatMap.2 ⟨a,ha,hx⟩)) ⟨xU,he⟩
 rw[WE];go_enter func98,ntmps98;go_wp2_with fail;rw[<-hW];refine q.mono ?_;rintro e w2 ⟨rfl,hb2⟩;go_wp2_with fail;go_ret;exact⟨rfl,hB.trans (hb2.mono hB.size)⟩
theorem WZ:∀ d,BN d
 | 0=>aff
 | d+1=>afg (WZ d)
namespace Lx
def jk (names:List ByteArray)(s:List Bool × List Nat)(us:List ByteArray):List Bool × List Nat:=us.foldl (vis names) s
theorem GZ (names:List ByteArray):∀ (us:List ByteArray) (s:List Bool × List Nat),(jk names s us).1=ja names us s.1
 | [],_=>rfl
 | u::us,s=>by
  show (jk names (vis names s u) us).1=ja names us (s.1.set (jI names u) true);rw[GZ names us];congr 1;unfold vis
  split
  ·rename_i h;exact (PS fun _=>h).symm
  ·rfl
theorem EL:∀ {bs:List Bool} {i:Nat},i<bs.length->au bs i=false->bB (bs.set i true)=bB bs+1
 | b::bs,0,_,h=>by
  have hb:b=false:=h;subst hb;simp[bB]
 | b::bs,i+1,hl,h=>by
  have ih:=EL (bs:=bs) (i:=i) (by simpa using hl) (by simpa [au]using h);unfold bB at ih |-;rw[List.set_cons_succ,List.countP_cons,List.countP_cons,ih];omega
theorem Lu (names:List ByteArray):∀ (us:List ByteArray) (s:List Bool × List Nat),(∀ u∈us,fix names u<s.1.length)->∃ new,(jk names s us).2=s.2++new/\(∀ i∈new,i<s.1.length/\au (jk names s us).1 i=true)/\(∀ i,au (jk names s us).1 i=true->au s.1 i=true\/i∈new)/\new.length+bB s.1=bB (jk names s us).1
 | [],s,_=>⟨[],by simp[jk],fun i h=>(by cases h),fun i h=>.inl h,by simp[jk]⟩
 | u::us,s,h=>by
  have hu:=h u List.mem_cons_self;cases hb:au s.1 (fix names u) with
  | true =>
   have e:vis names s u=s:=if_pos hb;have e2:jk names s (u::us)=jk names s us:=by show jk names (vis names s u) us=_;rw[e]
   rw[e2];exact Lu names us s fun x hx=>h x (List.mem_cons_of_mem _ hx)
  | false =>
   have e:vis names s u=(s.1.set (fix names u) true,s.2++[fix names u]):=if_neg (by rw[hb];decide);have e2:jk names s (u::us)=jk names (s.1.set (fix names u) true,s.2++[fix names u]) us:=by show jk names (vis names s u) us=_;rw[e]
   obtain⟨new,h1,h2,h3,h4⟩:=Lu names us (s.1.set (fix names u) true,s.2++[fix names u]) fun x hx=>by
    rw[List.length_set];exact h x (List.mem_cons_of_mem _ hx)
   rw[e2];refine⟨fix names u::new,by rw[h1];simp,?_,?_,?_⟩
   ·intro i hi
    rcases List.mem_cons.1 hi with rfl | hi
    ·refine⟨hu,?_⟩
     rw[GZ];refine (EG names us _).2 _ ?_;rw[at_set,if_pos ⟨rfl,hu⟩]
    ·have:=h2 i hi
     rw[List.length_set]at this;exact this
   ·intro i hi
    rcases h3 i hi with h' | h'
    ·have h'':au (s.1.set (fix names u) true) i=true:=h'
     rw[at_set]at h''
     split at h''
     ·rename_i hc;exact .inr (by rw[hc.1];exact List.mem_cons_self)
     ·exact .inl h''
    ·exact .inr (List.mem_cons_of_mem _ h')
   ·have h4':new.length+bB (s.1.set (fix names u) true)=_:=h4
    rw[EL hu hb]at h4';rw[List.length_cons];omega
structure RI (g:Gr) (s0:List Bool) (s:List Bool × List Nat):Prop where
 len:s.1.length=g.rules.length
 op:∀ i∈s.2,i<g.rules.length/\au s.1 i=true
 done:∀ i,au s.1 i=true->i∈s.2\/zo g i s.1
 has:bO s0 s.1
 least:∀ T,T.length=g.rules.length->bO s0 T->(∀ i,i<g.rules.length->zo g i T)->bO s.1 T
theorem RI.step {g:Gr}{s0 bs:List Bool}{op:List Nat}{r:Nat}(h:RI g s0 (bs,op++[r]))(hu:∀ u∈oF (jD g r),fix (aG g) u<bs.length):RI g s0 (jk (aG g) (bs,op) (oF (jD g r)))/\(jk (aG g) (bs,op) (oF (jD g r))).2.length+bB bs=op.length+bB (jk (aG g) (bs,op) (oF (jD g r))).1:=by
 obtain⟨h1,h2,h3,h4,h5⟩:=h;obtain⟨new,n1,n2,n3,n4⟩:=Lu (aG g) (oF (jD g r)) (bs,op) hu;have hr:=h2 r (by simp);have hm:(jk (aG g) (bs,op) (oF (jD g r))).1=jX g r bs:=by
  rw[GZ,jX,if_pos hr.2]
 have hle:bO bs (jk (aG g) (bs,op) (oF (jD g r))).1:=by rw[GZ];exact EG _ _ _
 refine⟨⟨hle.1.symm.trans h1,?_,?_,h4.trans hle,?_⟩,?_⟩
 ·intro i hi
  rw[n1]at hi;rcases List.mem_append.1 hi with hi | hi
  ·have:=h2 i (by simp[hi])
   exact⟨this.1,hle.2 i this.2⟩
  ·have:=n2 i hi
   exact⟨by rw[<-h1];exact this.1,this.2⟩
 ·intro i hi
  rw[n1];rcases n3 i hi with h' | h'
  ·rcases h3 i h' with h'' | h''
   ·rcases List.mem_append.1 h'' with h'' | h''
    ·exact .inl (List.mem_append.2 (.inl h''))
    ·right
     rw[List.mem_singleton.1 h''];intro _ b hb hlt;rw[GZ];exact PU _ _ _ b hb (hu b hb)
   ·right
    intro _ b hb hlt;exact hle.2 _ (h'' h' b hb (by rw[hle.1];exact hlt))
  ·exact .inl (List.mem_append.2 (.inr h'))
 ·intro T hT h6 h7
  rw[hm];exact Xv g T (fun i hi=>h7 i (by omega)) r bs (h5 T hT h6 h7)
 ·rw[n1,List.length_append]
  have n4':new.length+bB bs=_:=n4;show op.length+new.length+bB bs=op.length+_;omega
theorem RI.end {g:Gr}{s0 bs:List Bool}(h:RI g s0 (bs,[])):sK (zo g) g.rules.length s0 bs:=by
 refine⟨h.len,h.has,fun i hi=>?_,h.least⟩;intro ha;rcases h.done i ha with h' | h'
 ·cases h'
 ·exact h' ha
theorem RI.start {g:Gr}(hn:0<g.rules.length):RI g ((List.replicate g.rules.length false).set 0 true) ((List.replicate g.rules.length false).set 0 true,[0]):=by
 refine⟨by simp,?_,?_,bO.refl _,fun T _ h _=>h⟩
 ·intro i hi
  rw[List.mem_singleton.1 hi];exact⟨hn,by rw[at_set,if_pos ⟨rfl,by simpa using hn⟩]⟩
 ·intro i hi
  rw[at_set]at hi
  split at hi
  ·rename_i hc;exact .inl (by rw[<-hc.1];simp)
  ·unfold au at hi
   rw[List.getElem?_replicate]at hi
   split at hi <;> cases hi
theorem PZ:∀ (d:Nat) (l:List Alt),((aX d l).filter fun x=>decide (x.kind=0)).map It.name=qL d l
 | 0,_=>rfl
 | d+1,l=>by
  rw[OU,rH,BL,List.map_flatMap];congr 1;funext a;unfold nC;rw[BL,List.map_flatMap];congr 1;funext x;have ih:=PZ d x.alts;unfold nA qj;rw[List.filter_cons,<-ih]
  by_cases h:x.kind=0
  ·simp[h]
  ·simp[h]
end Lx
theorem air (ar:Array Value)(w:World):(callFunc 95 ar).run prog w=.ok (.enter 95 ar) w:=by kernel_rfl
theorem ais (ar:Array Value)(w:World):(callFunc 96 ar).run prog w=.ok (.enter 96 ar) w:=by kernel_rfl
theorem ajk {w:World}{B:Nat}{a:Option Addr}{c:Nat}{op:List Nat}{r:Nat}(h:w.ownsRow B 3 1 (.slice a (op++[r]).length c) (op++[r]).length (gV (op++[r]))):∃ g,a=some ⟨g,0,none⟩/\op.length+1<=c/\c<=maxLen/\g<w.heap.size/\w.ownsRow B 3 1 (.slice (some ⟨g,0,none⟩) op.length c) op.length (gV op)/\w.cell? ⟨g,op.length,none⟩=some (.int .i64 (r:Int)):=by
 rcases h.2 with ⟨h1,h2⟩ | ⟨g,cap,cur,h1,h2,h3,h4,h5,h6,h7⟩
 ·simp at h2
 ·injection h1 with e1 e2 e3
  subst e1 e3;have hc:=h.cellAt op.length (by simp);simp at h4;refine⟨g,rfl,h4,h5,(Array.getElem?_eq_some_iff.1 h3).1,⟨by simp[gV],.inr ⟨g,c,cur,rfl,h2,h3,by omega,h5,h6,?_⟩⟩,?_⟩
  ·have h8:=congrArg (List.take op.length) h7
   rw[List.take_take]at h8;rw[yE]at h8;rw[Nat.mul_one];have e4:min op.length ((op++[r]).length*1)=op.length:=by simp
   rw[e4]at h8;rw[h8];have:op.length=(gV op).length:=(xg op).symm;rw[this,List.take_left]
  ·have e5:(gV (op++[r]))[op.length]?=some (.int .i64 (r:Int)):=by rw[yE,List.getElem?_append_right (by rw[xg];exact lr0),xg,Nat.sub_self];rfl
   rw[e5]at hc;exact hc
def afH (g:Lx.Gr)(w:World)(e:Ending)(w':World):Prop:=∃ o bs,e=.returned (.slice (some ⟨o,0,none⟩) g.rules.length g.rules.length)/\w.heap.size<=o/\aj w' o (aL bs) 4/\sK (zo g) g.rules.length ((List.replicate g.rules.length false).set 0 true) bs/\Below w.heap.size w w'
theorem afh {F:Nat->Prop} {w:World} {vR:Value} {g:Lx.Gr} (h:mH F w vR g.rules) {B:Nat} {num:ByteArray->Int} (hM:SMap w B num) (Ir:∀ b,b∈aG g->num b=(Lx.fix (aG g) b:Int)) (hu:qp g=none) (hn:0<g.rules.length) (hrn:g.rules.length<=2001) :
  Calls prog 53 #[vR,.map (some B)] w (afH g w):=by
 obtain⟨a,c,rfl,hm⟩:=h.len;have hlB:=hM.lt;have hmk:=fun w=>OW hrn w
 have hb0:(aL (List.replicate g.rules.length false))[0]?=some (.bool false):=by rw[fI _ (by simpa using hn)];simp[au,hn]
 go_enter func53,ntmps53;go_wp2_with fail;have e4:w.heap.size+1+1+1+1=w.heap.size+4:=rfl;have e3:w.heap.size+1+1+1=w.heap.size+3:=rfl;have e2:w.heap.size+1+1=w.heap.size+2:=rfl;rw[e4,e3,e2];clear e4 e3 e2 hmk;obtain⟨W,hW⟩:∃ W,W=((((w.alloc (.cells #[.map (some B)] 119)).alloc (.cells ((aL (List.replicate g.rules.length false)).setIfInBounds 0 (.bool true)) 4)).alloc (.cells #[.slice (some ⟨w.heap.size+1,0,none⟩) g.rules.length g.rules.length] 39)).alloc (.cells #[.int .i64 0] 3)).alloc (.cells #[.slice (some ⟨w.heap.size+3,0,none⟩) 1 1] 24):=⟨_,rfl⟩;rw[<-hW];have Rz:RS w.heap.size g.rules.length B num w W ((List.replicate g.rules.length false).set 0 true,[0]):=by
  have hb:Below w.heap.size w W:=by rw[hW];exact (((((Below.refl _ _).alloc (lr0) _).alloc (by simp) _).alloc (by simp;omega) _).alloc (by simp;omega) _).alloc (by simp;omega) _
  refine⟨?_,hM.move (hb.block B hlB),hlB,?_,?_,⟨.slice (some ⟨w.heap.size+3,0,none⟩) 1 1,?_,⟨rfl,.inr ⟨w.heap.size+3,1,#[.int .i64 0],rfl,Nat.zero_le _,?_,lr0,by decide,rfl,rfl⟩⟩,fun g hg=>.inl (Option.some.inj hg).symm⟩,by show _=_;simp,hb⟩
  ·rw[hW];exact ((((aj.new w _ 119).alloc _).alloc _).alloc _).alloc _
  ·rw[hW,<-p9]
   have:=(((aj.new (w.alloc (.cells #[.map (some B)] 119)) ((aL (List.replicate g.rules.length false)).setIfInBounds 0 (.bool true)) 4).alloc (.cells #[.slice (some ⟨w.heap.size+1,0,none⟩) g.rules.length g.rules.length] 39)).alloc (.cells #[.int .i64 0] 3)).alloc (.cells #[.slice (some ⟨w.heap.size+3,0,none⟩) 1 1] 24);simpa using this
  ·rw[hW]
   have:=((aj.new ((w.alloc (.cells #[.map (some B)] 119)).alloc (.cells ((aL (List.replicate g.rules.length false)).setIfInBounds 0 (.bool true)) 4)) #[.slice (some ⟨w.heap.size+1,0,none⟩) g.rules.length g.rules.length] 39).alloc (.cells #[.int .i64 0] 3)).alloc (.cells #[.slice (some ⟨w.heap.size+3,0,none⟩) 1 1] 24);simpa using this
  ·rw[hW]
   have:=aj.new ((((w.alloc (.cells #[.map (some B)] 119)).alloc (.cells ((aL (List.replicate g.rules.length false)).setIfInBounds 0 (.bool true)) 4)).alloc (.cells #[.slice (some ⟨w.heap.size+1,0,none⟩) g.rules.length g.rules.length] 39)).alloc (.cells #[.int .i64 0] 3)) #[.slice (some ⟨w.heap.size+3,0,none⟩) 1 1] 24;simpa using this
  ·rw[hW]
   have k3:aj (((((w.alloc (.cells #[.map (some B)] 119)).alloc (.cells ((aL (List.replicate g.rules.length false)).setIfInBounds 0 (.bool true)) 4)).alloc (.cells #[.slice (some ⟨w.heap.size+1,0,none⟩) g.rules.length g.rules.length] 39)).alloc (.cells #[.int .i64 0] 3)).alloc (.cells #[.slice (some ⟨w.heap.size+3,0,none⟩) 1 1] 24)) (w.heap.size+3) #[.int .i64 0] 3:=by
    have:=(aj.new (((w.alloc (.cells #[.map (some B)] 119)).alloc (.cells ((aL (List.replicate g.rules.length false)).setIfInBounds 0 (.bool true)) 4)).alloc (.cells #[.slice (some ⟨w.heap.size+1,0,none⟩) g.rules.length g.rules.length] 39)) #[.int .i64 0] 3).alloc (.cells #[.slice (some ⟨w.heap.size+3,0,none⟩) 1 1] 24);simpa using this
   exact k3
 have RA:=Lx.RI.start hn;clear hW;obtain⟨s0,hs0⟩:∃ s0,s0=(List.replicate g.rules.length false).set 0 true:=⟨_,rfl⟩;have DR:Hid (s0=(List.replicate g.rules.length false).set 0 true):=hs0;rw[<-hs0]at Rz RA;clear hs0
 go_loopg [] (g.rules.length+1) (fun k wr=>∃ s:List Bool × List Nat,s.2.length+(g.rules.length-bB s.1)<=k/\s.2.length+(g.rules.length-bB s.1)<=g.rules.length+1/\RS w.heap.size g.rules.length B num w wr s/\Lx.RI g s0 s)
 case atStart=>exact⟨(s0,[0]),by simp;omega,by simp;omega,Rz,RA⟩
 case round =>
  clear Rz RA;obtain⟨⟨bs,opx⟩,hk,hk2,hRS,NE⟩:=hrel;obtain⟨h1,h2,h3,h4,h5,⟨vo,h6,h7,h8⟩,h9,h10⟩:=id hRS;have hsr:w.heap.size+5<=wr.heap.size:=h6.lt;have hcb:=Af bs;have hlb:Hid (bs.length=g.rules.length):=h9;rcases List.eq_nil_or_concat opx with hnil | ⟨op,r,hop⟩
  ·subst hnil
   obtain⟨oa,oc,tN,-⟩:=aI h7;subst tN;have c4:wr.cell? ⟨w.heap.size+4,0,none⟩=some (.slice oa 0 oc):=h6.cell 0;have c2:wr.cell? ⟨w.heap.size+2,0,none⟩=some (.slice (some ⟨w.heap.size+1,0,none⟩) g.rules.length g.rules.length):=h5.cell 0;go_wp2_with fail;go_ret;exact⟨w.heap.size+1,bs,rfl,Nat.le_succ _,h4,DR.out ▸ NE.end,h10⟩
  ·rw[List.concat_eq_append]at hop
   subst hop;obtain⟨oa,oc,tN,uZ⟩:=aI h7;subst tN;obtain⟨og,rfl,hoc,akB,log,how,am1⟩:=ajk h7;have hrr:=NE.op r (by simp);have c4:wr.cell? ⟨w.heap.size+4,0,none⟩=some (.slice (some ⟨og,0,none⟩) (op.length+1) oc):=by have:=h6.cell 0;simpa using this
   have f4:∀ i,wr.frozen? ⟨w.heap.size+4,i,none⟩=false:=h6.frozen;unfold maxLen at akB;have am2:op.length+1+(g.rules.length-bB bs)<=gk:=by simpa using hk
   have am3:op.length+1+(g.rules.length-bB bs)<=g.rules.length+1:=by simpa using hk2
   have RB:=hrr.1;obtain⟨gb,cap,va,hv,hFg,hA,d0,d1⟩:=h.at RB;cases hv;obtain⟨sa,sc,hva,-⟩:=ay.len hA;subst hva;have lD:gb<w.heap.size:=h.lt gb hFg;have FR:wr.cell? ⟨gb,r*2+1,none⟩=some (.slice sa g.rules[r].alts.length sc):=(World.cell?_of_block (w:=w) (h10.block gb lD)).trans d1;have Iu:Lx.unk g (dD 9 g.rules[r].alts)=none:=GX hu _ (List.getElem_mem RB);have halt:jD g r=g.rules[r].alts:=GU RB;have hnm:∀ it,it∈aX 9 g.rules[r].alts->it.kind=0->it.name∈aG g:=fun it hi hk=>iG.1 (Ah Iu hi hk)
   have hfl:∀ b,b∈aG g->Lx.fix (aG g) b<g.rules.length:=fun b hb=>by
    have:=(uo (iG.2 hb)).2;simpa [aG]using this
   obtain⟨w1,hw1⟩:∃ w1,w1=wr.setCell ⟨w.heap.size+4,0,none⟩ (.slice (some ⟨og,0,none⟩) op.length oc):=⟨_,rfl⟩;have hog:og=w.heap.size+3\/w.heap.size+5<=og:=h8 og rfl;have aa0:RS w.heap.size g.rules.length B num w w1 (bs,op):=by
    rw[hw1];refine⟨h1.other (by omega) _,h2.move (hs0 (by show B≠w.heap.size+4;omega)),h3,h4.other (by omega) _,h5.other (by omega) _,⟨_,h6.set 0 _,aD how fun g hg=>hs0 (fun e=>?_),fun g hg=>?_⟩,h9,h10.setCell (p:=⟨w.heap.size+4,0,none⟩) (by show w.heap.size<=w.heap.size+4;omega) _⟩
    ·have e':g=w.heap.size+4:=e
     have e'':og=g:=Option.some.inj hg;omega
    ·have e'':og=g:=Option.some.inj hg
     rw[<-e''];exact hog
   have HST:Hid (Lx.RI g s0 (jk (aG g) (bs,op) (oF (jD g r)))/\(jk (aG g) (bs,op) (oF (jD g r))).2.length+bB bs=op.length+bB (jk (aG g) (bs,op) (oF (jD g r))).1):=by
    refine Lx.RI.step NE fun u hu'=>?_
    rw[halt]at hu';have e:oF g.rules[r].alts=qL 9 g.rules[r].alts:=rfl;rw[e,<-PZ]at hu';obtain⟨it,hit,rfl⟩:=List.mem_map.1 hu';obtain⟨hi1,hi2⟩:=List.mem_filter.1 hit;have:=hfl _ (hnm it hi1 (of_decide_eq_true hi2));rw[hlb.out];exact this
   have q1:=Zg 9 95 96 #[.pointer (some ⟨w.heap.size,0,none⟩),.pointer (some ⟨w.heap.size+2,0,none⟩),.pointer (some ⟨w.heap.size+4,0,none⟩)] (fun it=>decide (it.kind=0)) F w (fun L w'=>(∀ p∈L,Lx.fix (aG g) p.2.name<bs.length)/\RS w.heap.size g.rules.length B num w w' (jk (aG g) (bs,op) (L.map fun p=>p.2.name))) (fun p=>p.2.kind=0->p.2.name∈aG g) air ais
    (fun w' n m it _ hi=>afz hi)
    (fun w' L n m it hI _ hi hwd hq=>by
     have hk0:it.kind=0:=of_decide_eq_true hwd;have hmem:=hq hk0;have hlt:=hfl _ hmem;obtain⟨new,n1,-,-,n4⟩:=Lu (aG g) (L.map fun p=>p.2.name) (bs,op) (fun u hu'=>by
      obtain⟨p,hp,rfl⟩:=List.mem_map.1 hu';exact hI.1 p hp)
     have hcl:=Af (jk (aG g) (bs,op) (L.map fun p=>p.2.name)).1;have RD:=hI.2.len.out;have n1':(jk (aG g) (bs,op) (L.map fun p=>p.2.name)).2.length=op.length+new.length:=by rw[n1,List.length_append]
     refine (afA hI.2 hi (Ir _ hmem) hlt (by omega)).mono ?_;rintro e w'' ⟨rfl,hR⟩;refine⟨rfl,fun p hp=>?_,?_⟩
     ·rcases List.mem_append.1 hp with hp | hp
      ·exact hI.1 p hp
      ·rw[List.mem_singleton.1 hp,hlb.out];exact hlt
     ·have e:jk (aG g) (bs,op) ((L++[((⟨n,m*4,none⟩:Addr),it)]).map fun p=>p.2.name)=Lx.vis (aG g) (jk (aG g) (bs,op) (L.map fun p=>p.2.name)) it.name:=by
       unfold jk;rw[List.map_append,List.foldl_append];rfl
      rw[e];exact hR)
    (fun L w' hI b hb=>hI.2.fr.block b (h.lt b hb))
    _ _ hA (fun p hp hk0=>hnm p.2 (by rw[<-EK hA];exact List.mem_map.2 ⟨p,hp,rfl⟩) hk0) w1 [] ⟨fun p hp=>(by cases hp),aa0⟩
   have tO:((aT 9 w (.slice sa g.rules[r].alts.length sc) g.rules[r].alts).filter fun p=>decide (p.2.kind=0)).map (fun p=>p.2.name)=oF (jD g r):=by
    rw[halt];have e:oF g.rules[r].alts=qL 9 g.rules[r].alts:=rfl;rw[e,<-PZ,<-EK hA,List.filter_map,List.map_map];rfl
   rw[List.nil_append,tO]at q1;clear hk hk2 uZ h7 tO hnm hfl halt Iu hRS NE aa0 how h1 h2 h4 h5 h6 hA d0 hb0;generalize g.rules[r].alts=al at FR q1;generalize jk (aG g) (bs,op) (oF (jD g r))=s2 at q1 HST;go_wp2_with fail;rw[<-hw1];refine q1.mono ?_;rintro e w2 ⟨rfl,-,hR2⟩;have hst:=HST.out;have RD:=Af s2.1;have hln:=hR2.len.out;have am4:=hlb.out;have hm1:s2.2.length+(g.rules.length-bB s2.1)<=op.length+(g.rules.length-bB bs):=by omega
   go_wp2_with fail;go_roundg (s2.2.length+(g.rules.length-bB s2.1))
   case measure=>omega
   case rel=>exact⟨s2,lr0,by omega,hR2,hst.1⟩
theorem ait (ar:Array Value)(w:World):(callFunc 97 ar).run prog w=.ok (.enter 97 ar) w:=by kernel_rfl
structure ES (lo n B:Nat) (num:ByteArray->Int) (w0 w:World) (bs:List Bool):Prop where
 nb:aj w lo #[.map (some B)] 119
 mp:SMap w B num
 bl:B<lo
 fo:aj w (lo+1) (aL bs) 4
 fv:aj w (lo+2) #[.slice (some ⟨lo+1,0,none⟩) n n] 39
 len:Hid (bs.length=n)
 fr:Below lo w0 w
theorem ES.below {lo n B:Nat}{num:ByteArray->Int}{w0 w w':World}{bs:List Bool}(h:ES lo n B num w0 w bs)(hb:Below w.heap.size w w'):ES lo n B num w0 w' bs:=by
 have l2:=h.fv.lt;exact⟨(hb.block _ (by omega)).trans h.nb,h.mp.move (hb.block _ (by have:=h.bl;omega)),h.bl,(hb.block _ (by omega)).trans h.fo,(hb.block _ l2).trans h.fv,h.len,h.fr.trans (hb.mono (by omega))⟩
theorem afI {lo n B:Nat} {num:ByteArray->Int} {w0 w:World} {bs:List Bool} (h:ES lo n B num w0 w bs) {q:Nat} {b:ByteArray} (hq:num b=(q:Int)) (hl:q<n) :
  Calls prog 97 #[.string b,.pointer (some ⟨lo+2,0,none⟩),.pointer (some ⟨lo,0,none⟩)] w (uQ w (au bs q)):=by
 have hlk:=h.mp.look b;rw[hq]at hlk;have c0:w.cell? ⟨lo,0,none⟩=some (.map (some B)):=h.nb.cell 0;have c2:w.cell? ⟨lo+2,0,none⟩=some (.slice (some ⟨lo+1,0,none⟩) n n):=h.fv.cell 0;have o1:w.cell? ⟨lo+1,q,none⟩=some (.bool (au bs q)):=(h.fo.cell q).trans (fI bs (by have:=h.len.out;omega));go_enter func97,ntmps97;go_wp2_with fail;go_ret;exact⟨rfl,Below.refl _ _⟩
namespace Lx
structure EI (g:Gr) (s0 bs:List Bool):Prop where
 len:bs.length=g.rules.length
 has:bO s0 bs
 least:∀ T,T.length=g.rules.length->bO s0 T->(∀ i,i<g.rules.length->pF g i T)->bO bs T
theorem EI.step {g:Gr}{s0 bs:List Bool}(h:EI g s0 bs)(i:Nat):EI g s0 (mo g i bs):=by
 have hle:=(K6 g).le i bs;exact⟨hle.1.symm.trans h.len,h.has.trans hle,fun T hT h1 h2=>Yu g T (fun i hi=>h2 i (by omega)) i bs (h.least T hT h1 h2)⟩
theorem ags {g:Gr}{i:Nat}{bs:List Bool}(hi:i<g.rules.length)(he:ig (dK g bs) 9 g.rules[i].alts=true):mo g i bs=bs.set i true:=by
 rw[mo,GU hi,if_pos he]
theorem afJ {g:Gr}{i:Nat}{bs:List Bool}(hi:i<g.rules.length)(h:au bs i=true\/ig (dK g bs) 9 g.rules[i].alts=false):pF g i bs:=by
 intro he hl;rw[GU hi]at he;rcases h with h | h
 ·exact h
 ·rw[h]at he;cases he
end Lx
def agt (g:Lx.Gr)(w:World)(e:Ending)(w':World):Prop:=∃ o bs,e=.returned (.slice (some ⟨o,0,none⟩) g.rules.length g.rules.length)/\w.heap.size<=o/\aj w' o (aL bs) 4/\sK (pF g) g.rules.length (List.replicate g.rules.length false) bs/\Below w.heap.size w w'
def zK (b:Bool):Nat:=if b=true then 1 else 0
theorem afK {F:Nat->Prop} {w:World} {vR:Value} {g:Lx.Gr} (h:mH F w vR g.rules) {B:Nat} {num:ByteArray->Int} (hM:SMap w B num) (Ir:∀ b,b∈aG g->num b=(Lx.fix (aG g) b:Int)) (hu:qp g=none) (hkd:∀ r∈g.rules,∀ it∈aX 9 r.alts,it.kind<=2) (hrn:g.rules.length<=2001) :
  Calls prog 54 #[vR,.map (some B)] w (agt g w):=by
 obtain⟨a,c,rfl,hm⟩:=h.len;unfold maxLen at hm;have hlB:=hM.lt;have hmk:=fun w=>OW hrn w
 have hfl:∀ b,b∈aG g->Lx.fix (aG g) b<g.rules.length:=fun b hb=>by
  have:=(uo (iG.2 hb)).2;simpa [aG]using this
 go_enter func54,ntmps54;go_wp2_with fail;rw[show w.heap.size+1+1=w.heap.size+2 from rfl];obtain⟨W,hW⟩:∃ W,W=((w.alloc (.cells #[.map (some B)] 119)).alloc (.cells (aL (List.replicate g.rules.length false)) 4)).alloc (.cells #[.slice (some ⟨w.heap.size+1,0,none⟩) g.rules.length g.rules.length] 39):=⟨_,rfl⟩;rw[<-hW];have RF:ES w.heap.size g.rules.length B num w W (List.replicate g.rules.length false):=by
  have hb:Below w.heap.size w W:=by rw[hW];exact (((Below.refl _ _).alloc (lr0) _).alloc (by simp) _).alloc (by simp;omega) _
  refine⟨?_,hM.move (hb.block B hlB),hlB,?_,?_,by show _=_;simp,hb⟩
  ·rw[hW];exact ((aj.new w _ 119).alloc _).alloc _
  ·rw[hW]
   have:=(aj.new (w.alloc (.cells #[.map (some B)] 119)) (aL (List.replicate g.rules.length false)) 4).alloc (.cells #[.slice (some ⟨w.heap.size+1,0,none⟩) g.rules.length g.rules.length] 39);simpa using this
  ·rw[hW]
   have:=aj.new ((w.alloc (.cells #[.map (some B)] 119)).alloc (.cells (aL (List.replicate g.rules.length false)) 4)) #[.slice (some ⟨w.heap.size+1,0,none⟩) g.rules.length g.rules.length] 39;simpa using this
 have RG:Lx.EI g (List.replicate g.rules.length false) (List.replicate g.rules.length false):=⟨by simp,bO.refl _,fun T _ h _=>h⟩;obtain⟨s0,hs0⟩:∃ s0,s0=List.replicate g.rules.length false:=⟨_,rfl⟩;have DR:Hid (s0=List.replicate g.rules.length false):=hs0;rw[<-hs0]at RF RG;clear hs0 hW hmk
 go_loopg [7] (g.rules.length+1) (fun k gv wr=>∃ (bs:List Bool) (gr:Bool),gv=.bool gr/\(g.rules.length-bB bs)+zK gr<=k/\ES w.heap.size g.rules.length B num w wr bs/\Lx.EI g s0 bs/\Hid (gr=false->∀ i,i<g.rules.length->pF g i bs))
 case atStart=>exact⟨s0,true,rfl,by simp[zK],RF,RG,fun h=>by cases h⟩
 case round =>
  clear RF RG;revert wr;intro wz hrel;obtain⟨bs,gr,rfl,hk,pV,wO,HC⟩:=hrel;have hcb:=Af bs;have MH:=wO.len;cases gr with
  | false =>
   have c2:wz.cell? ⟨w.heap.size+2,0,none⟩=some (.slice (some ⟨w.heap.size+1,0,none⟩) g.rules.length g.rules.length):=pV.fv.cell 0;have hst:sK (pF g) g.rules.length (List.replicate g.rules.length false) bs:=by rw[<-DR.out];exact⟨wO.len,wO.has,HC.out rfl,wO.least⟩
   have JC:Hid _:=MH;clear MH;go_wp2_with fail;go_ret;exact⟨w.heap.size+1,bs,rfl,Nat.le_succ _,pV.fo,hst,pV.fr⟩
  | true =>
   clear HC;have hk2:g.rules.length-bB bs+1<=gk:=by simpa [zK]using hk
   have JC:Hid (bs.length=g.rules.length):=MH;clear hk MH;go_wp2_with fail;have H1:Hid ((false=false->bs=bs/\∀ i,i<g.rules.length->i<0->pF g i bs)/\(false=true->bB bs<bB bs)/\bO bs bs):=⟨fun _=>⟨rfl,fun i _ h=>(by omega)⟩,fun h=>(by cases h),bO.refl _⟩
   go_loopg [7,17] g.rules.length (fun k gv i wr=>∃ (j:Nat) (b2:List Bool) (gr:Bool),j+k=g.rules.length/\gv=.bool gr/\i=.int .i64 j/\ES w.heap.size g.rules.length B num w wr b2/\Lx.EI g s0 b2/\Hid ((gr=false->b2=bs/\∀ i,i<g.rules.length->i<j->pF g i bs)/\(gr=true->bB bs<bB b2)/\bO bs b2))
   case atStart=>exact⟨0,bs,false,by omega,rfl,rfl,pV,wO,H1⟩
   case round =>
    clear H1 pV wO;obtain⟨j,b2,gr,hkj,rfl,rfl,pV,wO,HJ⟩:=hrel;have hl2:=pV.fv.lt;have hl1:=pV.fo.lt
    by_cases hlt:j<g.rules.length
    ·obtain⟨gb,cap,va,hv,hFg,hA,d0,d1⟩:=h.at hlt
     cases hv;obtain⟨sa,sc,hva,-⟩:=ay.len hA;subst hva;have lD:gb<w.heap.size:=h.lt gb hFg;have dr0:wr.cell? ⟨gb,j*2,none⟩=some (.string g.rules[j].name):=(World.cell?_of_block (w:=w) (pV.fr.block gb lD)).trans d0;have FR:wr.cell? ⟨gb,j*2+1,none⟩=some (.slice sa g.rules[j].alts.length sc):=(World.cell?_of_block (w:=w) (pV.fr.block gb lD)).trans d1;have Iu:Lx.unk g (dD 9 g.rules[j].alts)=none:=GX hu _ (List.getElem_mem hlt);have hok:∀ it∈aX 9 g.rules[j].alts,Az (fun b=>b∈aG g) it:=fun it hi=>⟨hkd _ (List.getElem_mem hlt) it hi,fun hk=>iG.1 (Ah Iu hi hk)⟩
     obtain⟨W1,hW1⟩:∃ W1,W1=wr.alloc (.cells #[.string g.rules[j].name,.slice sa g.rules[j].alts.length sc] 179):=⟨_,rfl⟩;have hb1:Below wr.heap.size wr W1:=by rw[hW1];exact (Below.refl _ _).alloc (lr0) _
     have MI:=pV.below hb1;have hOW:OkW F w (fun w'=>ES w.heap.size g.rules.length B num w w' b2):=⟨fun w' hw' b hb=>⟨hw'.fr.block b (h.lt b hb),by have:=hw'.fv.lt;have:=h.lt b hb;omega⟩,fun w' w'' hw' hb=>hw'.below hb⟩;have hNF:HY (fun w'=>ES w.heap.size g.rules.length B num w w' b2) 97 #[.pointer (some ⟨w.heap.size+2,0,none⟩),.pointer (some ⟨w.heap.size,0,none⟩)] (dK g b2) (fun b=>b∈aG g):=⟨ait,fun w' b hw' hb=>afI hw' (Ir b hb) (hfl b hb)⟩;have q1:=WZ 9 F w _ hOW 97 _ _ _ hNF _ _ hA hok W1 MI;have RH:j<b2.length:=by have:=pV.len.out;omega
     have c2:wr.cell? ⟨w.heap.size+2,0,none⟩=some (.slice (some ⟨w.heap.size+1,0,none⟩) g.rules.length g.rules.length):=pV.fv.cell 0;have o1:wr.cell? ⟨w.heap.size+1,j,none⟩=some (.bool (au b2 j)):=(pV.fo.cell j).trans (fI b2 RH);have HLJ:Hid (j<b2.length):=RH;have hon:ig (dK g b2) 9 g.rules[j].alts=true->mo g j b2=b2.set j true:=ags hlt;have hoff:(au b2 j=true\/ig (dK g b2) 9 g.rules[j].alts=false)->pF g j b2:=afJ hlt;have qG:Hid _:=hon;have JD:Hid _:=hoff;have aa1:=wO.step j;clear hon hoff Iu hok hA d0 d1 RH;cases hb:au b2 j with
     | true =>
      have HJ2:Hid ((gr=false->b2=bs/\∀ i,i<g.rules.length->i<j+1->pF g i bs)/\(gr=true->bB bs<bB b2)/\bO bs b2):=by
       refine⟨fun hg=>?_,HJ.out.2⟩;have h1:=HJ.out.1 hg;refine⟨h1.1,fun i hi hij=>?_⟩
       by_cases hij2:i=j
       ·rw[hij2,<-h1.1];exact JD.out (.inl hb)
       ·exact h1.2 i hi (by omega)
      rw[hb]at o1;clear HJ qG JD q1 hb;go_wp2_with fail;rw[<-hW1];go_roundg (g.rules.length - (j+1))
      case measure=>omega
      case rel=>exact⟨j+1,b2,gr,by omega,rfl,by go_num,MI,wO,HJ2⟩
     | false =>
      rw[hb]at o1;cases he:ig (dK g b2) 9 g.rules[j].alts with
      | true =>
       have HS:Hid (mo g j b2=b2.set j true):=qG.out he;have JE:Hid (bB (b2.set j true)=bB b2+1):=EL HLJ.out hb;have HJ2:Hid ((true=false->b2.set j true=bs/\∀ i,i<g.rules.length->i<j+1->pF g i bs)/\(true=true->bB bs<bB (b2.set j true))/\bO bs (b2.set j true)):=by
        refine⟨fun h=>(by cases h),fun _=>?_,HJ.out.2.2.trans (bO.set b2 j)⟩;have:=Lx.cnt_mono HJ.out.2.2;rw[JE.out];omega
       rw[he]at q1;clear HJ qG JD hb he;go_wp2_with fail;rw[<-hW1];refine q1.mono ?_;rintro e w2 ⟨rfl,hb2⟩;have uR:=MI.below hb2;have FJ:w2.cell? ⟨w.heap.size+2,0,none⟩=some (.slice (some ⟨w.heap.size+1,0,none⟩) g.rules.length g.rules.length):=uR.fv.cell 0;have o2:w2.cell? ⟨w.heap.size+1,j,none⟩=some (.bool (au b2 j)):=(uR.fo.cell j).trans (fI b2 HLJ.out);have of2:∀ i,w2.frozen? ⟨w.heap.size+1,i,none⟩=false:=uR.fo.frozen;have akC:ES w.heap.size g.rules.length B num w (w2.setCell ⟨w.heap.size+1,j,none⟩ (.bool true)) (b2.set j true):=by
        refine⟨uR.nb.other (by omega) _,uR.mp.move (hs0 (by show B≠w.heap.size+1;omega)),uR.bl,?_,uR.fv.other (by omega) _,?_,uR.fr.setCell (p:=⟨w.heap.size+1,j,none⟩) (by show w.heap.size<=w.heap.size+1;omega) _⟩
        ·rw[<-p9];exact uR.fo.set j _
        ·show (b2.set j true).length=_
         rw[List.length_set];exact uR.len.out
       rw[HS.out]at aa1;go_wp2_with fail;go_roundg (g.rules.length - (j+1))
       case measure=>omega
       case rel=>exact⟨j+1,b2.set j true,true,by omega,rfl,by go_num,akC,aa1,⟨HJ2.out.1,fun _=>HJ2.out.2.1 trivial,HJ2.out.2.2⟩⟩
      | false =>
       have HJ2:Hid ((gr=false->b2=bs/\∀ i,i<g.rules.length->i<j+1->pF g i bs)/\(gr=true->bB bs<bB b2)/\bO bs b2):=by
        refine⟨fun hg=>?_,HJ.out.2⟩;have h1:=HJ.out.1 hg;refine⟨h1.1,fun i hi hij=>?_⟩
        by_cases hij2:i=j
        ·rw[hij2,<-h1.1];exact JD.out (.inr he)
        ·exact h1.2 i hi (by omega)
       rw[he]at q1;clear HJ qG JD hb he;go_wp2_with fail;rw[<-hW1];refine q1.mono ?_;rintro e w2 ⟨rfl,hb2⟩;have uR:=MI.below hb2;go_wp2_with fail;go_roundg (g.rules.length - (j+1))
       case measure=>omega
       case rel=>exact⟨j+1,b2,gr,by omega,rfl,by go_num,uR,wO,HJ2⟩
    ·have:j=g.rules.length:=by omega
     subst this;have hj:=HJ.out;clear HJ;have hlb:=JC.out;have am5:=Af b2;have akD:=pV.len.out;have HX:Hid (g.rules.length-bB b2+zK gr<=g.rules.length-bB bs+zK gr/\(gr=true->bB bs<bB b2)/\(gr=false->∀ i,i<g.rules.length->pF g i b2)):=by
      have:=Lx.cnt_mono hj.2.2;refine⟨by omega,hj.2.1,fun hg i hi=>?_⟩;have h1:=hj.1 hg;rw[h1.1];exact h1.2 i hi hi
     clear hj hlb akD;have HM:Hid (g.rules.length-bB b2+zK gr<g.rules.length-bB bs+1):=by
      have h1:=HX.out;have h2:=JC.out;have h3:=pV.len.out;show _<_;cases gr with
      | true=>have:=h1.2.1 rfl;simp[zK];omega
      | false=>have:=h1.1;simp[zK]at this |-;omega
     go_wp2_with fail;go_roundg (g.rules.length-bB b2+zK gr)
     case measure=>have:=HM.out;omega
     case rel=>exact⟨b2,gr,rfl,lr0,pV,wO,HX.out.2.2⟩
namespace Lx
theorem XU:∀ (ws:List Wd) (s:List ByteArray),bS s ws=none->(eX ws).Nodup/\∀ b∈eX ws,b ∉ s
 | [],_,_=>⟨List.nodup_nil,fun b h=>by cases h⟩
 | w::ws,s,h=>by
  rw[bS]at h
  split at h
  ·cases h
  ·rename_i hm
   obtain⟨h1,h2⟩:=XU ws _ h;rw[Vo];refine⟨List.nodup_cons.2 ⟨fun hw=>h2 _ hw List.mem_cons_self,h1⟩,fun b hb=>?_⟩;rcases List.mem_cons.1 hb with rfl | hb
   ·exact fun hs=>hm (xu.2 hs)
   ·exact fun hs=>h2 b hb (List.mem_cons_of_mem _ hs)
theorem OO (g:Gr):eX (lQ g)=aG g:=by unfold eX lQ aG;rw[List.map_map];rfl
theorem Ev {g:Gr}(h:pu g=none):(aG g).Nodup:=by
 unfold pu at h;cases h1:bS [] (iC g) with
 | some p=>rw[h1]at h;cases h
 | none =>
  rw[h1]at h;have:=(XU _ _ h).1;rw[OO]at this;exact this
theorem aiu {s:ByteArray}{g:Gr}(h:parse s=.ok g):bS [] (told (iO g))=pu g:=agT h
theorem W9 {s:ByteArray}{g:Gr}(h:parse s=.ok g):ow (eX (told (iO g))) (iO g)=qp g:=by
 have hk:=Es h;have e:eX (told (iO g))=iD g++aG g:=by rw[KP,En,OO];rfl
 rw[e,Vg ?_ ?_ _ hk,aeN]
 ·rfl
 ·intro b hb
  obtain⟨r,hr,rfl⟩:=List.mem_map.1 hb;exact ((Ca h).2.1 r hr).1
 ·intro b hb
  rw[show iD g=eX (iC g) from rfl]at hb;obtain⟨w,hw,rfl⟩:=List.mem_map.1 hb;obtain⟨lv,hl,hw⟩:=List.mem_flatMap.1 hw;obtain⟨t,ht,rfl⟩:=List.mem_map.1 hw;exact (Ca h).1 lv hl t ht
theorem ajl {g:Gr}{bs:List Bool}(h:sK (zo g) g.rules.length ((List.replicate g.rules.length false).set 0 true) bs):bs=xC g:=h.unique (Wz g _ _ _ (by simp) (lr0))
theorem ajD {g:Gr}{bs:List Bool}(h:sK (pF g) g.rules.length (List.replicate g.rules.length false) bs):bs=vM g:=h.unique (Xw g _ _ _ (by simp) (lr0))
end Lx
theorem aeK {F:Nat->Prop} {w:World} {vR vW:Value} {s:ByteArray} {g:Lx.Gr} (hp:Lx.parse s=.ok g) (h:mH F w vR g.rules) (hW:WR w vW (iO g)) :
  Calls prog 26 #[vR,vW] w fun e w'=>e=.returned (.tuple #[.int .i64 ((dF g).1:Int),.int .i64 ((dF g).2:Int)])/\Below w.heap.size w w':=by
 have hpi:=Ca hp;have hsz:=(Ku hp).1;have hrn:g.rules.length<=2001:=by
  have h1:g.rules.length<=uz g.rules:=Ag (fun r:Lx.Rl=>1+iP 9 r.alts) fun _ _=>by omega
  omega
 have hkd:∀ r∈g.rules,∀ it∈aX 9 r.alts,it.kind<=2:=fun r hr it hi=>by rcases (hpi.2.1 r hr).2.1 it hi with h | h | h <;> omega
 have q1:=aga hW;rw[aiu hp]at q1;obtain⟨wa,wc,rfl,-⟩:=hW.len;obtain⟨ra,rc,rfl,-⟩:=h.len;have HC:Hid (dF g=iL 4 (pu g) (iL 5 (qp g) (iL 6 (eF g.rules (xC g)) (iL 7 (eF g.rules (vM g)) (0,0))))):=rfl;generalize hcr:dF g=cr at HC;clear hcr;go_enter func26,ntmps26;go_wp2_with fail;refine q1.mono ?_;rintro e w1 ⟨rfl,hb1⟩;cases hd:pu g with
 | some p =>
  have tV:Hid (cr=(4,p)):=by have:=HC.out;rw[hd]at this;exact this
  have hn1:((p:Int) != -1)=true:=bne_iff_ne.2 (by omega);clear HC q1 hd;unfold wm;go_wp2_with fail;refine bodyPost_ret (v:=.tuple #[.int .i64 4,.int .i64 (p:Int)]) (by simp[results,results26,go_sem]) rfl ⟨?_,hb1⟩;rw[tV.out];rfl
 | none =>
  have q2:=ae7 (hW.below hb1);rw[W9 hp]at q2;have hnd:=Ev hd;have NG:Hid (cr=iL 5 (qp g) (iL 6 (eF g.rules (xC g)) (iL 7 (eF g.rules (vM g)) (0,0)))):=by have:=HC.out;rw[hd]at this;exact this
  clear HC q1 hd;unfold wm;go_wp2_with fail;refine q2.mono ?_;rintro e w2 ⟨rfl,hb2⟩;have qA:=hb1.trans (hb2.mono hb1.size);cases hu:qp g with
  | some p =>
   have tV:Hid (cr=(5,p)):=by have:=NG.out;rw[hu]at this;exact this
   have hn1:((p:Int) != -1)=true:=bne_iff_ne.2 (by omega);clear NG q2 hu;unfold wm;go_wp2_with fail;refine bodyPost_ret (v:=.tuple #[.int .i64 5,.int .i64 (p:Int)]) (by simp[results,results26,go_sem]) rfl ⟨?_,qA⟩;rw[tV.out];rfl
  | none =>
   have tV:Hid (cr=iL 6 (eF g.rules (xC g)) (iL 7 (eF g.rules (vM g)) (0,0))):=by have:=NG.out;rw[hu]at this;exact this
   have q3:=ae8 (h.below qA);have HU:Hid (qp g=none):=hu;clear NG q2 hu;unfold wm;go_wp2_with fail;refine q3.mono ?_;rintro e w3 ⟨B,num,rfl,hB3,jc,Ir,hb3⟩;have yU:=qA.trans (hb3.mono qA.size);have aap:∀ b,b∈aG g->num b=(Lx.fix (aG g) b:Int):=by
    intro b hb;have hlt:=(uo (iG.2 hb)).2;have hlr:Lx.fix (aG g) b<g.rules.length:=by simpa [aG]using hlt
    have hat:(aG g)[Lx.fix (aG g) b]=b:=of_decide_eq_true (List.findIdx_getElem (w:=hlt));have xG:g.rules[Lx.fix (aG g) b].name=b:=by
     have:(aG g)[Lx.fix (aG g) b]=g.rules[Lx.fix (aG g) b].name:=by simp[aG]
     rw[<-this];exact hat
    have:=Ir _ hlr (fun k hk hik e=>by
     have hp:=List.pairwise_iff_getElem.1 hnd _ k hlt (by simpa [aG]using hk) hik;apply hp;simp only[aG,List.getElem_map];exact e.symm)
    rw[xG]at this;exact this
   have q4:=afh (h.below yU) jc aap HU.out hpi.2.2 hrn;clear q3;go_wp2_with fail;refine q4.mono ?_;rintro e w4 ⟨o,bs,rfl,ho4,hk4,hls,hb4⟩;have RJ:=yU.trans (hb4.mono yU.size);have hbs:=ajl hls;have q5:=UW (hW.below RJ) hk4 hls.len (by rw[XC];exact lr0);rw[Ze g bs (by rw[hls.len];exact lr0),hbs]at q5;clear q4;go_wp2_with fail;refine q5.mono ?_;rintro e w5 ⟨rfl,hb5⟩;have MJ:=RJ.trans (hb5.mono RJ.size);cases hf:eF g.rules (xC g) with
   | some p =>
    have pW:Hid (cr=(6,p)):=by have:=tV.out;rw[hf]at this;exact this
    have hn1:((p:Int) != -1)=true:=bne_iff_ne.2 (by omega);clear tV q5 hf hbs hls;unfold wm;go_wp2_with fail;refine bodyPost_ret (v:=.tuple #[.int .i64 6,.int .i64 (p:Int)]) (by simp[results,results26,go_sem]) rfl ⟨?_,MJ⟩;rw[pW.out];rfl
   | none =>
    have pW:Hid (cr=iL 7 (eF g.rules (vM g)) (0,0)):=by have:=tV.out;rw[hf]at this;exact this
    have iB:SMap w5 B num:=jc.move ((hb5.block B (by have:=jc.lt;have:=hb4.size;omega)).trans (hb4.block B jc.lt));have q6:=afK (h.below MJ) iB aap HU.out hkd hrn;clear tV q5 hf hbs hls;unfold wm;go_wp2_with fail;refine q6.mono ?_;rintro e w6 ⟨o6,bs6,rfl,ho6,zH,Iw,hb6⟩;have Iy:=MJ.trans (hb6.mono MJ.size);have RL:=ajD Iw;have q7:=UW (hW.below Iy) zH Iw.len (by rw[XC];exact lr0);rw[Ze g bs6 (by rw[Iw.len];exact lr0),RL]at q7;clear q6;go_wp2_with fail;refine q7.mono ?_;rintro e w7 ⟨rfl,qB⟩;have aa2:=Iy.trans (qB.mono Iy.size);cases hf:eF g.rules (vM g) with
    | some p =>
     have TH:Hid (cr=(7,p)):=by have:=pW.out;rw[hf]at this;exact this
     have hn1:((p:Int) != -1)=true:=bne_iff_ne.2 (by omega);clear pW q7 hf RL Iw;unfold wm;go_wp2_with fail;refine bodyPost_ret (v:=.tuple #[.int .i64 7,.int .i64 (p:Int)]) (by simp[results,results26,go_sem]) rfl ⟨?_,aa2⟩;rw[TH.out];rfl
    | none =>
     have TH:Hid (cr=(0,0)):=by have:=pW.out;rw[hf]at this;exact this
     clear pW q7 hf RL Iw;unfold wm;go_wp2_with fail;refine bodyPost_ret (v:=.tuple #[.int .i64 0,.int .i64 0]) (by simp[results,results26,go_sem]) rfl ⟨?_,aa2⟩;rw[TH.out];rfl
namespace Lx
theorem Va:∀ {ws:List Wd} {all:List ByteArray},ow all ws=none->∀ x∈ws,(x.1=2\/x.1=4)->x.2.1∈all
 | [],_,_,x,hx,_=>by cases hx
 | w::ws,all,h,x,hx,hr=>by
  rw[ow]at h
  split at h
  ·cases h
  ·rename_i hn
   rcases List.mem_cons.1 hx with rfl | hx
   ·cases hm:iR x.2.1 all with
    | true=>exact xu.1 hm
    | false=>exact absurd ⟨hr,hm⟩ hn
   ·exact Va h x hx hr
theorem aiv {s:ByteArray}{g:Gr}(hp:parse s=.ok g)(hu:qp g=none):∀ x∈iO g,x.1=4->x.2.1∈iD g:=by
 intro x hx h4;have h1:=W9 hp;rw[hu]at h1;have h2:=Va h1 x hx (.inr h4);have e:eX (told (iO g))=iD g++aG g:=by rw[KP,En,OO];rfl
 rw[e]at h2;rcases List.mem_append.1 h2 with h2 | h2
 ·exact h2
 ·exfalso
  obtain⟨r,hr,hn⟩:=List.mem_map.1 h2;have hn1:isName r.name=true:=((Ca hp).2.1 r hr).1;rcases Es hp x hx with ⟨h5,-⟩ | ⟨-,h5⟩
  ·omega
  ·have hn2:r.name=x.2.1:=hn
   rw[hn2,Vv h5]at hn1;cases hn1
theorem agu {s:ByteArray}{g:Gr}(hp:parse s=.ok g):∀ x∈iO g,x.2.1.size<=2000:=by
 intro x hx;rcases Es hp x hx with ⟨-,h⟩ | ⟨-,h⟩
 ·have:=XP h;omega
 ·have:=agk h;omega
theorem afL {s:ByteArray}{g:Gr}(hp:parse s=.ok g):∀ x∈iO g,¬ x.1=1->¬ x.1=2->x.2.1≠iY:=by
 intro x hx h1 h2 e;rcases Es hp x hx with ⟨h,-⟩ | ⟨-,h⟩
 ·rcases h with h | h
  ·exact h1 h
  ·exact h2 h
 ·rw[e]at h
  revert h;decide
end Lx
section
variable {g:Lx.Gr} {fS:ByteArray -> Int}
theorem Zr (hf:Lx.Fit g)(hs:vQ (aA g).length g.rules g.rules.length (iV (aA g)) fS){c:ByteArray}(ht:Lx.isToken c=true)(h0:0<=bA (aA g) c):fS c=(Lx.fix (aA g) c:Int):=by
 rw[hs.tok c fun i hi _ e=>?_]
 ·unfold iV
  rw[if_pos h0];unfold bA at h0 |-
  split at h0
  ·rename_i h1;rw[if_pos h1]
  ·omega
 ·have:=(hf.rl _ (List.getElem_mem hi)).1
  rw[e,Vv ht]at this;cases this
theorem aiw (hf:Lx.Fit g)(hs:vQ (aA g).length g.rules g.rules.length (iV (aA g)) fS){c:ByteArray}(hc:c∈aG g):fS c=(((aA g).length+Lx.fix (aN g) c:Nat):Int):=by
 obtain⟨r,hr,rfl⟩:=List.mem_map.1 hc;obtain⟨i,hi,rfl⟩:=List.getElem_of_mem hr;rw[hs.rule i hi hi];have:=Zm (fun r hr=>(hf.rl r hr).1) (Ev hf.dup) hi;have e:aN g=dZ g.rules:=rfl;rw[e,this]
theorem XV (hf:Lx.Fit g)(hs:vQ (aA g).length g.rules g.rules.length (iV (aA g)) fS){r:Lx.Rl}(hr:r∈g.rules){x:Lx.It}(hx:x∈aX 9 r.alts)(hk:x.kind≠2):fS x.name=(fU (aA g) (aN g) x:Int):=by
 have hp:=hf.plain hr hx hk;unfold qi at hp;unfold fU;rcases (hf.rl r hr).2.1 x hx with h2 | h2 | h2
 ·rw[if_neg (by omega)]
  exact aiw hf hs (iG.1 (Ah (hf.Fj hr) hx h2.1))
 ·rw[if_pos h2.1]at hp |-
  exact Zr hf hs h2.2.1 hp
 ·exact absurd h2 hk
end
theorem aix {g:Lx.Gr}{F:Nat->Prop}{w:World}{vR:Value}{fS:ByteArray->Int}{fH:Addr->Int}(hf:Lx.Fit g)(zG:mH F w vR g.rules)(hap:Apart F w (Qo w (aZ vR) 0 g.rules))(hs:vQ (aA g).length g.rules g.rules.length (iV (aA g)) fS)(hh:vU w (aZ vR) (aA g).length g.rules g.rules.length fH){G:Nat->Prop}(hG:∀ b,F b->je w b->G b):∀ i (hi:i<g.rules.length),aao w F G fS fH (aA g) (aN g) (cv w ⟨aZ vR,i*2+1,none⟩) g.rules[i] ((aA g).length+(dZ (g.rules.take i)).length):=by
 intro i hi;have hr:=List.getElem_mem hi;obtain⟨gR,cap,va,hv,hFg,hA,c0,c1⟩:=zG.at hi;subst hv;have Tx:aZ (.slice (some ⟨gR,0,none⟩) g.rules.length cap)=gR:=rfl;rw[Tx]at hap hh |-;have wM:cv w ⟨gR,i*2+1,none⟩=va:=by unfold cv;rw[c1];rfl
 have hel:∀ k p,(hlA w va g.rules[i].alts)[k]?=some p->fH p.1=(((aA g).length+(dZ (g.rules.take i)).length+1+k:Nat):Int):=fun k p hp=>hh i hi hi k p (by rw[wM];exact hp)
 rw[wM];have hmem:∀ p∈aT 9 w va g.rules[i].alts,p.2∈aX 9 g.rules[i].alts:=fun p hp=>by rw[<-EK hA];exact List.mem_map.2 ⟨p,hp,rfl⟩
 have JF:∀ p∈aT 9 w va g.rules[i].alts,F p.1.block/\je w p.1.block:=fun p hp=>hap.1 p (O6 g.rules 0 i (List.getElem?_eq_getElem hi) (by rw[Nat.zero_add,wM];exact hp))
 have Iz:∀ p∈aT 9 w va g.rules[i].alts,yT fS fH p=(fT (aA g) (aN g) ((aA g).length+(dZ (g.rules.take i)).length) (aH 9 g.rules[i].alts) p.2:Int):=by
  intro p hp;unfold yT fT
  by_cases hlp:Lx.hlp p.2=true
  ·rw[if_pos hlp,if_pos hlp]
   have hin:p∈hlA w va g.rules[i].alts:=List.mem_filter.2 ⟨hp,hlp⟩;obtain⟨k,hk,rfl⟩:=List.getElem_of_mem hin;rw[hel k _ (List.getElem?_eq_getElem hk)];have akE:=Zn hA;have hk':k<(aH 9 g.rules[i].alts).length:=by rw[<-Qq hA];exact hk
   have hx:(aH 9 g.rules[i].alts)[k]=((hlA w va g.rules[i].alts)[k]).2:=by
    have h5:((hlA w va g.rules[i].alts).map Prod.snd)[k]?=(aH 9 g.rules[i].alts)[k]?:=by rw[akE]
    rw[List.getElem?_map,List.getElem?_eq_getElem hk,List.getElem?_eq_getElem hk']at h5;simpa using h5.symm
   have hfx:qO (aH 9 g.rules[i].alts) ((hlA w va g.rules[i].alts)[k]).2.place<(aH 9 g.rules[i].alts).length:=Lr (by rw[<-hx];exact List.getElem_mem hk');have:=(Lb (hf.rise hr) hk' hfx).1 (by rw[hx]);rw[<-this]
  ·rw[if_neg hlp,if_neg hlp]
   refine XV hf hs hr (hmem p hp) fun h2=>hlp ?_
   simp[Lx.hlp,h2]
 refine⟨?_,fun p hp=>⟨(JF p hp).1,hG _ (JF p hp).1 (JF p hp).2,fun h2=>XV hf hs hr (hmem p hp) h2,?_,?_,?_⟩,Iz,hel,?_,?_,?_,?_,hf.aal hr _ _ _⟩
 ·exact hs.rule i hi hi
 ·have:=(hf.its hr (hmem p hp)).1;omega
 ·intro a ha
  have:=(hf.its hr (hmem p hp)).2 a ha;omega
 ·obtain⟨n,m,d',tJ,h1,h2,h3,h4,h5,h6⟩:=Zp hA hp
  exact⟨n,m,d',tJ,h1,h4,h5,fun q hq=>⟨hG _ (JF q (h6 q hq)).1 (JF q (h6 q hq)).2,Iz q (h6 q hq)⟩⟩
 ·intro a ha hn
  have h0:=hf.prec hr ha hn;rcases (hf.rl _ hr).2.2 a ha with h1 | h1
  ·exact absurd h1 hn
  ·exact Zr hf hs h1 h0
 ·have:=(hf.alts hr).1;omega
 ·intro a ha
  have:=(hf.alts hr).2 a ha;omega
 ·rw[Qq hA]
  have:=hf.jS hr;omega
namespace Lx
theorem aeW {x:Wd}{ws:List Wd}(h:x.1=1\/x.1=2):gD (x::ws)=gD ws:=by unfold gD;rw[List.filter_cons_of_neg];rcases h with h | h <;> simp[h]
theorem agv {x:Wd}{ws:List Wd}(h1:¬ x.1=1)(h2:¬ x.1=2):gD (x::ws)=x.2.1::gD ws:=by unfold gD;rw[List.filter_cons_of_pos (by simp[h1,h2])];rfl
end Lx
structure akF (w:World) (mb S:Nat) (cs:Array Value) (T:List ByteArray) (w':World):Prop where
 ex:∃ vT,aj w' mb (cs.setIfInBounds 0 vT) 125/\w'.ownsRow w.heap.size 9 1 vT T.length (T.map Value.string)
 sm:SMap w' S (iV T)
 kp:Kp (fun g=>g<w.heap.size/\g≠mb/\g≠S) w w'
theorem aeX {w:World} {mb S:Nat} {vH vW:Value} {ws:List Lx.Wd} (kM:aj w mb #[.slice none 0 0,.slice none 0 0,.slice none 0 0,.slice none 0 0,.slice none 0 0,.map (some S),vH] 125) (hS:SMap w S (fun _=>0)) (wP:WR w vW ws) (hWb:∀ g,vW.ownBlock=some g->g≠mb/\g≠S) (hsz:∀ x∈ws,x.2.1.size<=2000) (hnd:∀ x∈ws,¬ x.1=1->¬ x.1=2->x.2.1≠iY) (hl:ws.length<=100000) :
  Calls prog 55 #[.pointer (some ⟨mb,0,none⟩),vW] w fun e w'=>e=.returned (.tuple #[])/\akF w mb S #[.slice none 0 0,.slice none 0 0,.slice none 0 0,.slice none 0 0,.slice none 0 0,.map (some S),vH] (bQ [iY] (gD ws)) w':=by
 obtain⟨i9,hi9,hz90,hz91,hz92⟩:=info_parts Tryz.yL;obtain⟨a,c,rfl,-⟩:=wP.len;have lm:=kM.lt;have lS:=hS.lt;have DI:mb≠S:=fun e=>by
  obtain⟨es,clock,h1,-⟩:=hS;unfold aj at kM;rw[e,h1]at kM;cases kM
 have m0:w.cell? ⟨mb,0,none⟩=some (.slice none 0 0):=kM.cell 0;have f0:∀ i,w.frozen? ⟨mb,i,none⟩=false:=kM.frozen;go_enter func55,ntmps55;go_wp2_with fail;obtain⟨W,hW⟩:∃ W,W=(w.setCell ⟨mb,0,none⟩ (.slice (some ⟨w.heap.size,0,none⟩) 1 1)).alloc (.cells #[.string iY] 9):=⟨_,rfl⟩;have eW:(w.setCell ⟨mb,0,none⟩ (.slice (some ⟨w.heap.size,0,none⟩) 1 1)).alloc (.cells #[.string { data:=#[36] }] 9)=W:=hW.symm;rw[eW];clear eW;have kW:aj W mb #[.slice (some ⟨w.heap.size,0,none⟩) 1 1,.slice none 0 0,.slice none 0 0,.slice none 0 0,.slice none 0 0,.map (some S),vH] 125:=by rw[hW];exact (kM.set 0 _).alloc _
 have kN:aj W w.heap.size #[.string iY] 9:=by
  have:=aj.new (w.setCell ⟨mb,0,none⟩ (.slice (some ⟨w.heap.size,0,none⟩) 1 1)) #[.string iY] 9;rw[hW];simpa [World.setCell]using this
 have oW:W.ownsRow w.heap.size 9 1 (.slice (some ⟨w.heap.size,0,none⟩) 1 1) 1 [.string iY]:=⟨rfl,.inr ⟨w.heap.size,1,#[.string iY],rfl,lr0,kN,lr0,by decide,rfl,rfl⟩⟩;have hkW:Kp (fun g=>g<w.heap.size/\g≠mb) w W:=⟨by rw[hW];rfl,by rw[hW];rfl,by rw[hW];rfl,by rw[hW];simp[World.setCell],fun g hg=>by rw[hW,Below.heap_alloc _ _ _ (by simp[World.setCell];exact hg.1),hs0 hg.2]⟩;have hSW:SMap W S (iV [iY]):=by rw[aio];exact hS.move (hkW.block S ⟨lS,fun e=>DI e.symm⟩)
 have aa3:Kp (fun g=>g<w.heap.size/\g≠mb/\g≠S) w W:=⟨hkW.os,hkW.tape,hkW.output,hkW.size,fun g hg=>hkW.block g ⟨hg.1,hg.2.1⟩⟩;have H0:Hid (bQ [iY] (gD ws)=bQ [iY] (gD (ws.drop 0))):=rfl;clear hW hkW kN m0 f0
 go_loopg [13] ws.length (fun k i wr=>∃ (j:Nat) (T:List ByteArray) (vT:Value),j+k=ws.length/\i=.int .i64 j/\T.length<=j+1/\(∃ T',T=iY::T')/\aj wr mb #[vT,.slice none 0 0,.slice none 0 0,.slice none 0 0,.slice none 0 0,.map (some S),vH] 125/\wr.ownsRow w.heap.size 9 1 vT T.length (T.map Value.string)/\SMap wr S (iV T)/\Kp (fun g=>g<w.heap.size/\g≠mb/\g≠S) w wr/\Hid (bQ [iY] (gD ws)=bQ T (gD (ws.drop j))))
 case atStart=>exact⟨0,[iY],_,by omega,rfl,by simp,⟨[],rfl⟩,kW,oW,hSW,aa3,H0⟩
 case round =>
  clear H0 hSW aa3 oW kW;obtain⟨j,T,vT,hk,rfl,NH,hT',kr,TI,hM,hkr,HD⟩:=hrel;have hsr:=hkr.size;obtain⟨ta,tc,rfl,-⟩:=aI TI
  by_cases hlt:j<ws.length
  ·have hwr:WR wr _ ws:=wP.move fun g hg=>hkr.block g ⟨(wP.lt g hg).2,hWb g hg⟩
   obtain⟨g,cap,hv,lg,c0,c1,c2⟩:=hwr.at hlt;cases hv;have hd:=HD.out;rw[List.drop_eq_getElem_cons hlt]at hd;have RN:=hsz ws[j] (List.getElem_mem hlt);have Fq:=hnd ws[j] (List.getElem_mem hlt);generalize ws[j]=x at c0 c1 c2 hd RN Fq;obtain⟨ro,tx,at_⟩:=x;simp only at c0 c1 c2 hd RN Fq;obtain⟨W1,hW1⟩:∃ W1,W1=wr.alloc (.cells #[.int .i64 (ro:Int),.string tx,.int .i64 (at_:Int)] 116):=⟨_,rfl⟩;have hb1:Below wr.heap.size wr W1:=by rw[hW1];exact (Below.refl _ _).alloc (lr0) _
   have hs1:W1.heap.size=wr.heap.size+1:=by rw[hW1];simp
   have kx:aj W1 wr.heap.size #[.int .i64 (ro:Int),.string tx,.int .i64 (at_:Int)] 116:=by rw[hW1];exact aj.new wr _ 116
   have lSr:=hM.lt;have jO:=kr.lt;have hM1:SMap W1 S (iV T):=hM.move (hb1.block _ lSr);have k1:aj W1 mb _ 125:=(hb1.block _ jO).trans kr;have o1:=own_below TI hb1;have hk1:Kp (fun g=>g<w.heap.size/\g≠mb/\g≠S) w W1:=hkr.trans (Kp.below hb1 (D:=fun g=>g<wr.heap.size) fun g hg=>hg) fun g hg=>Nat.lt_of_lt_of_le hg.1 hsr
   by_cases hro:ro=1\/ro=2
   ·rw[aeW hro]at hd
    have HD2:Hid _:=hd;clear hd HD;rcases hro with hro | hro
    have hq1:((ro:Int) == 1)=true:=by simp[hro]
    clear hro
    rotate_left
    have hq1:((ro:Int) == 1)=false:=bq0 (by omega);have hq2:((ro:Int) == 2)=true:=by simp[hro]
    clear hro
    all_goals
     go_wp2_with fail;rw[<-hW1];go_roundg (ws.length - (j+1))
     case measure=>omega
     case rel=>exact⟨j+1,T,_,by omega,by go_num,by omega,hT',k1,o1,hM1,hk1,HD2⟩
   ·have hn1:¬ ro=1:=fun e=>hro (.inl e)
    have hn2:¬ ro=2:=fun e=>hro (.inr e)
    have hq1:((ro:Int) == 1)=false:=bq0 (by omega);have hq2:((ro:Int) == 2)=false:=bq0 (by omega);rw[agv hn1 hn2]at hd;have hnt:=Fq hn1 hn2;have RO:SMap W1.drew S (iV T):=hM1.move rfl;have hl1:=RO.look tx;have x1:W1.drew.cell? ⟨wr.heap.size,1,none⟩=some (.string tx):=kx.drew.cell 1;have m5:W1.drew.cell? ⟨mb,5,none⟩=some (.map (some S)):=k1.drew.cell 5;have aa4:Kp (fun g=>g<w.heap.size/\g≠mb/\g≠S) w W1.drew:=⟨hk1.os,hk1.tape,hk1.output,hk1.size,hk1.block⟩;clear Fq hro hn1 hn2;obtain⟨T',hT'⟩:=hT'
    by_cases h0:iV T tx=0
    ·have hf:¬ 0<=bA T tx:=by
      rw[hT']at h0 |-;exact (XR hnt).1 h0
     have HD2:Hid (bQ [iY] (gD ws)=bQ (T++[tx]) (gD (ws.drop (j+1)))):=by
      rw[show bQ T (tx::gD (ws.drop (j+1)))=bQ (iM T tx) (gD (ws.drop (j+1))) from rfl,show iM T tx=T++[tx] from if_neg hf]at hd;exact hd
     rw[h0]at hl1;have aa5:SMap W1.drew.drew S (iV T):=hM1.move rfl;obtain⟨w2,hu,hM2,hg2,hs2⟩:=aa5.put tx (T.length:Int);rw[aip hf]at hM2;have TJ:aj W1.drew.drew mb _ 125:=k1.drew.drew;have kxd:aj W1.drew.drew wr.heap.size _ 116:=kx.drew.drew;have d0:W1.drew.drew.cell? ⟨mb,0,none⟩=some (.slice ta T.length tc):=TJ.cell 0;have d5:W1.drew.drew.cell? ⟨mb,5,none⟩=some (.map (some S)):=TJ.cell 5;have dx:W1.drew.drew.cell? ⟨wr.heap.size,1,none⟩=some (.string tx):=kxd.cell 1;have k2:aj w2 mb _ 125:=TJ.grown hg2 (fun e=>DI (Option.some.inj e));have iW:aj w2 wr.heap.size _ 116:=kxd.grown hg2 (fun e=>by have:=Option.some.inj e;omega);have o2:w2.ownsRow w.heap.size 9 1 (.slice ta T.length tc) T.length (T.map Value.string):=aD (aD (w':=W1.drew.drew) o1 fun _ _=>rfl) fun g hg=>hg2.block g (o1.lt g hg).2 (fun e=>by have:=(o1.lt g hg).1;have:=Option.some.inj e;omega)
     have hk2:Kp (fun g=>g<w.heap.size/\g≠mb/\g≠S) w w2:=⟨hg2.os.trans hk1.os,hg2.tape.trans hk1.tape,hg2.output.trans hk1.output,by rw[hs2];exact hk1.size,fun g hg=>(hg2.block g (Nat.lt_of_lt_of_le hg.1 hk1.size) (fun e=>hg.2.2 (Option.some.inj e))).trans (hk1.block g hg)⟩;have Mt:w2.heap.size=wr.heap.size+1:=hs2.trans hs1;have am6:=hg2;have HT:Hid (∃ T',T++[tx]=iY::T'):=⟨T'++[tx],by rw[hT'];rfl⟩;clear hd HD hf hnt h0 hM1 RO aa5 hg2 hs2 aa4 hT';go_wp2_with fail;rw[<-hW1];clear hW1 c0 c1 c2
     go_region
     all_goals
      go_wp2_with fail
      go_region
     all_goals
      clear hl1 hu d0 d5 dx m5 x1;have qC:=O9 tx w2.drew RN;have lm2:=k2.lt;have e0:w2.drew.cell? ⟨mb,0,none⟩=some (.slice ta T.length tc):=k2.drew.cell 0;have ex:w2.drew.cell? ⟨wr.heap.size,1,none⟩=some (.string tx):=iW.drew.cell 1;go_wp2_with fail
      go_region_law (first | (refine mZ rfl 99 #[.string tx] (by go_simp) qC ?_;rintro e w3 ⟨rfl,hb3⟩;have k3:aj w3 mb _ 125:=(hb3.block mb lm2).trans k2;have o3:=own_below (aD (w':=w2.drew) o2 fun _ _=>rfl) hb3;have oA:=o3.alloc (.cells #[.string tx] 9);have e3:w3.cell? ⟨mb,0,none⟩=some (.slice ta T.length tc):=k3.cell 0;have Tp:=k3.lt;have ls3:w.heap.size<=w3.heap.size:=Nat.le_trans hk2.size hb3.size;refine⟨_,rfl,?_⟩) | (refine step_append_lies _ rfl (.tmp 50) (.tmp 54) 22 rfl w.heap.size 9 i9 _ 1 16 underlying22 hi9 hz90 hz91 hz92 rfl (by decide) (.slice ta T.length tc) T.length (T.map Value.string) (by simp[Act.eval]) oA ⟨w3.heap.size,0,none⟩ 1 1 [.string tx] (by simp[Act.eval]) rfl (bP (aj.new w3 _ 9)) (by simp[Value.oneCell']) (by decide) (by unfold maxLen;omega) (by omega) (by simp;omega) _ rfl ?_;intro g4 cap4 w4 vG bX nE xE;have k4:=(k3.alloc (.cells #[.string tx] 9)).grown bX (fun e=>by have:=(o2.lt mb e.symm).1;omega);have c40:w4.cell? ⟨mb,0,none⟩=some (.slice ta T.length tc):=k4.cell 0;have f4:∀ i,w4.frozen? ⟨mb,i,none⟩=false:=k4.frozen))
     all_goals
      have jJ:∀ g,g<w2.heap.size->g≠mb->g<w.heap.size->(w4.setCell ⟨mb,0,none⟩ (.slice (some ⟨g4,0,none⟩) (T.length+1) cap4)).heap[g]?=w2.heap[g]?:=fun g hg hm hlo=>by
       rw[hs0 hm,bX.block g (by have:=hb3.size;have:g<w3.heap.size:=Nat.lt_of_lt_of_le hg this;simp;omega) (fun e=>by have:=(o2.lt g e.symm).1;omega),Below.heap_alloc _ _ _ (Nat.lt_of_lt_of_le hg hb3.size),hb3.block g hg];rfl
      have o5:(w4.setCell ⟨mb,0,none⟩ (.slice (some ⟨g4,0,none⟩) (T.length+1) cap4)).ownsRow w.heap.size 9 1 (.slice (some ⟨g4,0,none⟩) (T.length+1) cap4) (T++[tx]).length ((T++[tx]).map Value.string):=by
       rw[List.length_append,List.map_append];exact aD vG fun g hg=>hs0 (fun e=>by have:=(vG.lt g hg).1;have e':g=mb:=e;omega)
      have hs5:w2.heap.size<=(w4.setCell ⟨mb,0,none⟩ (.slice (some ⟨g4,0,none⟩) (T.length+1) cap4)).heap.size:=by
       have h1:=hb3.size;have h2:=bX.size;simp[World.setCell]at h1 h2 |-;omega
      have lS2:S<w2.heap.size:=by omega
      have iB:SMap (w4.setCell ⟨mb,0,none⟩ (.slice (some ⟨g4,0,none⟩) (T.length+1) cap4)) S (iV (T++[tx])):=hM2.move (jJ S lS2 (fun e=>DI e.symm) lS);have hk5:Kp (fun g=>g<w.heap.size/\g≠mb/\g≠S) w (w4.setCell ⟨mb,0,none⟩ (.slice (some ⟨g4,0,none⟩) (T.length+1) cap4)):=⟨bX.os.trans (hb3.os.trans hk2.os),bX.tape.trans (hb3.tape.trans hk2.tape),bX.output.trans (hb3.output.trans hk2.output),Nat.le_trans hk2.size hs5,fun g hg=>(jJ g (Nat.lt_of_lt_of_le hg.1 hk2.size) hg.2.1 hg.1).trans (hk2.block g hg)⟩;have k5:=k4.set 0 (.slice (some ⟨g4,0,none⟩) (T.length+1) cap4);clear k4 c40 f4 bX vG nE xE o3 oA e3 hb3 k3 qC e0 ex jJ hs5;go_wp2_with fail;go_roundg (ws.length - (j+1))
      case measure=>omega
      case rel=>exact⟨j+1,T++[tx],_,by omega,by go_num,by simp;omega,HT.out,k5,o5,iB,hk5,HD2⟩
    ·have hf:0<=bA T tx:=by
      apply Decidable.byContradiction;intro hn;rw[hT']at h0 hn;exact h0 ((XR hnt).2 hn)
     have HD2:Hid (bQ [iY] (gD ws)=bQ T (gD (ws.drop (j+1)))):=by
      rw[show bQ T (tx::gD (ws.drop (j+1)))=bQ (iM T tx) (gD (ws.drop (j+1))) from rfl,show iM T tx=T from if_pos hf]at hd;exact hd
     clear hd HD hf hnt;generalize hn:iV T tx=n at hl1 h0;have hnb:(n == 0)=false:=beq_eq_false_iff_ne.2 h0;go_wp2_with fail;rw[<-hW1];clear hW1 c0 c1 c2
     go_region
     all_goals
      go_wp2_with fail;go_roundg (ws.length - (j+1))
      case measure=>omega
      case rel=>exact⟨j+1,T,_,by omega,by go_num,by omega,⟨T',hT'⟩,k1.drew,aD o1 fun _ _=>rfl,RO,aa4,HD2⟩
  ·have:j=ws.length:=by omega
   subst this;have hd:=HD.out;rw[List.drop_length]at hd;have HD2:Hid (bQ [iY] (gD ws)=T):=hd;clear hd HD;go_wp2_with fail
   go_end0
   refine⟨rfl,?_⟩;rw[HD2.out];exact⟨⟨_,kr,TI⟩,hM,hkr⟩
end Go.Proofs.YtlcppnabbicmoaaGreatDoor
