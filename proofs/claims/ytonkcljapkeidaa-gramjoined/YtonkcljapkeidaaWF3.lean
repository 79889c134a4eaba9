import Derived.Test.YtonkcljapkeidaaWF2
import Derived.Test.YtonkcljapkeidaaB2
namespace Go.Proofs.Ytonkcljapkeidaa
open Go.RowKit
open Lx (Tk)
open Tr
/-- How the document's trees lie. -/
def YR : Lay := { eA := 98, sA := 3, cA := fun q => [q.1, .string q.2.2.1, .int .i64 (q.2.2.2 : Int)], eI := 100, sI := 5, cI := fun q => [.int .i64 (q.2.kind : Int), .string q.2.name, .int .u8 (q.2.mark : Int), q.1, .int .i64 (q.2.place : Int)] }
def Fp (lo : Nat) (sgx : Value) (w : World) : Nat → Prop := fun b => lo ≤ b ∧ b < w.heap.size ∧ sgx.ownBlock ≠ some b
def RVAlts (d lo : Nat) (sgx : Value) (w' : World) (v : Value) (l : List Lx.Alt) : Prop := AltsIn YR d (Fp lo sgx w') w' v l
def RVItem (d lo : Nat) (sgx : Value) (w' : World) (v : Value) (it : Lx.It) : Prop := ∃ va, v = .agg #[.int .i64 (it.kind : Int), .string it.name, .int .u8 (it.mark : Int), va, .int .i64 (it.place : Int)] ∧ AltsIn YR d (Fp lo sgx w') w' va it.alts
def RVAlt (d lo : Nat) (sgx : Value) (w' : World) (v : Value) (a : Lx.Alt) : Prop := ∃ vi, v = .agg #[vi, .string a.2.1, .int .i64 (a.2.2 : Int)] ∧ ItemsIn YR d (Fp lo sgx w') w' vi a.1
def XAlts (v : Value) : Prop := ∃ a k c, v = .slice a k c
def XItem (v : Value) : Prop := ∃ k n m a l c p, v = .agg #[.int .i64 k, .string n, .int .u8 m, .slice a l c, .int .i64 p]
def XAlt (v : Value) : Prop := ∃ a l c b p, v = .agg #[.slice a l c, .string b, .int .i64 p]
def RAltsSaid (d : Nat) : Prop := ∀ (s : ByteArray) (q : Nat) (w : World) (ts : List Tk) (nest : Int) (sgv : Value) (sg : List ByteArray), nest = 8 - (d : Int) → RR s q w ts nest sgv sg →
  Calls Try.prog 49 #[.pointer (some ⟨q, 0, none⟩), .bool (d == 8)] w (REnds s q nest (RVAlts (d + 1) w.heap.size) XAlts w sgv (Lx.pAlts d ts))
def RItemSaid (d : Nat) : Prop := ∀ (s : ByteArray) (q : Nat) (w : World) (ts : List Tk) (nest : Int) (sgv : Value) (sg : List ByteArray), nest = 8 - (d : Int) → RR s q w ts nest sgv sg → Lx.seesItem ts = true →
  Calls Try.prog 71 #[.pointer (some ⟨q, 0, none⟩), .bool (Lx.isName (Lx.hd ts)), .bool (Lx.isToken (Lx.hd ts))] w (REnds s q nest (RVItem d w.heap.size) XItem w sgv (Lx.pItem (Lx.pGroupAt d) ts))
def RAltSaid (d : Nat) : Prop := ∀ (s : ByteArray) (q : Nat) (w : World) (ts : List Tk) (nest : Int) (sgv : Value) (sg : List ByteArray), nest = 8 - (d : Int) → RR s q w ts nest sgv sg →
  Calls Try.prog 60 #[.pointer (some ⟨q, 0, none⟩), .bool (d == 8)] w (REnds s q nest (RVAlt d w.heap.size) XAlt w sgv (Lx.pAlt (Lx.pGroupAt d) (d == 8) ts))
section
variable {s : ByteArray} {q : Nat} {w w' : World} {ts : List Tk} {nest : Int} {sgv sgx : Value} {sg : List ByteArray}
theorem RR.owl (h : RR s q w ts nest sgv sg) : ∀ g, sgv.ownBlock = some g → g < w.heap.size := fun g hg => (h.own.lt g hg).2
theorem RX.owl {n a : Nat} (h : RX s q w nest n a sgv sg) : ∀ g, sgv.ownBlock = some g → g < w.heap.size := fun g hg => (h.own.lt g hg).2
theorem RX.lt {n a : Nat} (h : RX s q w nest n a sgv sg) : q < w.heap.size := by obtain ⟨i, W, hb⟩ := h.blk; exact hb.lt
theorem RR.alloc (h : RR s q w ts nest sgv sg) (o : Obj) : RR s q (w.alloc o) ts nest sgv sg := h.move (Below.heap_alloc _ _ _ h.lt) fun g hg => Below.heap_alloc _ _ _ (h.owl g hg)
theorem RX.alloc {n a : Nat} (h : RX s q w nest n a sgv sg) (o : Obj) : RX s q (w.alloc o) nest n a sgv sg := h.move (Below.heap_alloc _ _ _ h.lt) fun g hg => Below.heap_alloc _ _ _ (h.owl g hg)
theorem RR.other (h : RR s q w ts nest sgv sg) {b : Nat} (i : Nat) (v : Value) (hq : b ≠ q) (hb : sgv.ownBlock ≠ some b) : RR s q (w.setCell ⟨b, i, none⟩ v) ts nest sgv sg :=
  h.move (Below.heap_setCell _ _ _ _ (Ne.symm hq)) fun g hg => Below.heap_setCell _ _ _ _ (fun e => hb (by rw [hg]; exact congrArg some e))
theorem RX.other {n a : Nat} (h : RX s q w nest n a sgv sg) {b : Nat} (i : Nat) (v : Value) (hq : b ≠ q) (hb : sgv.ownBlock ≠ some b) : RX s q (w.setCell ⟨b, i, none⟩ v) nest n a sgv sg :=
  h.move (Below.heap_setCell _ _ _ _ (Ne.symm hq)) fun g hg => Below.heap_setCell _ _ _ _ (fun e => hb (by rw [hg]; exact congrArg some e))
theorem RR.renest (h : RR s q w ts nest sgv sg) (m : Int) : RR s q (w.setCell ⟨q, 3, none⟩ (.int .i64 m)) ts m sgv sg :=
  ⟨h.blk.set 3 _, own_move h.own fun g hg => Below.heap_setCell _ _ _ _ (fun e => h.ne (by rw [hg]; exact congrArg some e)), h.ne, h.lex, h.ple, h.ss, h.hist, h.fst⟩
theorem RX.renest {n a : Nat} (h : RX s q w nest n a sgv sg) (m : Int) : RX s q (w.setCell ⟨q, 3, none⟩ (.int .i64 m)) m n a sgv sg := by
  obtain ⟨i, W, hb⟩ := h.blk
  exact ⟨⟨i, W, hb.set 3 _⟩, own_move h.own fun g hg => Below.heap_setCell _ _ _ _ (fun e => h.ne (by rw [hg]; exact congrArg some e)), h.ne, h.pos, h.inf⟩
theorem RR.fresh (h : RR s q w ts nest sgv sg) {b : Nat} (hb : w.heap.size ≤ b) : sgv.ownBlock ≠ some b := fun e => by have := h.owl b e; omega
theorem RX.fresh {n a : Nat} (h : RX s q w nest n a sgv sg) {b : Nat} (hb : w.heap.size ≤ b) : sgv.ownBlock ≠ some b := fun e => by have := h.owl b e; omega
theorem Nx.keep (h : Nx sgv w sgx) {b : Nat} (hb : b < w.heap.size) (hf : sgv.ownBlock ≠ some b) : sgx.ownBlock ≠ some b := by
  rcases h with h | ⟨g, h, hg⟩
  · rw [h]; exact hf
  · rw [h]; intro e
    have := Option.some.inj e
    omega
end
theorem Blk.mv {q : Nat} {sgv : Value} {w w' : World} {b : Nat} {cs : Array Value} {e : Nat} (h : Blk w b cs e) (hm : Mv q sgv w w') (hq : b ≠ q) (hs : sgv.ownBlock ≠ some b) : Blk w' b cs e :=
  (hm.block b h.lt hq hs).trans h
end Go.Proofs.Ytonkcljapkeidaa
