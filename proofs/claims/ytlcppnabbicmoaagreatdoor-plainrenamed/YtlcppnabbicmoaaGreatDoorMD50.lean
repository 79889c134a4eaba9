import Derived.Test.YtlcppnabbicmoaaGreatDoorMD49
set_option maxHeartbeats 8000000
set_option maxRecDepth 1000000
namespace Go.Proofs.YtlcppnabbicmoaaGreatDoor
section
open Go.RowKit
open Tr
namespace Lx
theorem drop_at {s:ByteArray}{j:Nat}(h:j<s.size):(bytes s).drop j=s[j]::(bytes s).drop (j+1):=by
 have hl:j<(bytes s).length:=by rw[bytes_len];exact h
 rw[List.drop_eq_getElem_cons hl];congr 1
theorem bytes_app (a b:ByteArray):bytes (a++b)=bytes a++bytes b:=by unfold bytes;simp
theorem bytes_one {s:ByteArray}{j:Nat}(h:j<s.size):bytes (s.extract j (j+1))=[s[j]]:=by
 have h1:bytes (s.extract j (j+1))=((bytes s).drop j).take 1:=by
  unfold bytes;simp[ByteArray.data_extract]
 rw[h1,drop_at h];rfl
theorem ren_step {s T T':ByteArray}{j:Nat}{bb bb':Bool}(hlt:j<s.size)(HQ:renL false (bytes s)=bytes T++renL bb ((bytes s).drop j)){L:List UInt8}(h1:insB bb s[j]=L)(h2:inB s[j]=bb')(h3:bytes T'=bytes T++(L++[s[j]])):renL false (bytes s)=bytes T'++renL bb' ((bytes s).drop (j+1)):=by
 rw[HQ,drop_at hlt,renL,h1,h2,h3];simp
theorem ins_true (c:UInt8):insB true c=[]:=by
 unfold insB;rw[if_neg (fun h=>by cases h.2.1),if_neg (fun h=>by cases h.2.1)]
theorem ins_small {c:UInt8}(h:inB c=true)(k:small (bt c)=true):insB false c=[122]:=by unfold insB;rw[if_pos ⟨h,rfl,k⟩]
theorem ins_cap {c:UInt8}(h:inB c=true)(k:small (bt c)=false)(k2:capital (bt c)=true):insB false c=[90]:=by
 unfold insB;rw[if_neg (fun h=>by rw[k]at h;cases h.2.2),if_pos ⟨h,rfl,k2⟩]
theorem ins_no {c:UInt8}(k:small (bt c)=false)(k2:capital (bt c)=false):insB false c=[]:=by
 unfold insB;rw[if_neg (fun h=>by rw[k]at h;cases h.2.2),if_neg (fun h=>by rw[k2]at h;cases h.2.2)]
theorem ext_size {T U s:ByteArray}{j:Nat}(h:j<s.size):(T++U++s.extract j (j+1)).size=T.size+U.size+1:=by
 rw[<-bytes_len,bytes_app,bytes_app,bytes_one h];simp[bytes_len];omega
theorem ext_size1 {T s:ByteArray}{j:Nat}(h:j<s.size):(T++s.extract j (j+1)).size=T.size+1:=by
 rw[<-bytes_len,bytes_app,bytes_one h];simp[bytes_len]
theorem ext_b {T U s:ByteArray}{j:Nat}{L:List UInt8}(h:j<s.size)(hU:bytes U=L):bytes (T++U++s.extract j (j+1))=bytes T++(L++[s[j]]):=by
 rw[bytes_app,bytes_app,bytes_one h,hU,List.append_assoc]
theorem ext_b1 {T s:ByteArray}{j:Nat}(h:j<s.size):bytes (T++s.extract j (j+1))=bytes T++([]++[s[j]]):=by
 rw[bytes_app,bytes_one h];rfl
theorem cls (c:UInt8):small (bt c)=decide ((97:Int)<=(c.toNat:Int)/\(c.toNat:Int)<=122)/\capital (bt c)=decide ((65:Int)<=(c.toNat:Int)/\(c.toNat:Int)<=90)/\digit (bt c)=decide ((48:Int)<=(c.toNat:Int)/\(c.toNat:Int)<=57)/\bt c=(c.toNat:Int):=⟨rfl,rfl,rfl,rfl⟩
theorem cls_in {c:UInt8}{b:Bool}(h:((small (bt c) || capital (bt c) || digit (bt c)) || decide (bt c=37))=b):inB c=b:=h
end Lx
theorem renamed_any (s:ByteArray)(w:World)(hs:s.size<=5000000):Calls Tryz.prog 23 #[.string s] w fun e w'=>(∃ t,e=.returned (.string t)/\Lx.bytes t=Lx.renL false (Lx.bytes s))/\w'=w:=by
 have H0:Hid (Lx.renL false (Lx.bytes s)=Lx.bytes ⟨#[]⟩++Lx.renL false ((Lx.bytes s).drop 0)):=by show _=_;rfl
 go_enter Tryz.func23,Tryz.ntmps23;go_wp2_with fail
 go_loopg [3,4,5] s.size (fun k v b i wr=>∃ (j:Nat) (T:ByteArray) (bb:Bool),j+k=s.size/\v=.string T/\b=.bool bb/\i=.int .i64 j/\wr=w/\T.size<=2*j/\Hid (Lx.renL false (Lx.bytes s)=Lx.bytes T++Lx.renL bb ((Lx.bytes s).drop j)))
 case atStart=>exact⟨0,⟨#[]⟩,false,by omega,rfl,rfl,rfl,rfl,by decide,H0⟩
 case round =>
  clear H0;obtain⟨j,T,bb,hkj,rfl,rfl,rfl,hww,hT,HQ⟩:=hrel;subst hww
  by_cases hlt:j<s.size
  ·have hbd:=Lx.byteAt_bd s j
   rw[Lx.byteAt_eq s j hlt]at hbd;have i1:(0:Int)<=(j:Int):=by omega
   have i2:(j:Int)<(s.size:Int):=by omega
   have HC:Hid _:=Lx.cls s[j]
   by_cases hA:(97:Int)<=(s[j].toNat:Int)/\(s[j].toNat:Int)<=122
   ·have f1:(97:Int)<=(s[j].toNat:Int):=by omega
    have f2:(s[j].toNat:Int)<=122:=by omega
    have f7:¬ (s[j].toNat:Int)=37:=by omega
    have f7b:((s[j].toNat:Int) == 37)=false:=beq_eq_false_iff_ne.2 f7;have ks:Lx.small (Lx.bt s[j])=true:=by rw[HC.out.1];simp;omega
    have kc:Lx.capital (Lx.bt s[j])=false:=by rw[HC.out.2.1];simp;omega
    have kd:Lx.digit (Lx.bt s[j])=false:=by rw[HC.out.2.2.1];simp;omega
    have kp:decide (Lx.bt s[j]=37)=false:=by rw[HC.out.2.2.2];simp;omega
    have ki:Lx.inB s[j]=true:=Lx.cls_in (by rw[ks,kc,kd,kp];rfl);cases bb with
    | false =>
     have HQ2:Hid _:=Lx.ren_step (T':=T++⟨#[122]⟩++s.extract j (j+1)) hlt HQ.out (Lx.ins_small ki ks) ki (Lx.ext_b hlt rfl);have hT2:(T++⟨#[122]⟩++s.extract j (j+1)).size<=2*(j+1):=by rw[Lx.ext_size hlt];show _+1+1<=_;omega
     clear HQ ks kc kd kp ki HC;go_wp2_with fail;go_roundg (s.size - (j+1))
     case measure=>omega
     case rel=>exact⟨j+1,_,_,by omega,rfl,rfl,by go_num,rfl,hT2,HQ2.out⟩
    | true =>
     have HQ2:Hid _:=Lx.ren_step (T':=T++s.extract j (j+1)) hlt HQ.out (Lx.ins_true _) ki (Lx.ext_b1 hlt);have hT2:(T++s.extract j (j+1)).size<=2*(j+1):=by rw[Lx.ext_size1 hlt];omega
     clear HQ ks kc kd kp ki HC;go_wp2_with fail;go_roundg (s.size - (j+1))
     case measure=>omega
     case rel=>exact⟨j+1,_,_,by omega,rfl,rfl,by go_num,rfl,hT2,HQ2.out⟩
   ·by_cases hB:(122:Int)<(s[j].toNat:Int)
    ·have f1:(97:Int)<=(s[j].toNat:Int):=by omega
     have f2:¬ (s[j].toNat:Int)<=122:=by omega
     have f3:(65:Int)<=(s[j].toNat:Int):=by omega
     have f4:¬ (s[j].toNat:Int)<=90:=by omega
     have f5:(48:Int)<=(s[j].toNat:Int):=by omega
     have f6:¬ (s[j].toNat:Int)<=57:=by omega
     have f7:¬ (s[j].toNat:Int)=37:=by omega
     have f7b:((s[j].toNat:Int) == 37)=false:=beq_eq_false_iff_ne.2 f7;have ks:Lx.small (Lx.bt s[j])=false:=by rw[HC.out.1];simp;omega
     have kc:Lx.capital (Lx.bt s[j])=false:=by rw[HC.out.2.1];simp;omega
     have kd:Lx.digit (Lx.bt s[j])=false:=by rw[HC.out.2.2.1];simp;omega
     have kp:decide (Lx.bt s[j]=37)=false:=by rw[HC.out.2.2.2];simp;omega
     have ki:Lx.inB s[j]=false:=Lx.cls_in (by rw[ks,kc,kd,kp];rfl);cases bb with
     | false =>
      have HQ2:Hid _:=Lx.ren_step (T':=T++s.extract j (j+1)) hlt HQ.out (Lx.ins_no ks kc) ki (Lx.ext_b1 hlt);have hT2:(T++s.extract j (j+1)).size<=2*(j+1):=by rw[Lx.ext_size1 hlt];omega
      clear HQ ks kc kd kp ki HC;go_wp2_with fail;go_roundg (s.size - (j+1))
      case measure=>omega
      case rel=>exact⟨j+1,_,_,by omega,rfl,rfl,by go_num,rfl,hT2,HQ2.out⟩
     | true =>
      have HQ2:Hid _:=Lx.ren_step (T':=T++s.extract j (j+1)) hlt HQ.out (Lx.ins_true _) ki (Lx.ext_b1 hlt);have hT2:(T++s.extract j (j+1)).size<=2*(j+1):=by rw[Lx.ext_size1 hlt];omega
      clear HQ ks kc kd kp ki HC;go_wp2_with fail;go_roundg (s.size - (j+1))
      case measure=>omega
      case rel=>exact⟨j+1,_,_,by omega,rfl,rfl,by go_num,rfl,hT2,HQ2.out⟩
    ·by_cases hC:(91:Int)<=(s[j].toNat:Int)
     ·have f1:¬ (97:Int)<=(s[j].toNat:Int):=by omega
      have f3:(65:Int)<=(s[j].toNat:Int):=by omega
      have f4:¬ (s[j].toNat:Int)<=90:=by omega
      have f5:(48:Int)<=(s[j].toNat:Int):=by omega
      have f6:¬ (s[j].toNat:Int)<=57:=by omega
      have f7:¬ (s[j].toNat:Int)=37:=by omega
      have f7b:((s[j].toNat:Int) == 37)=false:=beq_eq_false_iff_ne.2 f7;have ks:Lx.small (Lx.bt s[j])=false:=by rw[HC.out.1];simp;omega
      have kc:Lx.capital (Lx.bt s[j])=false:=by rw[HC.out.2.1];simp;omega
      have kd:Lx.digit (Lx.bt s[j])=false:=by rw[HC.out.2.2.1];simp;omega
      have kp:decide (Lx.bt s[j]=37)=false:=by rw[HC.out.2.2.2];simp;omega
      have ki:Lx.inB s[j]=false:=Lx.cls_in (by rw[ks,kc,kd,kp];rfl);cases bb with
      | false =>
       have HQ2:Hid _:=Lx.ren_step (T':=T++s.extract j (j+1)) hlt HQ.out (Lx.ins_no ks kc) ki (Lx.ext_b1 hlt);have hT2:(T++s.extract j (j+1)).size<=2*(j+1):=by rw[Lx.ext_size1 hlt];omega
       clear HQ ks kc kd kp ki HC;go_wp2_with fail;go_roundg (s.size - (j+1))
       case measure=>omega
       case rel=>exact⟨j+1,_,_,by omega,rfl,rfl,by go_num,rfl,hT2,HQ2.out⟩
      | true =>
       have HQ2:Hid _:=Lx.ren_step (T':=T++s.extract j (j+1)) hlt HQ.out (Lx.ins_true _) ki (Lx.ext_b1 hlt);have hT2:(T++s.extract j (j+1)).size<=2*(j+1):=by rw[Lx.ext_size1 hlt];omega
       clear HQ ks kc kd kp ki HC;go_wp2_with fail;go_roundg (s.size - (j+1))
       case measure=>omega
       case rel=>exact⟨j+1,_,_,by omega,rfl,rfl,by go_num,rfl,hT2,HQ2.out⟩
     ·by_cases hD:(65:Int)<=(s[j].toNat:Int)
      ·have f1:¬ (97:Int)<=(s[j].toNat:Int):=by omega
       have f3:(65:Int)<=(s[j].toNat:Int):=by omega
       have f4:(s[j].toNat:Int)<=90:=by omega
       have f7:¬ (s[j].toNat:Int)=37:=by omega
       have f7b:((s[j].toNat:Int) == 37)=false:=beq_eq_false_iff_ne.2 f7;have ks:Lx.small (Lx.bt s[j])=false:=by rw[HC.out.1];simp;omega
       have kc:Lx.capital (Lx.bt s[j])=true:=by rw[HC.out.2.1];simp;omega
       have kd:Lx.digit (Lx.bt s[j])=false:=by rw[HC.out.2.2.1];simp;omega
       have kp:decide (Lx.bt s[j]=37)=false:=by rw[HC.out.2.2.2];simp;omega
       have ki:Lx.inB s[j]=true:=Lx.cls_in (by rw[ks,kc,kd,kp];rfl);cases bb with
       | false =>
        have HQ2:Hid _:=Lx.ren_step (T':=T++⟨#[90]⟩++s.extract j (j+1)) hlt HQ.out (Lx.ins_cap ki ks kc) ki (Lx.ext_b hlt rfl);have hT2:(T++⟨#[90]⟩++s.extract j (j+1)).size<=2*(j+1):=by rw[Lx.ext_size hlt];show _+1+1<=_;omega
        clear HQ ks kc kd kp ki HC;go_wp2_with fail;go_roundg (s.size - (j+1))
        case measure=>omega
        case rel=>exact⟨j+1,_,_,by omega,rfl,rfl,by go_num,rfl,hT2,HQ2.out⟩
       | true =>
        have HQ2:Hid _:=Lx.ren_step (T':=T++s.extract j (j+1)) hlt HQ.out (Lx.ins_true _) ki (Lx.ext_b1 hlt);have hT2:(T++s.extract j (j+1)).size<=2*(j+1):=by rw[Lx.ext_size1 hlt];omega
        clear HQ ks kc kd kp ki HC;go_wp2_with fail;go_roundg (s.size - (j+1))
        case measure=>omega
        case rel=>exact⟨j+1,_,_,by omega,rfl,rfl,by go_num,rfl,hT2,HQ2.out⟩
      ·by_cases hE:(58:Int)<=(s[j].toNat:Int)
       ·have f1:¬ (97:Int)<=(s[j].toNat:Int):=by omega
        have f3:¬ (65:Int)<=(s[j].toNat:Int):=by omega
        have f5:(48:Int)<=(s[j].toNat:Int):=by omega
        have f6:¬ (s[j].toNat:Int)<=57:=by omega
        have f7:¬ (s[j].toNat:Int)=37:=by omega
        have f7b:((s[j].toNat:Int) == 37)=false:=beq_eq_false_iff_ne.2 f7;have ks:Lx.small (Lx.bt s[j])=false:=by rw[HC.out.1];simp;omega
        have kc:Lx.capital (Lx.bt s[j])=false:=by rw[HC.out.2.1];simp;omega
        have kd:Lx.digit (Lx.bt s[j])=false:=by rw[HC.out.2.2.1];simp;omega
        have kp:decide (Lx.bt s[j]=37)=false:=by rw[HC.out.2.2.2];simp;omega
        have ki:Lx.inB s[j]=false:=Lx.cls_in (by rw[ks,kc,kd,kp];rfl);cases bb with
        | false =>
         have HQ2:Hid _:=Lx.ren_step (T':=T++s.extract j (j+1)) hlt HQ.out (Lx.ins_no ks kc) ki (Lx.ext_b1 hlt);have hT2:(T++s.extract j (j+1)).size<=2*(j+1):=by rw[Lx.ext_size1 hlt];omega
         clear HQ ks kc kd kp ki HC;go_wp2_with fail;go_roundg (s.size - (j+1))
         case measure=>omega
         case rel=>exact⟨j+1,_,_,by omega,rfl,rfl,by go_num,rfl,hT2,HQ2.out⟩
        | true =>
         have HQ2:Hid _:=Lx.ren_step (T':=T++s.extract j (j+1)) hlt HQ.out (Lx.ins_true _) ki (Lx.ext_b1 hlt);have hT2:(T++s.extract j (j+1)).size<=2*(j+1):=by rw[Lx.ext_size1 hlt];omega
         clear HQ ks kc kd kp ki HC;go_wp2_with fail;go_roundg (s.size - (j+1))
         case measure=>omega
         case rel=>exact⟨j+1,_,_,by omega,rfl,rfl,by go_num,rfl,hT2,HQ2.out⟩
       ·by_cases hF:(48:Int)<=(s[j].toNat:Int)
        ·have f1:¬ (97:Int)<=(s[j].toNat:Int):=by omega
         have f3:¬ (65:Int)<=(s[j].toNat:Int):=by omega
         have f5:(48:Int)<=(s[j].toNat:Int):=by omega
         have f6:(s[j].toNat:Int)<=57:=by omega
         have f7:¬ (s[j].toNat:Int)=37:=by omega
         have f7b:((s[j].toNat:Int) == 37)=false:=beq_eq_false_iff_ne.2 f7;have ks:Lx.small (Lx.bt s[j])=false:=by rw[HC.out.1];simp;omega
         have kc:Lx.capital (Lx.bt s[j])=false:=by rw[HC.out.2.1];simp;omega
         have kd:Lx.digit (Lx.bt s[j])=true:=by rw[HC.out.2.2.1];simp;omega
         have kp:decide (Lx.bt s[j]=37)=false:=by rw[HC.out.2.2.2];simp;omega
         have ki:Lx.inB s[j]=true:=Lx.cls_in (by rw[ks,kc,kd,kp];rfl);cases bb with
         | false =>
          have HQ2:Hid _:=Lx.ren_step (T':=T++s.extract j (j+1)) hlt HQ.out (Lx.ins_no ks kc) ki (Lx.ext_b1 hlt);have hT2:(T++s.extract j (j+1)).size<=2*(j+1):=by rw[Lx.ext_size1 hlt];omega
          clear HQ ks kc kd kp ki HC;go_wp2_with fail;go_roundg (s.size - (j+1))
          case measure=>omega
          case rel=>exact⟨j+1,_,_,by omega,rfl,rfl,by go_num,rfl,hT2,HQ2.out⟩
         | true =>
          have HQ2:Hid _:=Lx.ren_step (T':=T++s.extract j (j+1)) hlt HQ.out (Lx.ins_true _) ki (Lx.ext_b1 hlt);have hT2:(T++s.extract j (j+1)).size<=2*(j+1):=by rw[Lx.ext_size1 hlt];omega
          clear HQ ks kc kd kp ki HC;go_wp2_with fail;go_roundg (s.size - (j+1))
          case measure=>omega
          case rel=>exact⟨j+1,_,_,by omega,rfl,rfl,by go_num,rfl,hT2,HQ2.out⟩
        ·by_cases hG:(s[j].toNat:Int)=37
         ·have f1:¬ (97:Int)<=(s[j].toNat:Int):=by omega
          have f3:¬ (65:Int)<=(s[j].toNat:Int):=by omega
          have f5:¬ (48:Int)<=(s[j].toNat:Int):=by omega
          have f7b:((s[j].toNat:Int) == 37)=true:=by simp;omega
          have ks:Lx.small (Lx.bt s[j])=false:=by rw[HC.out.1];simp;omega
          have kc:Lx.capital (Lx.bt s[j])=false:=by rw[HC.out.2.1];simp;omega
          have kd:Lx.digit (Lx.bt s[j])=false:=by rw[HC.out.2.2.1];simp;omega
          have kp:decide (Lx.bt s[j]=37)=true:=by rw[HC.out.2.2.2];simp;omega
          have ki:Lx.inB s[j]=true:=Lx.cls_in (by rw[ks,kc,kd,kp];rfl);cases bb with
          | false =>
           have HQ2:Hid _:=Lx.ren_step (T':=T++s.extract j (j+1)) hlt HQ.out (Lx.ins_no ks kc) ki (Lx.ext_b1 hlt);have hT2:(T++s.extract j (j+1)).size<=2*(j+1):=by rw[Lx.ext_size1 hlt];omega
           clear HQ ks kc kd kp ki HC;go_wp2_with fail;go_roundg (s.size - (j+1))
           case measure=>omega
           case rel=>exact⟨j+1,_,_,by omega,rfl,rfl,by go_num,rfl,hT2,HQ2.out⟩
          | true =>
           have HQ2:Hid _:=Lx.ren_step (T':=T++s.extract j (j+1)) hlt HQ.out (Lx.ins_true _) ki (Lx.ext_b1 hlt);have hT2:(T++s.extract j (j+1)).size<=2*(j+1):=by rw[Lx.ext_size1 hlt];omega
           clear HQ ks kc kd kp ki HC;go_wp2_with fail;go_roundg (s.size - (j+1))
           case measure=>omega
           case rel=>exact⟨j+1,_,_,by omega,rfl,rfl,by go_num,rfl,hT2,HQ2.out⟩
         ·have f1:¬ (97:Int)<=(s[j].toNat:Int):=by omega
          have f3:¬ (65:Int)<=(s[j].toNat:Int):=by omega
          have f5:¬ (48:Int)<=(s[j].toNat:Int):=by omega
          have f7:¬ (s[j].toNat:Int)=37:=by omega
          have f7b:((s[j].toNat:Int) == 37)=false:=beq_eq_false_iff_ne.2 f7;have ks:Lx.small (Lx.bt s[j])=false:=by rw[HC.out.1];simp;omega
          have kc:Lx.capital (Lx.bt s[j])=false:=by rw[HC.out.2.1];simp;omega
          have kd:Lx.digit (Lx.bt s[j])=false:=by rw[HC.out.2.2.1];simp;omega
          have kp:decide (Lx.bt s[j]=37)=false:=by rw[HC.out.2.2.2];simp;omega
          have ki:Lx.inB s[j]=false:=Lx.cls_in (by rw[ks,kc,kd,kp];rfl);cases bb with
          | false =>
           have HQ2:Hid _:=Lx.ren_step (T':=T++s.extract j (j+1)) hlt HQ.out (Lx.ins_no ks kc) ki (Lx.ext_b1 hlt);have hT2:(T++s.extract j (j+1)).size<=2*(j+1):=by rw[Lx.ext_size1 hlt];omega
           clear HQ ks kc kd kp ki HC;go_wp2_with fail;go_roundg (s.size - (j+1))
           case measure=>omega
           case rel=>exact⟨j+1,_,_,by omega,rfl,rfl,by go_num,rfl,hT2,HQ2.out⟩
          | true =>
           have HQ2:Hid _:=Lx.ren_step (T':=T++s.extract j (j+1)) hlt HQ.out (Lx.ins_true _) ki (Lx.ext_b1 hlt);have hT2:(T++s.extract j (j+1)).size<=2*(j+1):=by rw[Lx.ext_size1 hlt];omega
           clear HQ ks kc kd kp ki HC;go_wp2_with fail;go_roundg (s.size - (j+1))
           case measure=>omega
           case rel=>exact⟨j+1,_,_,by omega,rfl,rfl,by go_num,rfl,hT2,HQ2.out⟩
  ·have hj:j=s.size:=by omega
   have HQ2:Hid (Lx.bytes T=Lx.renL false (Lx.bytes s)):=by
    have:=HQ.out;rw[List.drop_eq_nil_of_le (by rw[Lx.bytes_len];omega)]at this;show _=_;rw[this];cases bb <;> simp[Lx.renL]
   clear HQ;go_wp2_with fail;go_ret;exact⟨⟨T,rfl,HQ2.out⟩,rfl⟩
end
section
open Go.RowKit
open Tr
def tOne:ByteArray:=⟨#[101,32,61,32,65,32,40,66,32,65,41,42,59]⟩
def tTwo:ByteArray:=⟨#[101,32,61,32,65,63,59]⟩
def okP (r:Except (Nat × Nat) Lx.Gr):Nat × Nat × List Lx.Pd :=
 match r with
 | .ok g=>((Lx.tokG g).length,(Lx.namG g).length,Lx.prodG g)
 | .error _=>(0,0,[])
theorem one_okP:(okP (Lx.mkR tOne)).1=3/\(okP (Lx.mkR tOne)).2.2.length=4:=⟨by kernel_rfl,by kernel_rfl⟩
def pTwo:List Lx.Pd:=[⟨2,[3],-1⟩,⟨3,[4],-1⟩,⟨4,[],-1⟩,⟨4,[1],1⟩]
theorem two_okP:okP (Lx.mkR tTwo)=(2,3,pTwo):=by kernel_rfl
theorem one_ok:∃ g,Lx.mkR tOne=.ok g/\(Lx.tokG g).length=3/\(Lx.prodG g).length=4:=by
 have h:=one_okP;cases hp:Lx.mkR tOne with
 | error e=>rw[hp]at h;simp[okP]at h
 | ok g=>rw[hp]at h;exact⟨g,rfl,h.1,h.2⟩
theorem two_ok:∃ g,Lx.mkR tTwo=.ok g/\(Lx.tokG g).length=2/\(Lx.namG g).length=3/\Lx.prodG g=pTwo:=by
 have h:=two_okP;cases hp:Lx.mkR tTwo with
 | error e=>rw[hp]at h;simp[okP]at h
 | ok g =>
  rw[hp]at h;simp only[okP,Prod.mk.injEq]at h;exact⟨g,rfl,h.1,h.2.1,h.2.2⟩
theorem two_setOk:∀ g,Lx.mkR tTwo=.ok g->SetOk g:=by
 intro g hg;obtain⟨g',h1,h2,h3,h4⟩:=two_ok;rw[h1]at hg;cases hg;unfold SetOk Lx.PdOk;rw[h2,h3,h4];refine⟨by decide,by decide,by decide⟩
def eTwo:List Bool:=[false,false,true,true,true]
theorem two_E {k:Nat}{E:List Bool}(h:E=Lx.itr (Lx.passE pTwo) k (List.replicate (2+3) false))(hs:Lx.passE pTwo E=E):E=eTwo:=by
 subst h;exact (Lx.itr_same (m:=3) hs (by kernel_rfl)).trans (by kernel_rfl)
theorem two_B {m:Nat}{B:List (List Bool)}(h:B=Lx.itr (Lx.passF pTwo eTwo) m (Lx.alone 2 (2+3)))(hs:Lx.passF pTwo eTwo B=B):B.map Lx.membersL=[[0],[1],[1],[1],[1]]:=by
 subst h;rw[Lx.itr_same (m:=3) hs (by kernel_rfl)]
 kernel_rfl
theorem num_any (n:Int)(w:World):Calls Tryz.prog 12 #[.int .i64 n] w fun e w'=>e=.returned (.int .i64 n)/\w'=w:=by
 go_enter Tryz.func12,Tryz.ntmps12;go_wp2_with fail;go_ret;exact⟨rfl,rfl⟩
theorem alive_any (w:World)(ht:Tab w):Calls Tryz.prog 13 #[] w fun e w'=>e=.returned (.bool true)/\Below w.heap.size w w':=by
 have P1:=make_any tOne w (by decide) ht;go_enter Tryz.func13,Tryz.ntmps13;go_wp2_with fail;refine P1.mono ?_;rintro e w1 ⟨v,n,a,rfl,hb1,hok,-⟩;clear P1;obtain⟨g,hg,hgT,hgP⟩:=one_ok;obtain⟨rfl,rfl,hP⟩:=hok g hg;clear hok hg;obtain⟨vT,vN,vP,vB,vK,rfl,hT,hN,⟨ps,p1,p2,-⟩,hB,hK⟩:=hP;obtain⟨ta,tc,rfl,-⟩:=own_len hT;obtain⟨na,nc,rfl,-⟩:=own_len hN;obtain⟨pa,pc,rfl,-⟩:=own_len p2;obtain⟨ba,bc,rfl,-⟩:=own_len hB;obtain⟨ka,kc,rfl,-⟩:=own_len hK;rw[hgT,hgP];clear hT hN hB hK p1 p2 hgT hgP;generalize (Lx.namG g).length=nN;generalize ((Lx.tokG g).map fun t=>(Lx.bkOf g t).1).length=nB;generalize ((Lx.tokG g).map fun t=>(Lx.bkOf g t).2).length=nK;obtain⟨W,hW⟩:∃ W,W=w1.alloc (.cells #[.slice ta 3 tc,.slice na nN nc,.slice pa 4 pc,.slice ba nB bc,.slice ka nK kc] 26):=⟨_,rfl⟩;have kW:Blk W w1.heap.size #[.slice ta 3 tc,.slice na nN nc,.slice pa 4 pc,.slice ba nB bc,.slice ka nK kc] 26:=by rw[hW];exact blk5 _ _ _ _ _ _
 have hbW:Below w.heap.size w W:=by rw[hW];exact hb1.alloc hb1.size _
 have P2:=sets_any tTwo W (by decide) (ht.move (hbW.block _ ht.lt)) two_setOk;go_wp2_with fail;rw[<-hW];clear hW;refine P2.mono ?_;rintro e w2 ⟨hb2,-,hok⟩;clear P2;obtain⟨g2,h1,h2,h3,h4⟩:=two_ok;have hS:=hok g2 h1;clear hok h1;rw[h2,h3,h4]at hS;clear h2 h3 h4;obtain⟨gE,E,k,vF,B,m,rfl,kE,hgE,-,hE,hEs,hB,hBs,hpt⟩:=hS;obtain rfl:=two_E hE hEs;rw[two_B hB hBs]at hpt;obtain⟨gF,cF,u,rfl,-,lF,cu,ou⟩:=hpt.pt.at (j:=2) (by decide);obtain⟨ua,uc,rfl,-⟩:=own_len ou;have cE:w2.cell? ⟨gE,2,none⟩=some (.bool true):=kE.cell 2;have kW2:Blk w2 w1.heap.size _ 26:=(hb2.block _ kW.lt).trans kW;have c0:w2.cell? ⟨w1.heap.size,0,none⟩=some (.slice ta 3 tc):=kW2.cell 0;have c2:w2.cell? ⟨w1.heap.size,2,none⟩=some (.slice pa 4 pc):=kW2.cell 2;have hbf:Below w.heap.size w w2:=hbW.trans (hb2.mono hbW.size);have cu':w2.cell? ⟨gF,2,none⟩=some (.slice ua 1 uc):=cu;clear cu ou hpt hE hEs hB hBs kE kW kW2 hbW hb1 hb2
 go_wp2_with (go_at_call 12;refine (num_any _ _).mono ?_;rintro e w' ⟨rfl,hw'⟩;obtain rfl:=hw'.symm)
 go_ret;exact⟨rfl,hbf⟩
end
section
open Go.RowKit
open Tr
end
end Go.Proofs.YtlcppnabbicmoaaGreatDoor
