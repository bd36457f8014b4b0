/- Texts as one: FilQ, IntB, FilK, FilA, RWds, FilB, RowO, FilJ, FilD. -/
import Derived.Test.YthjapabokcajhaaGreatDoorPf00
import Derived.Test.YthjapabokcajhaaGreatDoorPf05
import Derived.Deep.OwnRows
import Derived.Deep.AppendLies
import Derived.OwnWalk
import Derived.Lib.SmallJoins
namespace Go.Proofs.YthjapabokcajhaaGreatDoor
open Go
theorem j8m{s:ByteArray}{k:Nat}(h:k<s.size):s[k]∈s.data.toList:=by
 have hl:k<s.data.toList.length:=by rw[<-Lib.size_eq];exact h
 exact List.getElem_mem hl
theorem z8v{s:ByteArray}(h1:1<=s.size)(h2:s.size<=20)(h:∀k(h:k<s.size),q3y s[k]=true):okW s=true:=by
 simp only[okW,h1,h2,decide_true,Bool.true_and,List.all_eq_true];intro b hb;obtain⟨i,hi,rfl⟩:=List.getElem_of_mem hb;exact h i (by rw[Lib.size_eq];exact hi)
theorem k6h{s:ByteArray}{k:Nat}(h:k<s.size)(hb:q3y s[k]=false):okW s=false:=by
 cases e:okW s with
 | false=>rfl
 | true=>
  simp only[okW,Bool.and_eq_true,List.all_eq_true]at e
  have:=e.2 s[k] (j8m h)
  rw[hb]at this;cases this
theorem z0a{b:UInt8}(h:q3y b=false):(b.toNat:Int)<33\/(¬(b.toNat:Int)<33/\126<(b.toNat:Int)):=by
 simp[q3y]at h;omega
theorem z1o{b:UInt8}(h:q3y b=true):¬(b.toNat:Int)<33/\¬126<(b.toNat:Int):=by
 simp[q3y]at h;omega
theorem q4o{ws:List ByteArray}(h:60<ws.length):q0t ws=3:=by rw[q0t,if_pos h]
theorem z1q{ws:List ByteArray}{k:Nat}(hl:ws.length<=60)(hk:k<ws.length)(h:okW ws[k]=false):q0t ws=5:=by
 rw[q0t,if_neg (by omega),if_neg];intro e
 have:=List.all_eq_true.1 e ws[k] (List.getElem_mem hk)
 rw[h]at this;cases this
theorem z1p{ws:List ByteArray}(hl:ws.length<=60)(h:∀j(h:j<ws.length),okW ws[j]=true):q0t ws=0:=by
 rw[q0t,if_neg (by omega),if_pos];rw[List.all_eq_true];intro x hx;obtain⟨j,hj,rfl⟩:=List.getElem_of_mem hx;exact h j hj
end Go.Proofs.YthjapabokcajhaaGreatDoor
namespace Go.Proofs.YthjapabokcajhaaGreatDoor
open Go Go.RowKit
def q1w(B:Nat)(w:World)(a:Option Addr)(ws:List Int):Prop:=
 ∀i(h:i<ws.length),∃b o,a=some ⟨b,o,none⟩/\b<B/\w.cell? ⟨b,o+i,none⟩=some (.int .i64 ws[i])
theorem q1w.below{B:Nat}{w w':World}{a:Option Addr}{ws:List Int}(h:q1w B w a ws)(hb:Below B w w'):q1w B w' a ws:=by
 intro i hi;obtain⟨b,o,e,hlt,c1⟩:=h i hi;exact⟨b,o,e,hlt,(hb.cell (p:=⟨b,_,none⟩) hlt).trans c1⟩
theorem q1w.rest{B:Nat}{w:World}{b o:Nat}{x:Int}{ws:List Int}(h:q1w B w (some ⟨b,o,none⟩) (x::ws)):q1w B w (some ⟨b,o+1,none⟩) ws:=by
 intro i hi;obtain⟨b',o',e,hlt,c1⟩:=h (i+1) (by simp;omega);simp only[Option.some.injEq,Addr.mk.injEq,and_true]at e;obtain⟨rfl,rfl⟩:=e;refine⟨b,o+1,rfl,hlt,?_⟩;rw[show o+1+i=o+(i+1) by omega];exact c1
theorem q1w.slid{B:Nat}{w:World}{b o cap:Nat}{x:Int}{ws:List Int}(h:q1w B w (some ⟨b,o,none⟩) (x::ws))(hc:ws.length+1<=cap):
  q1w B w (if cap=1 then some ⟨b,o,none⟩else some ⟨b,o+1,none⟩) ws:=by
 by_cases h1:cap=1
 ·have:ws=[]:=List.eq_nil_of_length_eq_zero (by omega)
  subst this;exact fun i hi=>by simp at hi
 ·rw[if_neg h1];exact h.rest
abbrev q8j(w:World)(a:Option Addr)(ws:List Int):Prop:=q1w w.heap.size w a ws
theorem q1w.up{B B':Nat}{w:World}{a:Option Addr}{ws:List Int}(h:q1w B w a ws)(hB:B<=B'):q1w B' w a ws:=by
 intro i hi;obtain⟨b,o,e,hlt,c1⟩:=h i hi;exact⟨b,o,e,by omega,c1⟩
theorem q8j.below{w w':World}{a:Option Addr}{ws:List Int}(h:q8j w a ws)(hb:Below w.heap.size w w'):q8j w' a ws:=(q1w.below h hb).up hb.size
end Go.Proofs.YthjapabokcajhaaGreatDoor
namespace Go.Proofs.YthjapabokcajhaaGreatDoor
open Go Go.RowKit
set_option maxRecDepth 100000
set_option maxHeartbeats 1000000
theorem z0e(s:ByteArray)(w:World):Calls Tryz.prog 152 #[.string s] w fun e w'=>e=.returned (.bool (okW s))/\w=w':=by
 by_cases h1:(s.size:Int)<1
 ·have e:okW s=false:=by simp[okW];omega
  rw[e];clear e;go_in;go_wp2;go_ret;exact⟨rfl,rfl⟩
 by_cases h2:20<(s.size:Int)
 ·have e:okW s=false:=by simp[okW];omega
  rw[e];clear e;go_in;go_wp2;go_ret;exact⟨rfl,rfl⟩
 go_in;go_wp2
 go_loopw [14] (fun i wr=>wr=w/\∃k:Nat,k<=s.size/\i=.int .i64 k/\∀j(h:j<s.size),j<k->q3y s[j]=true) (fun i _=>s.size-(intOf i).toNat)
 case atStart=>exact⟨rfl,0,Nat.zero_le _,rfl,fun j _ hj=>by omega⟩
 case round=>
  obtain⟨rfl,k,hk,rfl,hall⟩:=hrel;have HA:Hid (∀j(h:j<s.size),j<k->q3y s[j]=true):=hall;clear hall;by_cases hlt:k<s.size
  ·cases hb:q3y s[k]with
   | false=>
    have HE:Hid (okW s=false):=k6h hlt hb;have hc:=z0a hb;clear hb;rcases hc with hc|⟨hc,hd⟩
    ·go_wp2;go_ret;exact⟨by rw[HE.out];rfl,rfl⟩
    ·go_wp2;go_ret;exact⟨by rw[HE.out];rfl,rfl⟩
   | true=>
    have HB:Hid (q3y s[k]=true):=hb;obtain⟨hc,hd⟩:=z1o hb;clear hb;go_wp2
    go_roundw
    case rel=>
     refine⟨by trivial,k+1,by omega,by go_num,?_⟩;intro j h hj;by_cases hjk:j=k
     ·subst hjk;exact HB.out
     ·exact HA.out j h (by omega)
    case measure=>simp[intOf];omega
  ·have HE:Hid (okW s=true):=z8v (by omega) (by omega) fun j h=>HA.out j h (by omega)
   go_wp2;go_ret;exact⟨by rw[HE.out];rfl,rfl⟩
theorem q3z(ws:List ByteArray)(a:Option Addr)(cap:Nat)(w:World)(hW:Wds w a ws):
  Calls Tryz.prog 97 #[.slice a ws.length cap] w fun e w'=>e=.returned (q1p (q0t ws))/\w=w':=by
 have HW:Hid (Wds w a ws):=hW;clear hW;by_cases h1:60<(ws.length:Int)
 ·have HE:Hid (q0t ws=3):=q4o (by omega);go_in;go_wp2;go_ret;exact⟨by rw[HE.out];rfl,rfl⟩
 go_in;go_wp2
 go_loopw [11] (fun i wr=>wr=w/\∃k:Nat,k<=ws.length/\i=.int .i64 k/\∀j(h:j<ws.length),j<k->okW ws[j]=true) (fun i _=>ws.length-(intOf i).toNat)
 case atStart=>exact⟨rfl,0,Nat.zero_le _,rfl,fun j _ hj=>by omega⟩
 case round=>
  obtain⟨rfl,k,hk,rfl,hall⟩:=hrel;have HA:Hid (∀j(h:j<ws.length),j<k->okW ws[j]=true):=hall;clear hall;by_cases hlt:k<ws.length
  ·obtain⟨b0,o0,ea,hb0,c0⟩:=HW.out k hlt;subst ea;cases hb:okW ws[k]with
   | false=>
    have HE:Hid (q0t ws=5):=z1q (by omega) hlt hb;have HB:Hid (okW ws[k]=false):=hb;generalize ws[k]=x at c0 HB;clear hb;go_wp2_with fail;refine(z0e _ _).mono ?_;rintro e w2⟨rfl,rfl⟩;rw[HB.out];go_wp2;go_ret;exact⟨by rw[HE.out];rfl,rfl⟩
   | true=>
    have HB:Hid (okW ws[k]=true):=hb
    have HA':Hid (∀j(h:j<ws.length),j<k+1->okW ws[j]=true):=fun j h hj=>by
     by_cases hjk:j=k
     ·subst hjk;exact hb
     ·exact HA.out j h (by omega)
    generalize ws[k]=x at c0 HB;clear hb;go_wp2_with fail;refine(z0e _ _).mono ?_;rintro e w2⟨rfl,rfl⟩;rw[HB.out];go_wp2
    go_roundw
    case rel=>exact⟨by trivial,k+1,by omega,by go_num,HA'.out⟩
    case measure=>simp[intOf];omega
  ·have HE:Hid (q0t ws=0):=z1p (by omega) fun j h=>HA.out j h (by omega)
   go_wp2;go_ret;exact⟨by rw[HE.out];rfl,rfl⟩
end Go.Proofs.YthjapabokcajhaaGreatDoor
namespace Go.Proofs.YthjapabokcajhaaGreatDoor
open Go Go.RowKit
set_option maxRecDepth 100000
set_option maxHeartbeats 1000000
theorem k8k(ws:List ByteArray)(a:Option Addr)(cap:Nat)(wd:Int)(w:World)(hW:Wds w a ws):
  Calls Tryz.prog 104 #[.slice a ws.length cap,.int .i64 wd] w fun e w'=>e=.returned (q1p (q4c ws wd))/\w=w':=by
 have HW:Hid (Wds w a ws):=hW;clear hW;by_cases h0:q0t ws=0
 ·have H0:Hid (q0t ws=0):=h0;clear h0;by_cases h1:wd<1
  ·have HE:Hid (q4c ws wd=1):=by
    show q4c ws wd=1;rw[q4c,if_neg (by rw[H0.out];simp),if_pos (.inl h1)]
   go_in;go_wp2_with fail;refine(q3z ws a cap _ HW.out).mono ?_;rintro e w2⟨rfl,rfl⟩;rw[H0.out,q0u];go_wp2;go_ret;exact⟨by rw[HE.out];rfl,rfl⟩
  by_cases h2:100<wd
  ·have HE:Hid (q4c ws wd=1):=by
    show q4c ws wd=1;rw[q4c,if_neg (by rw[H0.out];simp),if_pos (.inr h2)]
   go_in;go_wp2_with fail;refine(q3z ws a cap _ HW.out).mono ?_;rintro e w2⟨rfl,rfl⟩;rw[H0.out,q0u];go_wp2;go_ret;exact⟨by rw[HE.out];rfl,rfl⟩
  ·have HE:Hid (q4c ws wd=0):=by
    show q4c ws wd=0;rw[q4c,if_neg (by rw[H0.out];simp),if_neg (by omega)]
   go_in;go_wp2_with fail;refine(q3z ws a cap _ HW.out).mono ?_;rintro e w2⟨rfl,rfl⟩;rw[H0.out,q0u];go_wp2;go_ret;exact⟨by rw[HE.out];rfl,rfl⟩
 ·have HE:Hid (q4c ws wd=q0t ws):=by
   show q4c ws wd=q0t ws;rw[q4c,if_pos h0]
  have HN:Hid (q1p (q0t ws)=.iface 23 (.int .i64 (q0t ws))):=q0o h0;clear h0;go_in;go_wp2_with fail;refine(q3z ws a cap _ HW.out).mono ?_;rintro e w2⟨rfl,rfl⟩;rw[HN.out];go_wp2;go_ret;exact⟨by rw[HE.out,HN.out];rfl,rfl⟩
theorem k8j(ws:List ByteArray)(a:Option Addr)(cap:Nat)(w:World)(h0:ws≠[])(hF:Few ws)(hW:Wds w a ws):
  Calls Tryz.prog 158 #[.slice a ws.length cap] w fun e w'=>e=.returned (.int .i64 (ln ws))/\w=w':=by
 have HW:Hid (Wds w a ws):=hW;have hp:0<ws.length:=List.length_pos_iff.2 h0;have hl:=hF.1
 have HE:Hid ((ln ws:Int)=(ws.length:Int)-1+tot ws):=by
  show(ln ws:Int)=_
  simp only[ln];omega
 have HF:Hid (Few ws):=hF;clear hW hF h0;go_in;go_wp2
 go_loopw [3,11] (fun s i wr=>wr=w/\∃k:Nat,k<=ws.length/\i=.int .i64 k/\s=.int .i64 ((ws.length:Int)-1+tot (ws.take k))) (fun _ i _=>ws.length-(intOf i).toNat)
 case atStart=>exact⟨rfl,0,Nat.zero_le _,rfl,by simp[tot]⟩
 case round=>
  obtain⟨rfl,k,hk,rfl,rfl⟩:=hrel;by_cases hlt:k<ws.length
  ·obtain⟨b0,o0,ea,hb0,c0⟩:=HW.out k hlt;subst ea;have HS:Hid (tot (ws.take (k+1))=tot (ws.take k)+ws[k].size):=j1v hlt;have ht:=(HF.out.take k).tot;have hx:=HF.out.2 _ (List.getElem_mem hlt);generalize ws[k]=x at c0 HS hx;generalize tot (ws.take k)=t0 at HS ht;go_wp2
   go_roundw
   case rel=>exact⟨by trivial,k+1,by omega,by go_num,by rw[HS.out];go_num⟩
   case measure=>simp[intOf];omega
  ·have hke:k=ws.length:=by omega
   subst hke;have HT:Hid (tot (ws.take ws.length)=tot ws):=by show _=_;rw[List.take_length]
   go_wp2;go_ret;exact⟨by rw[HE.out,<-HT.out];rfl,rfl⟩
theorem j4l{n wd:Nat}{last:Bool}(h:wd<n):(bd n wd last:Int)=1000*((n:Int)-wd):=by
 rw[bd,if_pos h];omega
theorem j4k{n wd:Nat}(h:¬wd<n):bd n wd true=0:=by rw[bd,if_neg h];rfl
theorem k8t{n wd:Nat}(h:¬wd<n):(bd n wd false:Int)=((wd:Int)-n)*((wd:Int)-n):=by
 rw[bd,if_neg h];simp only[Bool.false_eq_true,if_false];rw[Int.natCast_mul]
 congr 1<;>omega
theorem j2e(n wd:Nat)(last:Bool)(w:World)(hn:n<=1260)(hw:wd<=100):
  Calls Tryz.prog 157 #[.int .i64 n,.int .i64 wd,.bool last] w fun e w'=>e=.returned (.int .i64 (bd n wd last))/\w=w':=by
 by_cases h:wd<n
 ·have HE:Hid ((bd n wd last:Int)=1000*((n:Int)-wd)):=j4l h;have h':(wd:Int)-n<0:=by omega
  clear h;go_in;go_wp2;go_ret;exact⟨by rw[HE.out];go_num,rfl⟩
 ·cases last with
  | true=>
   have HE:Hid (bd n wd true=0):=j4k h;have h':¬(wd:Int)-n<0:=by omega
   clear h;go_in;go_wp2;go_ret;exact⟨by rw[HE.out];rfl,rfl⟩
  | false=>
   have HE:Hid ((bd n wd false:Int)=((wd:Int)-n)*((wd:Int)-n)):=k8t h;have h':¬(wd:Int)-n<0:=by omega
   obtain⟨m,hm⟩:∃m:Int,m=(wd:Int)-n:=⟨_,rfl⟩;have h1:IntKind.i64.wrap ((wd:Int)-n)=(wd:Int)-n:=by rw[IntKind.wrap_i64];omega
   have h2:IntKind.i64.wrap (((wd:Int)-n)*((wd:Int)-n))=((wd:Int)-n)*((wd:Int)-n):=by
    have a1:0<=((wd:Int)-n)*((wd:Int)-n):=Int.mul_nonneg (by omega) (by omega);have a2:((wd:Int)-n)*((wd:Int)-n)<=100*100:=Int.mul_le_mul (by omega) (by omega) (by omega) (by omega);rw[IntKind.wrap_i64];omega
   clear h hm;go_in;go_wp2;go_ret;exact⟨by rw[HE.out];rfl,rfl⟩
end Go.Proofs.YthjapabokcajhaaGreatDoor
namespace Go.Proofs.YthjapabokcajhaaGreatDoor
open Go Go.RowKit
set_option maxRecDepth 100000
set_option maxHeartbeats 2000000
theorem z1i(ws:List ByteArray)(a:Option Addr)(cap:Nat)(w:World)(hW:Wds w a ws):
  Calls Tryz.prog 21 #[.slice a ws.length cap] w fun e w'=>e=.returned (.int .i64 (q0t ws))/\w=w':=by
 have HW:Hid (Wds w a ws):=hW;clear hW;by_cases h1:60<(ws.length:Int)
 ·have HE:Hid (q0t ws=3):=q4o (by omega);go_in;go_wp2;go_ret;exact⟨by rw[HE.out];rfl,rfl⟩
 go_in;go_wp2
 go_loopw [3] (fun i wr=>wr=w/\∃k:Nat,k<=ws.length/\i=.int .i64 k/\∀j(h:j<ws.length),j<k->okW ws[j]=true) (fun i _=>ws.length-(intOf i).toNat)
 case atStart=>exact⟨rfl,0,Nat.zero_le _,rfl,fun j _ hj=>by omega⟩
 case round=>
  obtain⟨rfl,k,hk,rfl,hall⟩:=hrel;have HA:Hid (∀j(h:j<ws.length),j<k->okW ws[j]=true):=hall;clear hall;by_cases hlt:k<ws.length
  ·obtain⟨b0,o0,ea,hb0,c0⟩:=HW.out k hlt;subst ea;have hki:(k:Int)<(ws.length:Int):=by omega
   have HOK:Hid (okW ws[k]=true->∀j(h:j<ws.length),j<k+1->okW ws[j]=true):=fun hb j h hj=>by
    by_cases hjk:j=k
    ·subst hjk;exact hb
    ·exact HA.out j h (by omega)
   have HNO:Hid (okW ws[k]=false->q0t ws=5):=fun hb=>z1q (by omega) hlt hb
   generalize ws[k]=s at c0 HOK HNO;by_cases g1:(s.size:Int)<1
   ·have HE:Hid (q0t ws=5):=HNO.out (by simp[okW];omega);go_wp2;go_ret;exact⟨by rw[HE.out];rfl,rfl⟩
   by_cases g2:20<(s.size:Int)
   ·have HE:Hid (q0t ws=5):=HNO.out (by simp[okW];omega);go_wp2;go_ret;exact⟨by rw[HE.out];rfl,rfl⟩
   go_wp2
   go_loopw [4] (fun i wx=>wx=wr/\∃m:Nat,m<=s.size/\i=.int .i64 m/\∀j(h:j<s.size),j<m->q3y s[j]=true) (fun i _=>s.size-(intOf i).toNat)
   case atStart=>exact⟨rfl,0,Nat.zero_le _,rfl,fun j _ hj=>by omega⟩
   case round=>
    obtain⟨rfl,m,hm,rfl,hall2⟩:=hrel;have HA2:Hid (∀j(h:j<s.size),j<m->q3y s[j]=true):=hall2;clear hall2;by_cases hlt2:m<s.size
    ·have hmi:(m:Int)<(s.size:Int):=by omega
     cases hb:q3y s[m]with
     | false=>
      have HE:Hid (q0t ws=5):=HNO.out (k6h hlt2 hb);have hc:=z0a hb;clear hb;rcases hc with hc|⟨hc,hd⟩
      ·go_wp2;go_ret;exact⟨by rw[HE.out];rfl,rfl⟩
      ·go_wp2;go_ret;exact⟨by rw[HE.out];rfl,rfl⟩
     | true=>
      have HB:Hid (q3y s[m]=true):=hb;obtain⟨hc,hd⟩:=z1o hb;clear hb;go_wp2
      go_roundw
      case rel=>
       refine⟨by trivial,m+1,by omega,by go_num,?_⟩;intro j h hj;by_cases hjk:j=m
       ·subst hjk;exact HB.out
       ·exact HA2.out j h (by omega)
      case measure=>simp[intOf];omega
    ·have HE:Hid (∀j(h:j<ws.length),j<k+1->okW ws[j]=true):=HOK.out (z8v (by omega) (by omega) fun j h=>HA2.out j h (by omega));go_wp2
     go_roundw
     case rel=>exact⟨by trivial,k+1,by omega,by go_num,HE.out⟩
     case measure=>simp[intOf];omega
  ·have HE:Hid (q0t ws=0):=z1p (by omega) fun j h=>HA.out j h (by omega)
   go_wp2;go_ret;exact⟨by rw[HE.out];rfl,rfl⟩
end Go.Proofs.YthjapabokcajhaaGreatDoor
namespace Go.Proofs.YthjapabokcajhaaGreatDoor
open Go Go.RowKit
set_option maxRecDepth 100000
theorem j7q(a:Option Addr)(n c k:Nat)(hk:k<=c)(W:World):
  (Instr.slice 58 (.slice a n c) none (some (.int .i64 (k:Int))) none).run Tryz.prog W=.ok (.slice a k c) W:=by
 rw[run_slice_h W 58 a n c Tryz.underlying58 .i64 (k:Int) (by omega) (by omega)];have hz:(sizeOf (Tryz.prog.elem 58)).run Tryz.prog W=.ok 1 W:=by kernel_rfl
 rw[hz];simp[Result.andThen,sliced,Addr.add]
theorem j7r{B:Nat}{w:World}{b o c k:Nat}{ws:List ByteArray}(h:z0h B w (some ⟨b,o,none⟩) ws)(hk:k<=ws.length)(hc:ws.length<=c):
  ∃A,(∀W:World,(Instr.slice 58 (.slice (some ⟨b,o,none⟩) ws.length c) (some (.int .i64 (k:Int))) none none).run Tryz.prog W=.ok (.slice A (ws.drop k).length (c-k)) W)/\z0h B w A (ws.drop k):=by
 refine⟨if c=k then some ⟨b,o,none⟩else some ⟨b,o+k,none⟩,fun W=>?_,?_⟩
 ·rw[run_slice_l W 58 _ ws.length c Tryz.underlying58 .i64 (k:Int) (by omega) (by omega)];have hz:(sizeOf (Tryz.prog.elem 58)).run Tryz.prog W=.ok 1 W:=by kernel_rfl
  rw[hz]
  have ha:(⟨b,o,none⟩:Addr).add k=⟨b,o+k,none⟩:=by
   unfold Addr.add
   split
   ·rename_i h;subst h;rfl
   ·rfl
  simp[Result.andThen,sliced,ha]
 ·by_cases e:c=k
  ·have:ws.drop k=[]:=List.drop_eq_nil_of_le (by omega)
   rw[this];exact z0h.nil _ _ _
  ·rw[if_neg e];exact h.drop k
theorem v0f(b o n c i k:Nat)(hi:i<c)(hk:i+k<=c)(W:World):
  (Instr.slice 58 (.slice (some ⟨b,o,none⟩) n c) (some (.int .i64 (i:Int))) (some (.int .i64 ((i:Int)+(k:Int)))) none).run Tryz.prog W=.ok (.slice (some ⟨b,o+i,none⟩) k (c-i)) W:=by
 rw[run_slice_lh W 58 _ n c Tryz.underlying58 .i64 .i64 (i:Int) ((i:Int)+(k:Int)) (by omega) (by omega) (by omega)];have hz:(sizeOf (Tryz.prog.elem 58)).run Tryz.prog W=.ok 1 W:=by kernel_rfl
 rw[hz]
 have ha:(⟨b,o,none⟩:Addr).add i=⟨b,o+i,none⟩:=by
  unfold Addr.add
  split
  ·rename_i h;subst h;rfl
  ·rfl
 have e1:((i:Int)+(k:Int)).toNat=i+k:=by omega
 have e2:¬c=i:=by omega
 have e3:i+k-i=k:=by omega
 simp[Result.andThen,sliced,ha,e1,e2,e3]
theorem k4c:(Tryz.prog.info? 3).map (fun i=>(i.zero,i.size,i.bytes))=some (some (.int .i64 0),1,8):=by kernel_rfl
theorem z9i:(Tryz.prog.info? 9).map (fun i=>(i.zero,i.size,i.bytes))=some (some (.string ⟨#[]⟩),1,16):=by kernel_rfl
def z7o(w:World)(b n:Nat):Prop:=∃cs T,w.heap[b]?=some (.cells cs T (0,0))/\cs.size=n
theorem z7o.lt{w:World}{b n:Nat}(h:z7o w b n):b<w.heap.size:=by
 obtain⟨cs,T,h,_⟩:=h;rcases Nat.lt_or_ge b w.heap.size with h'|h'
 ·exact h'
 ·simp[Array.getElem?_eq_none h']at h
theorem z7o.cell{w:World}{b n i:Nat}(h:z7o w b n)(hi:i<n):∃y,w.cell? ⟨b,i,none⟩=some y:=by
 obtain⟨cs,T,h,hs⟩:=h;refine⟨cs[i],?_⟩;simp[World.cell?,h]
theorem z7o.frozen{w:World}{b n i:Nat}(h:z7o w b n):w.frozen? ⟨b,i,none⟩=false:=by
 obtain⟨cs,T,h,hs⟩:=h;simp[World.frozen?,h]
theorem z7o.kept{w w':World}{b n:Nat}(h:z7o w b n)(hb:w'.heap[b]?=w.heap[b]?):z7o w' b n:=by
 obtain⟨cs,T,h,hs⟩:=h;exact⟨cs,T,hb.trans h,hs⟩
theorem z7o.set{w:World}{b n c i:Nat}{v:Value}(h:z7o w b n):z7o (w.setCell ⟨c,i,none⟩ v) b n:=by
 by_cases e:c=b
 ·subst e;obtain⟨cs,T,h,hs⟩:=h;exact⟨cs.setIfInBounds i v,T,by simp[World.setCell,Array.getElem?_modify,h],by simpa using hs⟩
 ·exact h.kept (Below.heap_setCell _ _ _ _ (Ne.symm e))
theorem k4x{n j:Nat}(z:Value)(h:j<n):(madeCells #[z] n)[j]?=some z:=by
 simp[madeCells,h,Nat.mod_one]
def q4e(ks:List Nat):List Value:=ks.map fun(k:Nat)=>.int .i64 (k:Int)
theorem z4y(a b:List Nat):q4e (a++b)=q4e a++q4e b:=by simp[q4e]
def z9p(B:Nat)(v:Value)(ks:List Nat)(w:World):Prop:=w.ownsRow B 3 1 v ks.length (q4e ks)
theorem q2u{B:Nat}{w w':World}(h:Below B w w')(n:Nat):Below B w (w'.drewN n):=h.trans ⟨rfl,rfl,rfl,Nat.le_refl _,fun _ _=>rfl⟩
theorem k1x{B:Nat}{w w':World}{b1 o1 b2 o2:Nat}{v1 v2:Value}(h:Below B w w')(h1:B<=b1)(h2:B<=b2):Below B w ((w'.setCell ⟨b1,o1,none⟩ v1).setCell ⟨b2,o2,none⟩ v2):=
 (h.setCell (p:=⟨b1,o1,none⟩) h1 _).setCell (p:=⟨b2,o2,none⟩) h2 _
theorem k0s{B:Nat}{w:World}{A:Option Addr}{n c:Nat}{ks:List Nat}(h:z9p B (.slice A n c) ks w)(j:Nat)(hj:j<ks.length):∃g,A=some ⟨g,0,none⟩/\g<w.heap.size/\w.cell? ⟨g,j,none⟩=some (.int .i64 ((ks[j]:Nat):Int)):=by
 rcases h.2 with⟨hv,h0⟩|⟨g,c,cur,hv,_,hg,hnc,_,hsz,htake⟩
 ·omega
 ·simp only[Value.slice.injEq]at hv;obtain⟨rfl,rfl,rfl⟩:=hv;refine⟨g,rfl,(Array.getElem?_eq_some_iff.1 hg).1,?_⟩;have hk:(q4e ks)[j]?=some (.int .i64 ((ks[j]:Nat):Int)):=by simp[q4e,hj]
  rw[<-htake]at hk;rw[List.getElem?_take_of_lt (by omega)]at hk;simp only[World.cell?,hg];simpa using hk
theorem j7n{w w':World}{B e size n:Nat}{v:Value}{xs:List Value}(h:w.ownsRow B e size v n xs)(hb:Below w.heap.size w w'):w'.ownsRow B e size v n xs:=by
 refine⟨h.1,?_⟩;rcases h.2 with h0|⟨g,c,cur,rfl,hB,hg,rest⟩
 ·exact .inl h0
 ·exact .inr ⟨g,c,cur,rfl,hB,(hb.block g (Array.getElem?_eq_some_iff.1 hg).1).trans hg,rest⟩
def strCells(xs:List ByteArray):List Value:=xs.map fun x=>.string x
theorem q5b(a b:List ByteArray):strCells (a++b)=strCells a++strCells b:=by simp[strCells]
def q6l(B:Nat)(v:Value)(xs:List ByteArray)(w:World):Prop:=w.ownsRow B 9 1 v xs.length (strCells xs)
theorem q9w{B:Nat}{w:World}{A:Option Addr}{n c:Nat}{xs:List ByteArray}(h:q6l B (.slice A n c) xs w):Wds w A xs:=by
 intro j hj;rcases h.2 with⟨hv,h0⟩|⟨g,c,cur,hv,_,hg,hnc,_,hsz,htake⟩
 ·omega
 ·simp only[Value.slice.injEq]at hv;obtain⟨rfl,rfl,rfl⟩:=hv;refine⟨g,0,rfl,(Array.getElem?_eq_some_iff.1 hg).1,?_⟩;have hk:(strCells xs)[j]?=some (.string xs[j]):=by simp[strCells,hj]
  rw[<-htake]at hk;rw[List.getElem?_take_of_lt (by omega)]at hk;rw[Nat.zero_add];simp only[World.cell?,hg];simpa using hk
end Go.Proofs.YthjapabokcajhaaGreatDoor
namespace Go.Proofs.YthjapabokcajhaaGreatDoor
open Go Go.RowKit
theorem j2i(n:Nat)(ws:List ByteArray)(hn:ws.length=n)(a:Option Addr)(cap:Nat)(w:World)(h0:ws≠[])(hF:Few ws)(hW:Wds w a ws):
  Calls Tryz.prog 158 #[.slice a n cap] w fun e w'=>e=.returned (.int .i64 (ln ws))/\w=w':=by
 subst hn;exact k8j ws a cap w h0 hF hW
end Go.Proofs.YthjapabokcajhaaGreatDoor
namespace Go.Proofs.YthjapabokcajhaaGreatDoor
open Go Go.RowKit
structure Lst(wd:Nat)(ws:List ByteArray)(bL bF k:Nat)(w:World):Prop where
 ne:bL≠bF
 rl:z7o w bL (ws.length+1)
 rf:z7o w bF ws.length
 cl:∀j,k<=j->j<=ws.length->w.cell? ⟨bL,j,none⟩=some (.int .i64 ((best wd (ws.drop j):Nat):Int))
 cf:∀j,k<=j->j<ws.length->w.cell? ⟨bF,j,none⟩=some (.int .i64 ((agF wd (ws.drop j):Nat):Int))
theorem Lst.kept{wd:Nat}{ws:List ByteArray}{bL bF k:Nat}{w w':World}(h:Lst wd ws bL bF k w)(h1:w'.heap[bL]?=w.heap[bL]?)(h2:w'.heap[bF]?=w.heap[bF]?):Lst wd ws bL bF k w' where
 ne:=h.ne
 rl:=h.rl.kept h1
 rf:=h.rf.kept h2
 cl:=fun j a b=>(World.cell?_of_block (w:=w) (a:=⟨bL,j,none⟩) h1).trans (h.cl j a b)
 cf:=fun j a b=>(World.cell?_of_block (w:=w) (a:=⟨bF,j,none⟩) h2).trans (h.cf j a b)
theorem Lst.made(wd:Nat)(ws:List ByteArray)(w:World):
  Lst wd ws w.heap.size (w.heap.size+1) ws.length ((w.alloc (.cells (madeCells #[.int .i64 0] (ws.length+1)) 3)).alloc (.cells (madeCells #[.int .i64 0] ws.length) 3)):=by
 have h1:((w.alloc (.cells (madeCells #[.int .i64 0] (ws.length+1)) 3)).alloc (.cells (madeCells #[.int .i64 0] ws.length) 3)).heap[w.heap.size]?=some (.cells (madeCells #[.int .i64 0] (ws.length+1)) 3 (0,0)):=
  (Below.heap_alloc _ _ _ (by simp)).trans (heap_alloc_new w _)
 have h2:((w.alloc (.cells (madeCells #[.int .i64 0] (ws.length+1)) 3)).alloc (.cells (madeCells #[.int .i64 0] ws.length) 3)).heap[w.heap.size+1]?=some (.cells (madeCells #[.int .i64 0] ws.length) 3 (0,0)):=by
  have:=heap_alloc_new (w.alloc (.cells (madeCells #[.int .i64 0] (ws.length+1)) 3)) (.cells (madeCells #[.int .i64 0] ws.length) 3)
  simpa using this
 refine⟨by omega,⟨_,_,h1,size_madeCells _ _⟩,⟨_,_,h2,size_madeCells _ _⟩,fun j a b=>?_,fun j a b=>by omega⟩;obtain rfl:j=ws.length:=by omega
 have:best wd (ws.drop ws.length)=0:=by rw[List.drop_length];rfl
 rw[this];simp only[World.cell?,h1];exact k4x _ (by omega)
structure Mid(wd:Nat)(ws:List ByteArray)(bL bF i m:Nat)(w:World):Prop where
 l:Lst wd ws bL bF (i+1) w
 c:1<=m->w.cell? ⟨bL,i,none⟩=some (.int .i64 ((z0i (fOf wd (ws.drop i)) m:Nat):Int))/\w.cell? ⟨bF,i,none⟩=some (.int .i64 ((k8o (fOf wd (ws.drop i)) m:Nat):Int))
theorem Mid.kept{wd:Nat}{ws:List ByteArray}{bL bF i m:Nat}{w w':World}(h:Mid wd ws bL bF i m w)(h1:w'.heap[bL]?=w.heap[bL]?)(h2:w'.heap[bF]?=w.heap[bF]?):Mid wd ws bL bF i m w' where
 l:=h.l.kept h1 h2
 c:=fun hm=>⟨(World.cell?_of_block (w:=w) (a:=⟨bL,i,none⟩) h1).trans (h.c hm).1,(World.cell?_of_block (w:=w) (a:=⟨bF,i,none⟩) h2).trans (h.c hm).2⟩
theorem Mid.start{wd:Nat}{ws:List ByteArray}{bL bF i:Nat}{w:World}(h:Lst wd ws bL bF (i+1) w):Mid wd ws bL bF i 0 w:=⟨h,fun hm=>by omega⟩
theorem Mid.skip{wd:Nat}{ws:List ByteArray}{bL bF i m:Nat}{w:World}(h:Mid wd ws bL bF i m w)(h1:¬(m=0\/fOf wd (ws.drop i) (m+1)<=z0i (fOf wd (ws.drop i)) m)):Mid wd ws bL bF i (m+1) w:=by
 refine⟨h.l,fun _=>?_⟩;rw[z0i,k8o,if_neg h1,if_neg h1];exact h.c (by omega)
theorem Mid.put{wd:Nat}{ws:List ByteArray}{bL bF i m:Nat}{w:World}(h:Mid wd ws bL bF i m w)(hi:i<ws.length)(h1:m=0\/fOf wd (ws.drop i) (m+1)<=z0i (fOf wd (ws.drop i)) m):
  Mid wd ws bL bF i (m+1) ((w.setCell ⟨bL,i,none⟩ (.int .i64 ((fOf wd (ws.drop i) (m+1):Nat):Int))).setCell ⟨bF,i,none⟩ (.int .i64 ((m:Int)+1))):=by
 have ne:=h.l.ne;refine⟨⟨ne,h.l.rl.set.set,h.l.rf.set.set,fun j a b=>?_,fun j a b=>?_⟩,fun _=>?_⟩
 ·exact(cso (.inl (Ne.symm ne))).trans ((cso (.inr (by omega))).trans (h.l.cl j a b))
 ·exact(cso (.inr (by omega))).trans ((cso (.inl ne)).trans (h.l.cf j a b))
 ·rw[z0i,k8o,if_pos h1,if_pos h1];obtain⟨y1,e1⟩:=h.l.rl.cell (i:=i) (by omega);obtain⟨y2,e2⟩:=h.l.rf.cell (i:=i) hi;exact⟨(cso (.inl (Ne.symm ne))).trans (css e1),css ((cso (.inl ne)).trans e2)⟩
theorem Mid.done{wd:Nat}{ws:List ByteArray}{bL bF i m:Nat}{w:World}(h:Mid wd ws bL bF i m w)(hi:i<ws.length)(hm:m=ws.length-i):Lst wd ws bL bF i w:=by
 have hne:ws.drop i≠[]:=fun e=>by
  have:=congrArg List.length e
  rw[List.length_drop,List.length_nil]at this;omega
 obtain⟨c1,c2⟩:=h.c (by omega);refine⟨h.l.ne,h.l.rl,h.l.rf,fun j a b=>?_,fun j a b=>?_⟩
 ·by_cases e:j=i
  ·subst e;rw[k1z wd hne,List.length_drop,<-hm];exact c1
  ·exact h.l.cl j (by omega) b
 ·by_cases e:j=i
  ·subst e;rw[agF,List.length_drop,<-hm];exact c2
  ·exact h.l.cf j (by omega) b
theorem j8v(wd:Nat)(ws:List ByteArray)(i k:Nat):fOf wd (ws.drop i) k=bd (ln ((ws.drop i).take k)) wd (k==ws.length-i)+best wd (ws.drop (i+k)):=by
 rw[fOf,List.drop_drop,List.length_drop]
end Go.Proofs.YthjapabokcajhaaGreatDoor
