/- Texts as one: FilK, FilA, RWds, FilB, RowO, FilJ, FilD. -/
import Derived.Test.YthjapabokcajhaaGreatDoorPi04
import Derived.Deep.OwnRows
import Derived.Deep.AppendLies
import Derived.OwnWalk
import Derived.Lib.SmallJoins
open Go.Proofs.Tryz
namespace Go.Proofs.YthjapabokcajhaaGreatDoor
open Go Go.RowKit
set_option maxRecDepth 100000
set_option maxHeartbeats 1000000
theorem z5l(s:ByteArray)(w:World):Calls prog 152 #[.string s] w fun e w'=>e=.returned (.bool (okW s))/\w=w':=by
 by_cases h1:(s.size:Int)<1
 ·have e:okW s=false:=by simp[okW];omega
  rw[e];clear e;go_in;go_wp2;go_ret;exact⟨rfl,rfl⟩
 by_cases h2:20<(s.size:Int)
 ·have e:okW s=false:=by simp[okW];omega
  rw[e];clear e;go_in;go_wp2;go_ret;exact⟨rfl,rfl⟩
 go_in;go_wp2
 go_loopw [14] (fun i wr=>wr=w/\∃k:Nat,k<=s.size/\i=.int .i64 k/\∀j(h:j<s.size),j<k->q8f s[j]=true) (fun i _=>s.size-(intOf i).toNat)
 case atStart=>exact⟨rfl,0,Nat.zero_le _,rfl,fun j _ hj=>by omega⟩
 case round=>
  obtain⟨rfl,k,hk,rfl,hall⟩:=hrel;have HA:Hid (∀j(h:j<s.size),j<k->q8f s[j]=true):=hall;clear hall;by_cases hlt:k<s.size
  ·cases hb:q8f s[k]with
   | false=>
    have HE:Hid (okW s=false):=j7m hlt hb;have hc:=z5h hb;clear hb;rcases hc with hc|⟨hc,hd⟩
    ·go_wp2;go_ret;exact⟨by rw[HE.o];rfl,rfl⟩
    ·go_wp2;go_ret;exact⟨by rw[HE.o];rfl,rfl⟩
   | true=>
    have HB:Hid (q8f s[k]=true):=hb;obtain⟨hc,hd⟩:=z7k hb;clear hb;go_wp2
    go_roundw
    case rel=>
     refine⟨by trivial,k+1,by omega,by go_num,?_⟩;intro j h hj;by_cases hjk:j=k
     ·subst hjk;exact HB.o
     ·exact HA.o j h (by omega)
    case measure=>simp[intOf];omega
  ·have HE:Hid (okW s=true):=k6z (by omega) (by omega) fun j h=>HA.o j h (by omega)
   go_wp2;go_ret;exact⟨by rw[HE.o];rfl,rfl⟩
theorem q6i(ws:List ByteArray)(a:Option Addr)(cap:Nat)(w:World)(hW:Wds w a ws):
  Calls prog 97 #[.slice a ws.length cap] w fun e w'=>e=.returned (q1y (q1d ws))/\w=w':=by
 have HW:Hid (Wds w a ws):=hW;clear hW;by_cases h1:60<(ws.length:Int)
 ·have HE:Hid (q1d ws=3):=q7h (by omega);go_in;go_wp2;go_ret;exact⟨by rw[HE.o];rfl,rfl⟩
 go_in;go_wp2
 go_loopw [11] (fun i wr=>wr=w/\∃k:Nat,k<=ws.length/\i=.int .i64 k/\∀j(h:j<ws.length),j<k->okW ws[j]=true) (fun i _=>ws.length-(intOf i).toNat)
 case atStart=>exact⟨rfl,0,Nat.zero_le _,rfl,fun j _ hj=>by omega⟩
 case round=>
  obtain⟨rfl,k,hk,rfl,hall⟩:=hrel;have HA:Hid (∀j(h:j<ws.length),j<k->okW ws[j]=true):=hall;clear hall;by_cases hlt:k<ws.length
  ·obtain⟨b0,o0,ea,hb0,c0⟩:=HW.o k hlt;subst ea;cases hb:okW ws[k]with
   | false=>
    have HE:Hid (q1d ws=5):=z7m (by omega) hlt hb;have HB:Hid (okW ws[k]=false):=hb;generalize ws[k]=x at c0 HB;clear hb;go_wp2_with fail;refine(z5l _ _).mono ?_;rintro e w2⟨rfl,rfl⟩;rw[HB.o];go_wp2;go_ret;exact⟨by rw[HE.o];rfl,rfl⟩
   | true=>
    have HB:Hid (okW ws[k]=true):=hb
    have HA':Hid (∀j(h:j<ws.length),j<k+1->okW ws[j]=true):=fun j h hj=>by
     by_cases hjk:j=k
     ·subst hjk;exact hb
     ·exact HA.o j h (by omega)
    generalize ws[k]=x at c0 HB;clear hb;go_wp2_with fail;refine(z5l _ _).mono ?_;rintro e w2⟨rfl,rfl⟩;rw[HB.o];go_wp2
    go_roundw
    case rel=>exact⟨by trivial,k+1,by omega,by go_num,HA'.o⟩
    case measure=>simp[intOf];omega
  ·have HE:Hid (q1d ws=0):=z7l (by omega) fun j h=>HA.o j h (by omega)
   go_wp2;go_ret;exact⟨by rw[HE.o];rfl,rfl⟩
theorem v0f(ws:List ByteArray)(a:Option Addr)(cap:Nat)(wd:Int)(w:World)(hW:Wds w a ws):
  Calls prog 104 #[.slice a ws.length cap,.int .i64 wd] w fun e w'=>e=.returned (q1y (q6o ws wd))/\w=w':=by
 have HW:Hid (Wds w a ws):=hW;clear hW;by_cases h0:q1d ws=0
 ·have H0:Hid (q1d ws=0):=h0;clear h0;by_cases h1:wd<1
  ·have HE:Hid (q6o ws wd=1):=by
    show q6o ws wd=1;rw[q6o,if_neg (by rw[H0.o];simp),if_pos (.inl h1)]
   go_in;go_wp2_with fail;refine(q6i ws a cap _ HW.o).mono ?_;rintro e w2⟨rfl,rfl⟩;rw[H0.o,q1m];go_wp2;go_ret;exact⟨by rw[HE.o];rfl,rfl⟩
  by_cases h2:100<wd
  ·have HE:Hid (q6o ws wd=1):=by
    show q6o ws wd=1;rw[q6o,if_neg (by rw[H0.o];simp),if_pos (.inr h2)]
   go_in;go_wp2_with fail;refine(q6i ws a cap _ HW.o).mono ?_;rintro e w2⟨rfl,rfl⟩;rw[H0.o,q1m];go_wp2;go_ret;exact⟨by rw[HE.o];rfl,rfl⟩
  ·have HE:Hid (q6o ws wd=0):=by
    show q6o ws wd=0;rw[q6o,if_neg (by rw[H0.o];simp),if_neg (by omega)]
   go_in;go_wp2_with fail;refine(q6i ws a cap _ HW.o).mono ?_;rintro e w2⟨rfl,rfl⟩;rw[H0.o,q1m];go_wp2;go_ret;exact⟨by rw[HE.o];rfl,rfl⟩
 ·have HE:Hid (q6o ws wd=q1d ws):=by
   show q6o ws wd=q1d ws;rw[q6o,if_pos h0]
  have HN:Hid (q1y (q1d ws)=.iface 23 (.int .i64 (q1d ws))):=q0w h0;clear h0;go_in;go_wp2_with fail;refine(q6i ws a cap _ HW.o).mono ?_;rintro e w2⟨rfl,rfl⟩;rw[HN.o];go_wp2;go_ret;exact⟨by rw[HE.o,HN.o];rfl,rfl⟩
theorem v0e(ws:List ByteArray)(a:Option Addr)(cap:Nat)(w:World)(h0:ws≠[])(hF:Few ws)(hW:Wds w a ws):
  Calls prog 158 #[.slice a ws.length cap] w fun e w'=>e=.returned (.int .i64 (ln ws))/\w=w':=by
 have HW:Hid (Wds w a ws):=hW;have hp:0<ws.length:=List.length_pos_iff.2 h0;have hl:=hF.1
 have HE:Hid ((ln ws:Int)=(ws.length:Int)-1+tot ws):=by
  show(ln ws:Int)=_
  simp only[ln];omega
 have HF:Hid (Few ws):=hF;clear hW hF h0;go_in;go_wp2
 go_loopw [3,11] (fun s i wr=>wr=w/\∃k:Nat,k<=ws.length/\i=.int .i64 k/\s=.int .i64 ((ws.length:Int)-1+tot (ws.take k))) (fun _ i _=>ws.length-(intOf i).toNat)
 case atStart=>exact⟨rfl,0,Nat.zero_le _,rfl,by simp[tot]⟩
 case round=>
  obtain⟨rfl,k,hk,rfl,rfl⟩:=hrel;by_cases hlt:k<ws.length
  ·obtain⟨b0,o0,ea,hb0,c0⟩:=HW.o k hlt;subst ea;have HS:Hid (tot (ws.take (k+1))=tot (ws.take k)+ws[k].size):=v5m hlt;have ht:=(HF.o.take k).tot;have hx:=HF.o.2 _ (List.getElem_mem hlt);generalize ws[k]=x at c0 HS hx;generalize tot (ws.take k)=t0 at HS ht;go_wp2
   go_roundw
   case rel=>exact⟨by trivial,k+1,by omega,by go_num,by rw[HS.o];go_num⟩
   case measure=>simp[intOf];omega
  ·have hke:k=ws.length:=by omega
   subst hke;have HT:Hid (tot (ws.take ws.length)=tot ws):=by show _=_;rw[List.take_length]
   go_wp2;go_ret;exact⟨by rw[HE.o,<-HT.o];rfl,rfl⟩
theorem j1u{n wd:Nat}{last:Bool}(h:wd<n):(bd n wd last:Int)=1000*((n:Int)-wd):=by
 rw[bd,if_pos h];omega
theorem j1t{n wd:Nat}(h:¬wd<n):bd n wd true=0:=by rw[bd,if_neg h];rfl
theorem k5o{n wd:Nat}(h:¬wd<n):(bd n wd false:Int)=((wd:Int)-n)*((wd:Int)-n):=by
 rw[bd,if_neg h];simp only[Bool.false_eq_true,if_false];rw[Int.natCast_mul]
 congr 1<;>omega
theorem v5v(n wd:Nat)(last:Bool)(w:World)(hn:n<=1260)(hw:wd<=100):
  Calls prog 157 #[.int .i64 n,.int .i64 wd,.bool last] w fun e w'=>e=.returned (.int .i64 (bd n wd last))/\w=w':=by
 by_cases h:wd<n
 ·have HE:Hid ((bd n wd last:Int)=1000*((n:Int)-wd)):=j1u h;have h':(wd:Int)-n<0:=by omega
  clear h;go_in;go_wp2;go_ret;exact⟨by rw[HE.o];go_num,rfl⟩
 ·cases last with
  | true=>
   have HE:Hid (bd n wd true=0):=j1t h;have h':¬(wd:Int)-n<0:=by omega
   clear h;go_in;go_wp2;go_ret;exact⟨by rw[HE.o];rfl,rfl⟩
  | false=>
   have HE:Hid ((bd n wd false:Int)=((wd:Int)-n)*((wd:Int)-n)):=k5o h;have h':¬(wd:Int)-n<0:=by omega
   obtain⟨m,hm⟩:∃m:Int,m=(wd:Int)-n:=⟨_,rfl⟩;have h1:IntKind.i64.wrap ((wd:Int)-n)=(wd:Int)-n:=by rw[IntKind.wrap_i64];omega
   have h2:IntKind.i64.wrap (((wd:Int)-n)*((wd:Int)-n))=((wd:Int)-n)*((wd:Int)-n):=by
    have a1:0<=((wd:Int)-n)*((wd:Int)-n):=Int.mul_nonneg (by omega) (by omega);have a2:((wd:Int)-n)*((wd:Int)-n)<=100*100:=Int.mul_le_mul (by omega) (by omega) (by omega) (by omega);rw[IntKind.wrap_i64];omega
   clear h hm;go_in;go_wp2;go_ret;exact⟨by rw[HE.o];rfl,rfl⟩
set_option maxHeartbeats 2000000
theorem z7c(ws:List ByteArray)(a:Option Addr)(cap:Nat)(w:World)(hW:Wds w a ws):
  Calls prog 21 #[.slice a ws.length cap] w fun e w'=>e=.returned (.int .i64 (q1d ws))/\w=w':=by
 have HW:Hid (Wds w a ws):=hW;clear hW;by_cases h1:60<(ws.length:Int)
 ·have HE:Hid (q1d ws=3):=q7h (by omega);go_in;go_wp2;go_ret;exact⟨by rw[HE.o];rfl,rfl⟩
 go_in;go_wp2
 go_loopw [3] (fun i wr=>wr=w/\∃k:Nat,k<=ws.length/\i=.int .i64 k/\∀j(h:j<ws.length),j<k->okW ws[j]=true) (fun i _=>ws.length-(intOf i).toNat)
 case atStart=>exact⟨rfl,0,Nat.zero_le _,rfl,fun j _ hj=>by omega⟩
 case round=>
  obtain⟨rfl,k,hk,rfl,hall⟩:=hrel;have HA:Hid (∀j(h:j<ws.length),j<k->okW ws[j]=true):=hall;clear hall;by_cases hlt:k<ws.length
  ·obtain⟨b0,o0,ea,hb0,c0⟩:=HW.o k hlt;subst ea;have hki:(k:Int)<(ws.length:Int):=by omega
   have HOK:Hid (okW ws[k]=true->∀j(h:j<ws.length),j<k+1->okW ws[j]=true):=fun hb j h hj=>by
    by_cases hjk:j=k
    ·subst hjk;exact hb
    ·exact HA.o j h (by omega)
   have HNO:Hid (okW ws[k]=false->q1d ws=5):=fun hb=>z7m (by omega) hlt hb
   generalize ws[k]=s at c0 HOK HNO;by_cases g1:(s.size:Int)<1
   ·have HE:Hid (q1d ws=5):=HNO.o (by simp[okW];omega);go_wp2;go_ret;exact⟨by rw[HE.o];rfl,rfl⟩
   by_cases g2:20<(s.size:Int)
   ·have HE:Hid (q1d ws=5):=HNO.o (by simp[okW];omega);go_wp2;go_ret;exact⟨by rw[HE.o];rfl,rfl⟩
   go_wp2
   go_loopw [4] (fun i wx=>wx=wr/\∃m:Nat,m<=s.size/\i=.int .i64 m/\∀j(h:j<s.size),j<m->q8f s[j]=true) (fun i _=>s.size-(intOf i).toNat)
   case atStart=>exact⟨rfl,0,Nat.zero_le _,rfl,fun j _ hj=>by omega⟩
   case round=>
    obtain⟨rfl,m,hm,rfl,hall2⟩:=hrel;have HA2:Hid (∀j(h:j<s.size),j<m->q8f s[j]=true):=hall2;clear hall2;by_cases hlt2:m<s.size
    ·have hmi:(m:Int)<(s.size:Int):=by omega
     cases hb:q8f s[m]with
     | false=>
      have HE:Hid (q1d ws=5):=HNO.o (j7m hlt2 hb);have hc:=z5h hb;clear hb;rcases hc with hc|⟨hc,hd⟩
      ·go_wp2;go_ret;exact⟨by rw[HE.o];rfl,rfl⟩
      ·go_wp2;go_ret;exact⟨by rw[HE.o];rfl,rfl⟩
     | true=>
      have HB:Hid (q8f s[m]=true):=hb;obtain⟨hc,hd⟩:=z7k hb;clear hb;go_wp2
      go_roundw
      case rel=>
       refine⟨by trivial,m+1,by omega,by go_num,?_⟩;intro j h hj;by_cases hjk:j=m
       ·subst hjk;exact HB.o
       ·exact HA2.o j h (by omega)
      case measure=>simp[intOf];omega
    ·have HE:Hid (∀j(h:j<ws.length),j<k+1->okW ws[j]=true):=HOK.o (k6z (by omega) (by omega) fun j h=>HA2.o j h (by omega));go_wp2
     go_roundw
     case rel=>exact⟨by trivial,k+1,by omega,by go_num,HE.o⟩
     case measure=>simp[intOf];omega
  ·have HE:Hid (q1d ws=0):=z7l (by omega) fun j h=>HA.o j h (by omega)
   go_wp2;go_ret;exact⟨by rw[HE.o];rfl,rfl⟩
theorem q6y(ws:List ByteArray)(a:Option Addr)(cap:Nat)(w:World)(hF:Few ws)(hW:Wds w a ws):
  Calls prog 56 #[.slice a ws.length cap] w fun e w'=>e=.returned (.string (jnS ws))/\w=w':=by
 have HW:Hid (Wds w a ws):=hW;have HF:Hid (Few ws):=hF;have hl:=hF.1;clear hW hF;go_in;go_wp2
 go_loopw [3,4] (fun s i wr=>wr=w/\∃k:Nat,k<=ws.length/\i=.int .i64 k/\s=.string (jnS (ws.take k))) (fun _ i _=>ws.length-(intOf i).toNat)
 case atStart=>exact⟨rfl,0,Nat.zero_le _,rfl,rfl⟩
 case round=>
  obtain⟨rfl,k,hk,rfl,rfl⟩:=hrel;by_cases hlt:k<ws.length
  ·obtain⟨b0,o0,ea,hb0,c0⟩:=HW.o k hlt;subst ea;have hki:(k:Int)<(ws.length:Int):=by omega
   have hx:=HF.o.2 _ (List.getElem_mem hlt);have hz:(jnS (ws.take k)).size<=1260:=by rw[z3b];exact(HF.o.take k).ln
   by_cases h0:k=0
   ·have HS:Hid (jnS (ws.take (k+1))=jnS (ws.take k)++ws[k]):=by
     show _=_;subst h0;rw[List.take_zero,v9z,j4l hlt];exact(ByteArray.empty_append).symm
    have h0':¬(0:Int)<(k:Int):=by omega
    generalize ws[k]=x at c0 HS hx;generalize jnS (ws.take k)=z at HS hz;clear h0;go_wp2
    go_roundw
    case rel=>exact⟨by trivial,k+1,by omega,by go_num,by rw[HS.o]⟩
    case measure=>simp[intOf];omega
   ·have HS:Hid (jnS (ws.take (k+1))=jnS (ws.take k)++⟨#[32]⟩++ws[k]):=v2u (by omega) hlt;have h0':(0:Int)<(k:Int):=by omega
    generalize ws[k]=x at c0 HS hx;generalize jnS (ws.take k)=z at HS hz;clear h0;go_wp2
    go_roundw
    case rel=>exact⟨by trivial,k+1,by omega,by go_num,by rw[HS.o]⟩
    case measure=>simp[intOf];omega
  ·have hke:k=ws.length:=by omega
   subst hke;have HT:Hid (jnS (ws.take ws.length)=jnS ws):=by show _=_;rw[List.take_length]
   go_wp2;go_ret;exact⟨by rw[<-HT.o];rfl,rfl⟩
theorem v4c(ws:List ByteArray)(a:Option Addr)(cap wd:Nat)(last:Bool)(w:World)(hF:Few ws)(hw:wd<=100)(hW:Wds w a ws):
  Calls prog 55 #[.slice a ws.length cap,.int .i64 wd,.bool last] w fun e w'=>e=.returned (.int .i64 (bd (ln ws) wd last))/\w=w':=by
 have HW:Hid (Wds w a ws):=hW;have HF:Hid (Few ws):=hF;have hn:=hF.ln;have HZ:Hid ((jnS ws).size=ln ws):=z3b ws;clear hW hF;generalize ln ws=n at hn HZ;by_cases h:wd<n
 ·have HE:Hid ((bd n wd last:Int)=1000*((n:Int)-wd)):=j1u h;have h':(wd:Int)<n:=by omega
  clear h;go_in;go_wp2_with fail;refine(q6y ws a cap _ HF.o HW.o).mono ?_;rintro e w2⟨rfl,rfl⟩;have hz:=HZ.o;go_wp2;go_ret;exact⟨by rw[HE.o];go_num,rfl⟩
 ·cases last with
  | true=>
   have HE:Hid (bd n wd true=0):=j1t h;have h':¬(wd:Int)<n:=by omega
   clear h;go_in;go_wp2_with fail;refine(q6y ws a cap _ HF.o HW.o).mono ?_;rintro e w2⟨rfl,rfl⟩;have hz:=HZ.o;go_wp2;go_ret;exact⟨by rw[HE.o];rfl,rfl⟩
  | false=>
   have HE:Hid ((bd n wd false:Int)=((wd:Int)-n)*((wd:Int)-n)):=k5o h;have h':¬(wd:Int)<n:=by omega
   have h1:IntKind.i64.wrap ((wd:Int)-n)=(wd:Int)-n:=by rw[IntKind.wrap_i64];omega
   have h2:IntKind.i64.wrap (((wd:Int)-n)*((wd:Int)-n))=((wd:Int)-n)*((wd:Int)-n):=by
    have a1:0<=((wd:Int)-n)*((wd:Int)-n):=Int.mul_nonneg (by omega) (by omega);have a2:((wd:Int)-n)*((wd:Int)-n)<=100*100:=Int.mul_le_mul (by omega) (by omega) (by omega) (by omega);rw[IntKind.wrap_i64];omega
   clear h;go_in;go_wp2_with fail;refine(q6y ws a cap _ HF.o HW.o).mono ?_;rintro e w2⟨rfl,rfl⟩;have hz:=HZ.o;go_wp2;go_ret;exact⟨by rw[HE.o];rfl,rfl⟩
theorem y1r(a:Option Addr)(n c k:Nat)(hk:k<=c)(W:World):
  (Instr.slice 58 (.slice a n c) none (some (.int .i64 (k:Int))) none).run prog W=.ok (.slice a k c) W:=by
 rw[run_slice_h W 58 a n c Tryz.underlying58 .i64 (k:Int) (by omega) (by omega)];have hz:(sizeOf (prog.elem 58)).run prog W=.ok 1 W:=by kernel_rfl
 rw[hz];simp[Result.andThen,sliced,Addr.add]
theorem y1s{B:Nat}{w:World}{b o c k:Nat}{ws:List ByteArray}(h:z2u B w (some ⟨b,o,none⟩) ws)(hk:k<=ws.length)(hc:ws.length<=c):
  ∃A,(∀W:World,(Instr.slice 58 (.slice (some ⟨b,o,none⟩) ws.length c) (some (.int .i64 (k:Int))) none none).run prog W=.ok (.slice A (ws.drop k).length (c-k)) W)/\z2u B w A (ws.drop k):=by
 refine⟨if c=k then some ⟨b,o,none⟩else some ⟨b,o+k,none⟩,fun W=>?_,?_⟩
 ·rw[run_slice_l W 58 _ ws.length c Tryz.underlying58 .i64 (k:Int) (by omega) (by omega)];have hz:(sizeOf (prog.elem 58)).run prog W=.ok 1 W:=by kernel_rfl
  rw[hz]
  have ha:(⟨b,o,none⟩:Addr).add k=⟨b,o+k,none⟩:=by
   unfold Addr.add
   split
   ·rename_i h;subst h;rfl
   ·rfl
  simp[Result.andThen,sliced,ha]
 ·by_cases e:c=k
  ·have:ws.drop k=[]:=List.drop_eq_nil_of_le (by omega)
   rw[this];exact z2u.nil _ _ _
  ·rw[if_neg e];exact h.drop k
theorem j8m(b o n c i k:Nat)(hi:i<c)(hk:i+k<=c)(W:World):
  (Instr.slice 58 (.slice (some ⟨b,o,none⟩) n c) (some (.int .i64 (i:Int))) (some (.int .i64 ((i:Int)+(k:Int)))) none).run prog W=.ok (.slice (some ⟨b,o+i,none⟩) k (c-i)) W:=by
 rw[run_slice_lh W 58 _ n c Tryz.underlying58 .i64 .i64 (i:Int) ((i:Int)+(k:Int)) (by omega) (by omega) (by omega)];have hz:(sizeOf (prog.elem 58)).run prog W=.ok 1 W:=by kernel_rfl
 rw[hz]
 have ha:(⟨b,o,none⟩:Addr).add i=⟨b,o+i,none⟩:=by
  unfold Addr.add
  split
  ·rename_i h;subst h;rfl
  ·rfl
 have e1:((i:Int)+(k:Int)).toNat=i+k:=by omega
 have e2:¬c=i:=by omega
 have e3:i+k-i=k:=by omega
 simp[Result.andThen,sliced,ha,e1,e2,e3]
theorem z2m:(prog.info? 3).map (fun i=>(i.zero,i.size,i.bytes))=some (some (.int .i64 0),1,8):=by kernel_rfl
theorem z0v:(prog.info? 9).map (fun i=>(i.zero,i.size,i.bytes))=some (some (.string ⟨#[]⟩),1,16):=by kernel_rfl
def z9t(w:World)(b n:Nat):Prop:=∃cs T,w.heap[b]?=some (.cells cs T (0,0))/\cs.size=n
theorem z9t.lt{w:World}{b n:Nat}(h:z9t w b n):b<w.heap.size:=by
 obtain⟨cs,T,h,_⟩:=h;rcases Nat.lt_or_ge b w.heap.size with h'|h'
 ·exact h'
 ·simp[Array.getElem?_eq_none h']at h
theorem z9t.cell{w:World}{b n i:Nat}(h:z9t w b n)(hi:i<n):∃y,w.cell? ⟨b,i,none⟩=some y:=by
 obtain⟨cs,T,h,hs⟩:=h;refine⟨cs[i],?_⟩;simp[World.cell?,h]
theorem z9t.frozen{w:World}{b n i:Nat}(h:z9t w b n):w.frozen? ⟨b,i,none⟩=false:=by
 obtain⟨cs,T,h,hs⟩:=h;simp[World.frozen?,h]
theorem z9t.kept{w w':World}{b n:Nat}(h:z9t w b n)(hb:w'.heap[b]?=w.heap[b]?):z9t w' b n:=by
 obtain⟨cs,T,h,hs⟩:=h;exact⟨cs,T,hb.trans h,hs⟩
theorem z9t.set{w:World}{b n c i:Nat}{v:Value}(h:z9t w b n):z9t (w.setCell ⟨c,i,none⟩ v) b n:=by
 by_cases e:c=b
 ·subst e;obtain⟨cs,T,h,hs⟩:=h;exact⟨cs.setIfInBounds i v,T,by simp[World.setCell,Array.getElem?_modify,h],by simpa using hs⟩
 ·exact h.kept (Below.heap_setCell _ _ _ _ (Ne.symm e))
theorem k1p{n j:Nat}(z:Value)(h:j<n):(madeCells #[z] n)[j]?=some z:=by
 simp[madeCells,h,Nat.mod_one]
def q2w(ks:List Nat):List Value:=ks.map fun(k:Nat)=>.int .i64 (k:Int)
theorem z2o(a b:List Nat):q2w (a++b)=q2w a++q2w b:=by simp[q2w]
def z1i(B:Nat)(v:Value)(ks:List Nat)(w:World):Prop:=w.ownsRow B 3 1 v ks.length (q2w ks)
theorem q0f{B:Nat}{w w':World}(h:Below B w w')(n:Nat):Below B w (w'.drewN n):=h.trans ⟨rfl,rfl,rfl,Nat.le_refl _,fun _ _=>rfl⟩
theorem j1w{B:Nat}{w w':World}{b1 o1 b2 o2:Nat}{v1 v2:Value}(h:Below B w w')(h1:B<=b1)(h2:B<=b2):Below B w ((w'.setCell ⟨b1,o1,none⟩ v1).setCell ⟨b2,o2,none⟩ v2):=
 (h.setCell (p:=⟨b1,o1,none⟩) h1 _).setCell (p:=⟨b2,o2,none⟩) h2 _
theorem z6y{B:Nat}{w:World}{A:Option Addr}{n c:Nat}{ks:List Nat}(h:z1i B (.slice A n c) ks w)(j:Nat)(hj:j<ks.length):∃g,A=some ⟨g,0,none⟩/\g<w.heap.size/\w.cell? ⟨g,j,none⟩=some (.int .i64 ((ks[j]:Nat):Int)):=by
 rcases h.2 with⟨hv,h0⟩|⟨g,c,cur,hv,_,hg,hnc,_,hsz,htake⟩
 ·omega
 ·simp only[Value.slice.injEq]at hv;obtain⟨rfl,rfl,rfl⟩:=hv;refine⟨g,rfl,(Array.getElem?_eq_some_iff.1 hg).1,?_⟩;have hk:(q2w ks)[j]?=some (.int .i64 ((ks[j]:Nat):Int)):=by simp[q2w,hj]
  rw[<-htake]at hk;rw[List.getElem?_take_of_lt (by omega)]at hk;simp only[World.cell?,hg];simpa using hk
theorem q3n{w w':World}{B e size n:Nat}{v:Value}{xs:List Value}(h:w.ownsRow B e size v n xs)(hb:Below w w w'):w'.ownsRow B e size v n xs:=by
 refine⟨h.1,?_⟩;rcases h.2 with h0|⟨g,c,cur,rfl,hB,hg,rest⟩
 ·exact .inl h0
 ·exact .inr ⟨g,c,cur,rfl,hB,(hb.block g (Array.getElem?_eq_some_iff.1 hg).1).trans hg,rest⟩
def strCells(xs:List ByteArray):List Value:=xs.map fun x=>.string x
theorem q2b(a b:List ByteArray):strCells (a++b)=strCells a++strCells b:=by simp[strCells]
def q2r(B:Nat)(v:Value)(xs:List ByteArray)(w:World):Prop:=w.ownsRow B 9 1 v xs.length (strCells xs)
theorem q4g{B:Nat}{w:World}{A:Option Addr}{n c:Nat}{xs:List ByteArray}(h:q2r B (.slice A n c) xs w):Wds w A xs:=by
 intro j hj;rcases h.2 with⟨hv,h0⟩|⟨g,c,cur,hv,_,hg,hnc,_,hsz,htake⟩
 ·omega
 ·simp only[Value.slice.injEq]at hv;obtain⟨rfl,rfl,rfl⟩:=hv;refine⟨g,0,rfl,(Array.getElem?_eq_some_iff.1 hg).1,?_⟩;have hk:(strCells xs)[j]?=some (.string xs[j]):=by simp[strCells,hj]
  rw[<-htake]at hk;rw[List.getElem?_take_of_lt (by omega)]at hk;rw[Nat.zero_add];simp only[World.cell?,hg];simpa using hk
theorem j7v{w:World}{B e size n k:Nat}{v:Value}{xs:List Value}(h:w.ownsRow B e size v n xs)(hk:v.ownBlock=some k):∃cur,w.heap[k]?=some (.cells cur e (0,0)):=by
 rcases h.2 with⟨rfl,_⟩|⟨g,c,cur,rfl,_,hg,_⟩
 ·simp[Value.ownBlock]at hk
 ·simp only[Value.ownBlock,Option.some.injEq]at hk;subst hk;exact⟨cur,hg⟩
theorem z2b{w w':World}{B B' e e' size size' n n':Nat}{v v':Value}{xs xs':List Value}(h:w.ownsRow B e size v n xs)(h':w.ownsRow B' e' size' v' n' xs')(he:e≠e')(hg:w.grownBy w' v'.ownBlock):w'.ownsRow B e size v n xs:=by
 refine h.kept hg ?_;cases hv:v.ownBlock with
 | none=>exact .inl rfl
 | some k=>
  refine .inr fun e0=>?_
  obtain⟨c1,h1⟩:=j7v h hv;obtain⟨c2,h2⟩:=j7v h' e0.symm;rw[h1]at h2;cases h2;exact he rfl
theorem y1o(n:Nat)(ws:List ByteArray)(hn:ws.length=n)(a:Option Addr)(cap wd:Nat)(last:Bool)(w:World)(hF:Few ws)(hw:wd<=100)(hW:Wds w a ws):
  Calls prog 55 #[.slice a n cap,.int .i64 wd,.bool last] w fun e w'=>e=.returned (.int .i64 (bd (ln ws) wd last))/\w=w':=by
 subst hn;exact v4c ws a cap wd last w hF hw hW
theorem v5y(n:Nat)(ws:List ByteArray)(hn:ws.length=n)(a:Option Addr)(cap:Nat)(w:World)(h0:ws≠[])(hF:Few ws)(hW:Wds w a ws):
  Calls prog 158 #[.slice a n cap] w fun e w'=>e=.returned (.int .i64 (ln ws))/\w=w':=by
 subst hn;exact v0e ws a cap w h0 hF hW
structure Lst(wd:Nat)(ws:List ByteArray)(bL bF k:Nat)(w:World):Prop where
 ne:bL≠bF
 rl:z9t w bL (ws.length+1)
 rf:z9t w bF ws.length
 cl:∀j,k<=j->j<=ws.length->w.cell? ⟨bL,j,none⟩=some (.int .i64 ((best wd (ws.drop j):Nat):Int))
 cf:∀j,k<=j->j<ws.length->w.cell? ⟨bF,j,none⟩=some (.int .i64 ((agF wd (ws.drop j):Nat):Int))
theorem Lst.kept{wd:Nat}{ws:List ByteArray}{bL bF k:Nat}{w w':World}(h:Lst wd ws bL bF k w)(h1:w'.heap[bL]?=w.heap[bL]?)(h2:w'.heap[bF]?=w.heap[bF]?):Lst wd ws bL bF k w' where
 ne:=h.ne
 rl:=h.rl.kept h1
 rf:=h.rf.kept h2
 cl:=fun j a b=>(World.cell?_of_block (w:=w) (a:=⟨bL,j,none⟩) h1).trans (h.cl j a b)
 cf:=fun j a b=>(World.cell?_of_block (w:=w) (a:=⟨bF,j,none⟩) h2).trans (h.cf j a b)
theorem Lst.made(wd:Nat)(ws:List ByteArray)(w:World):
  Lst wd ws w.heap.size (w.heap.size+1) ws.length ((w.alloc (.cells (madeCells #[.int .i64 0] (ws.length+1)) 3)).alloc (.cells (madeCells #[.int .i64 0] ws.length) 3)):=by
 have h1:((w.alloc (.cells (madeCells #[.int .i64 0] (ws.length+1)) 3)).alloc (.cells (madeCells #[.int .i64 0] ws.length) 3)).heap[w.heap.size]?=some (.cells (madeCells #[.int .i64 0] (ws.length+1)) 3 (0,0)):=
  (Below.heap_alloc _ _ _ (by simp)).trans (heap_alloc_new w _)
 have h2:((w.alloc (.cells (madeCells #[.int .i64 0] (ws.length+1)) 3)).alloc (.cells (madeCells #[.int .i64 0] ws.length) 3)).heap[w.heap.size+1]?=some (.cells (madeCells #[.int .i64 0] ws.length) 3 (0,0)):=by
  have:=heap_alloc_new (w.alloc (.cells (madeCells #[.int .i64 0] (ws.length+1)) 3)) (.cells (madeCells #[.int .i64 0] ws.length) 3)
  simpa using this
 refine⟨by omega,⟨_,_,h1,size_madeCells _ _⟩,⟨_,_,h2,size_madeCells _ _⟩,fun j a b=>?_,fun j a b=>by omega⟩;obtain rfl:j=ws.length:=by omega
 have:best wd (ws.drop ws.length)=0:=by rw[List.drop_length];rfl
 rw[this];simp only[World.cell?,h1];exact k1p _ (by omega)
structure Mid(wd:Nat)(ws:List ByteArray)(bL bF i m:Nat)(w:World):Prop where
 l:Lst wd ws bL bF (i+1) w
 c:1<=m->w.cell? ⟨bL,i,none⟩=some (.int .i64 ((q9c (fOf wd (ws.drop i)) m:Nat):Int))/\w.cell? ⟨bF,i,none⟩=some (.int .i64 ((j0y (fOf wd (ws.drop i)) m:Nat):Int))
theorem Mid.kept{wd:Nat}{ws:List ByteArray}{bL bF i m:Nat}{w w':World}(h:Mid wd ws bL bF i m w)(h1:w'.heap[bL]?=w.heap[bL]?)(h2:w'.heap[bF]?=w.heap[bF]?):Mid wd ws bL bF i m w' where
 l:=h.l.kept h1 h2
 c:=fun hm=>⟨(World.cell?_of_block (w:=w) (a:=⟨bL,i,none⟩) h1).trans (h.c hm).1,(World.cell?_of_block (w:=w) (a:=⟨bF,i,none⟩) h2).trans (h.c hm).2⟩
theorem Mid.start{wd:Nat}{ws:List ByteArray}{bL bF i:Nat}{w:World}(h:Lst wd ws bL bF (i+1) w):Mid wd ws bL bF i 0 w:=⟨h,fun hm=>by omega⟩
theorem Mid.skip{wd:Nat}{ws:List ByteArray}{bL bF i m:Nat}{w:World}(h:Mid wd ws bL bF i m w)(h1:¬(m=0\/fOf wd (ws.drop i) (m+1)<=q9c (fOf wd (ws.drop i)) m)):Mid wd ws bL bF i (m+1) w:=by
 refine⟨h.l,fun _=>?_⟩;rw[q9c,j0y,if_neg h1,if_neg h1];exact h.c (by omega)
theorem Mid.put{wd:Nat}{ws:List ByteArray}{bL bF i m:Nat}{w:World}(h:Mid wd ws bL bF i m w)(hi:i<ws.length)(h1:m=0\/fOf wd (ws.drop i) (m+1)<=q9c (fOf wd (ws.drop i)) m):
  Mid wd ws bL bF i (m+1) ((w.setCell ⟨bL,i,none⟩ (.int .i64 ((fOf wd (ws.drop i) (m+1):Nat):Int))).setCell ⟨bF,i,none⟩ (.int .i64 ((m:Int)+1))):=by
 have ne:=h.l.ne;refine⟨⟨ne,h.l.rl.set.set,h.l.rf.set.set,fun j a b=>?_,fun j a b=>?_⟩,fun _=>?_⟩
 ·exact(cso (.inl (Ne.symm ne))).trans ((cso (.inr (by omega))).trans (h.l.cl j a b))
 ·exact(cso (.inr (by omega))).trans ((cso (.inl ne)).trans (h.l.cf j a b))
 ·rw[q9c,j0y,if_pos h1,if_pos h1];obtain⟨y1,e1⟩:=h.l.rl.cell (i:=i) (by omega);obtain⟨y2,e2⟩:=h.l.rf.cell (i:=i) hi;exact⟨(cso (.inl (Ne.symm ne))).trans (css e1),css ((cso (.inl ne)).trans e2)⟩
theorem Mid.done{wd:Nat}{ws:List ByteArray}{bL bF i m:Nat}{w:World}(h:Mid wd ws bL bF i m w)(hi:i<ws.length)(hm:m=ws.length-i):Lst wd ws bL bF i w:=by
 have hne:ws.drop i≠[]:=fun e=>by
  have:=congrArg List.length e
  rw[List.length_drop,List.length_nil]at this;omega
 obtain⟨c1,c2⟩:=h.c (by omega);refine⟨h.l.ne,h.l.rl,h.l.rf,fun j a b=>?_,fun j a b=>?_⟩
 ·by_cases e:j=i
  ·subst e;rw[z3m wd hne,List.length_drop,<-hm];exact c1
  ·exact h.l.cl j (by omega) b
 ·by_cases e:j=i
  ·subst e;rw[agF,List.length_drop,<-hm];exact c2
  ·exact h.l.cf j (by omega) b
theorem j3l(wd:Nat)(ws:List ByteArray)(i k:Nat):fOf wd (ws.drop i) k=bd (ln ((ws.drop i).take k)) wd (k==ws.length-i)+best wd (ws.drop (i+k)):=by
 rw[fOf,List.drop_drop,List.length_drop]
end Go.Proofs.YthjapabokcajhaaGreatDoor
