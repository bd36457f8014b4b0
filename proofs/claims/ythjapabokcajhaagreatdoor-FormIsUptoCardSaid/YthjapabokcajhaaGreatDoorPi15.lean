/- Texts as one: DocA, DocB, DocC, FlatF, FlatG, Pn1, Pn2, Sk4. -/
import Derived.Test.YthjapabokcajhaaGreatDoorPi14
import Derived.Test.YthjapabokcajhaaGreatDoorPi13
open Go.Proofs.Tryz
namespace Go.Proofs.YthjapabokcajhaaGreatDoor
open Go Go.RowKit
set_option maxRecDepth 100000
set_option maxHeartbeats 4000000
theorem k8n(op:Int)(w:World):Calls prog 142 #[.int .i64 op] w fun e w'=>e=.returned (.int .i64 (pts op))/\w=w':=by
 by_cases h6:op=6
 ·subst h6;go_in;go_wp2;go_ret;exact⟨rfl,rfl⟩
 by_cases h9:op=9
 ·subst h9;go_in;go_wp2;go_ret;exact⟨rfl,rfl⟩
 by_cases h7:op=7
 ·subst h7;go_in;go_wp2;go_ret;exact⟨rfl,rfl⟩
 by_cases h8:op=8
 ·subst h8;go_in;go_wp2;go_ret;exact⟨rfl,rfl⟩
 have e:pts op=0:=by simp[pts,h6,h7,h8,h9]
 rw[e];have g6:(op==6)=false:=by simp[h6]
 have g7:(op==7)=false:=by simp[h7]
 have g8:(op==8)=false:=by simp[h8]
 have g9:(op==9)=false:=by simp[h9]
 clear e h6 h7 h8 h9;go_in;go_wp2;go_ret;exact⟨rfl,rfl⟩
theorem z6n(s:ByteArray)(w:World):Calls prog 141 #[.string s] w fun e w'=>e=.returned (.bool (isW s))/\w=w':=by
 by_cases h1:(s.size:Int)<1
 ·have e:isW s=false:=by simp[isW];omega
  rw[e];clear e;go_in;go_wp2;go_ret;exact⟨rfl,rfl⟩
 by_cases h2:20<(s.size:Int)
 ·have e:isW s=false:=by simp[isW];omega
  rw[e];clear e;go_in;go_wp2;go_ret;exact⟨rfl,rfl⟩
 go_in;go_wp2
 go_loopw [14] (fun i wr=>wr=w/\∃k:Nat,k<=s.size/\i=.int .i64 k/\∀j(h:j<s.size),j<k->q5x s[j]=true) (fun i _=>s.size-(intOf i).toNat)
 case atStart=>exact⟨rfl,0,Nat.zero_le _,rfl,fun j _ hj=>by omega⟩
 case round=>
  obtain⟨rfl,k,hk,rfl,hall⟩:=hrel;have HA:Hid (∀j(h:j<s.size),j<k->q5x s[j]=true):=hall;clear hall;by_cases hlt:k<s.size
  ·cases hb:q5x s[k]with
   | false=>
    have HE:Hid (isW s=false):=v9x hlt hb;have hc:=k5e hb;clear hb;rcases hc with hc|⟨hc,hd⟩
    ·go_wp2;go_ret;exact⟨by rw[HE.o];rfl,rfl⟩
    ·go_wp2;go_ret;exact⟨by rw[HE.o];rfl,rfl⟩
   | true=>
    have HB:Hid (q5x s[k]=true):=hb;obtain⟨hc,hd⟩:=j0s hb;clear hb;go_wp2
    go_roundw
    case rel=>
     refine⟨by trivial,k+1,by omega,by go_num,?_⟩;intro j h hj;by_cases hjk:j=k
     ·subst hjk;exact HB.o
     ·exact HA.o j h (by omega)
    case measure=>simp[intOf];omega
  ·have HE:Hid (isW s=true):=v2r (by omega) (by omega) fun j h=>HA.o j h (by omega)
   go_wp2;go_ret;exact⟨by rw[HE.o];rfl,rfl⟩
theorem z0b(x:Nd)(w:World):Calls prog 87 #[y9g x] w fun e w'=>e=.returned (q1y (q1c x))/\Below w w w':=by
 obtain⟨op,tx,n⟩:=x;by_cases h1:op<1
 ·have e:q1c ⟨op,tx,n⟩=1:=by simp[q1c,h1]
  rw[e,z6k];clear e;go_in;go_wp2;go_ret;exact⟨rfl,Zb.alloc Zl _⟩
 by_cases h2:9<op
 ·have e:q1c ⟨op,tx,n⟩=1:=by simp[q1c,h2]
  rw[e,z6k];clear e;go_in;go_wp2;go_ret;exact⟨rfl,Zb.alloc Zl _⟩
 rcases y9i h1 h2 with rfl|rfl|rfl|rfl|rfl|rfl|rfl|rfl|rfl
 case inl=>
  clear h1 h2;by_cases hn:n=0
  ·subst hn;cases hw:isW tx with
   | false=>
    have e:q1c ⟨1,tx,0⟩=5:=by simp[q1c,hw]
    rw[e,v6q];clear e;go_in;go_wp2_with(go_at_call 141;refine(z6n _ _).mono ?_;rintro e w'⟨rfl,rfl⟩);go_ret;exact⟨rfl,Zb.alloc Zl _⟩
   | true=>
    have e:q1c ⟨1,tx,0⟩=0:=by simp[q1c,hw]
    rw[e,q1m];clear e;go_in;go_wp2_with(go_at_call 141;refine(z6n _ _).mono ?_;rintro e w'⟨rfl,rfl⟩);go_ret;exact⟨rfl,Zb.alloc Zl _⟩
  ·have e:q1c ⟨1,tx,n⟩=2:=by simp[q1c,hn]
   rw[e,k0p];have hn':(n != 0)=true:=by simp[hn]
   clear e hn;go_in;go_wp2;go_ret;exact⟨rfl,Zb.alloc Zl _⟩
 case inr.inr.inr.inr.inr.inr.inl=>
  clear h1 h2;by_cases hs:tx.size=0
  ·obtain rfl:=k2i hs;by_cases hn:n<0
   ·have e:q1c ⟨7,⟨#[]⟩,n⟩=1:=by simp[q1c,hn,hs]
    rw[e,z6k];clear e hs;go_in;go_wp2;go_ret;exact⟨rfl,Zb.alloc Zl _⟩
   by_cases hm:8<n
   ·have e:q1c ⟨7,⟨#[]⟩,n⟩=1:=by simp[q1c,hm,hs]
    rw[e,z6k];clear e hs;go_in;go_wp2;go_ret;exact⟨rfl,Zb.alloc Zl _⟩
   have e:q1c ⟨7,⟨#[]⟩,n⟩=0:=by simp[q1c,hn,hm,hs]
   rw[e,q1m];clear e hs;go_in;go_wp2;go_ret;exact⟨rfl,Zb.alloc Zl _⟩
  ·have e:q1c ⟨7,tx,n⟩=2:=by simp[q1c,hs]
   rw[e,k0p];have hs':=j8l hs;clear e hs;go_in;go_wp2;go_ret;exact⟨rfl,Zb.alloc Zl _⟩
 all_goals
  clear h1 h2;by_cases hs:tx.size=0
  ·obtain rfl:=k2i hs;by_cases hn:n=0
   ·subst hn;rw[show ∀k:Int,k=0->q1y k=.nilIface from fun k hk=>by rw[hk];rfl]
    ·clear hs;go_in;go_wp2;go_ret;exact⟨rfl,Zb.alloc Zl _⟩
    ·simp[q1c,hs]
   ·have hn':(n != 0)=true:=by simp[hn]
    rw[show ∀k:Int,k=2->q1y k=.iface 23 (.int .i64 2)from fun k hk=>by rw[hk];rfl]
    ·clear hs hn;go_in;go_wp2;go_ret;exact⟨rfl,Zb.alloc Zl _⟩
    ·simp[q1c,hn]
  ·have hs':=j8l hs;rw[show ∀k:Int,k=2->q1y k=.iface 23 (.int .i64 2)from fun k hk=>by rw[hk];rfl]
   ·clear hs;go_in;go_wp2;go_ret;exact⟨rfl,Zb.alloc Zl _⟩
   ·simp[q1c,hs]
theorem z6h(ds:List Nd)(a:Option Addr)(cap i0:Nat)(w:World)(hN:q1u w a ds)(hl:ds.length<=400)(hi:i0<=ds.length):
  Calls prog 88 #[.slice a ds.length cap,.int .i64 i0] w fun e w'=>((∃j:Nat,q0v ds i0 1=some j/\e=.returned (.tuple #[.int .i64 j,.bool true]))\/(q0v ds i0 1=none/\e=.returned (.tuple #[.int .i64 ds.length,.bool false])))/\w=w':=by
 have HN:Hid (q1u w a ds):=hN;clear hN;go_in;go_wp2
 go_loopw [1,6] (fun i m wr=>wr=w/\∃k q:Nat,k<=ds.length/\q<=k+1/\i=.int .i64 k/\m=.int .i64 q/\q0v ds i0 1=q0v ds k q) (fun i _ _=>ds.length-(intOf i).toNat)
 case atStart=>exact⟨rfl,i0,1,hi,by omega,rfl,rfl,rfl⟩
 case round=>
  obtain⟨rfl,k,q,hk,hq,rfl,rfl,he⟩:=hrel;have HE:Hid (q0v ds i0 1=q0v ds k q):=he;clear he;by_cases h0:q=0
  ·subst h0;have HE':Hid (q0v ds i0 1=some k):=HE.o.trans (z6j _ _);go_wp2;go_ret2;exact⟨.inl ⟨k,HE'.o,rfl⟩,rfl⟩
  ·obtain⟨q',rfl⟩:∃q',q=q'+1:=⟨q-1,by omega⟩;by_cases hlt:k<ds.length
   ·obtain⟨b,o,ea,hb,c1,c2,c3⟩:=HN.o k hlt;have HS:Hid (q0v ds i0 1=q0v ds (k+1) (pts ds[k].op+q')):=HE.o.trans (z6i _ _ _ hlt);have hp:=j8e ds[k].op;subst ea;clear c2 c3 h0;go_wp2_with(go_at_call 142;refine(k8n _ _).mono ?_;rintro e w'⟨rfl,rfl⟩)
    go_roundw
    case rel=>
     exact⟨by trivial,k+1,pts ds[k].op+q',by omega,by omega,by go_num,by go_num,HS.o⟩
    case measure=>simp[intOf];omega
   ·have hkk:k=ds.length:=by omega
    subst hkk;have HE':Hid (q0v ds i0 1=none):=HE.o.trans (k0n _ _ _ (by omega));go_wp2;go_ret2;exact⟨.inr ⟨HE'.o,rfl⟩,rfl⟩
theorem z3t{ds:List Nd}{i0 j:Nat}(a:Option Addr)(cap:Nat)(w:World)(hN:q1u w a ds)(hl:ds.length<=400)(hi:i0<=ds.length)(h:q0v ds i0 1=some j):
  Calls prog 88 #[.slice a ds.length cap,.int .i64 i0] w fun e w'=>e=.returned (.tuple #[.int .i64 j,.bool true])/\w=w':=
 (z6h ds a cap i0 w hN hl hi).mono fun e w'⟨h1,h2⟩=>⟨by
  rcases h1 with⟨j',e1,e2⟩|⟨e1,_⟩
  ·rw[h]at e1;cases e1;exact e2
  ·rw[h]at e1;(cases e1),h2⟩
theorem k3l{ds:List Nd}{i0:Nat}(a:Option Addr)(cap:Nat)(w:World)(hN:q1u w a ds)(hl:ds.length<=400)(hi:i0<=ds.length)(h:q0v ds i0 1=none):
  Calls prog 88 #[.slice a ds.length cap,.int .i64 i0] w fun e w'=>e=.returned (.tuple #[.int .i64 ds.length,.bool false])/\w=w':=
 (z6h ds a cap i0 w hN hl hi).mono fun e w'⟨h1,h2⟩=>⟨by
  rcases h1 with⟨j',e1,e2⟩|⟨_,e2⟩
  ·rw[h]at e1;cases e1
  ·exact e2,h2⟩
theorem q3b(ds:List Nd)(a:Option Addr)(cap:Nat)(w:World)(hN:q1u w a ds):
  Calls prog 48 #[.slice a ds.length cap] w fun e w'=>e=.returned (q1y (q3c ds))/\Below w w w':=by
 have HN:Hid (q1u w a ds):=hN;clear hN;by_cases h4:400<(ds.length:Int)
 ·rw[j3d (by omega),k5z];go_in;go_wp2;go_ret;exact⟨rfl,Below.refl _ _⟩
 ·have hl:ds.length<=400:=by omega
  go_in;go_wp2
  go_loopw [14] (fun i wr=>Below w w wr/\∃k:Nat,k<=ds.length/\i=.int .i64 k/\∀x∈ds.take k,q1c x=0) (fun i _=>ds.length-(intOf i).toNat)
  case atStart=>exact⟨Below.refl _ _,0,Nat.zero_le _,rfl,by simp⟩
  case round=>
   obtain⟨hB,k,hk,rfl,hall⟩:=hrel;have HA:Hid (∀x∈ds.take k,q1c x=0):=hall;have HM:Hid (q1u wr a ds):=HN.o.below hB;clear hall;by_cases hlt:k<ds.length
   ·obtain⟨b,o,ea,hb,c1,c2,c3⟩:=HM.o k hlt;subst ea;by_cases h0:q1c ds[k]=0
    ·have H0:Hid (q1c ds[k]=0):=h0;clear h0;go_wp2_with fail;refine(z0b ds[k] _).mono ?_;rintro e w2⟨rfl,hb2⟩;rw[H0.o,q1m];have hB2:=z6b hB Zl hb2;clear hb2;go_wp2
     go_roundw
     case rel=>exact⟨hB2,k+1,by omega,by go_num,j9a hlt HA.o H0.o⟩
     case measure=>simp[intOf];omega
    ·have H0:Hid (q1c ds[k]≠0):=h0;clear h0;go_wp2_with fail;refine(z0b ds[k] _).mono ?_;rintro e w2⟨rfl,hb2⟩;rw[q0w H0.o];have hB2:=z6b hB Zl hb2;clear hb2;go_wp2;go_ret;refine⟨?_,hB2⟩;rw[j3e hl hlt HA.o H0.o,q0w H0.o];rfl
   ·have HF:Hid (q3c ds=if q0v ds 0 1=some ds.length then 0 else 2):=v1u hl (v5f hlt HA.o);cases he:q0v ds 0 1 with
    | none=>
     have HE:Hid (q0v ds 0 1=none):=he;clear he;go_wp2_with fail;refine(k3l a cap _ HM.o hl (Nat.zero_le _) HE.o).mono ?_;rintro e w2⟨rfl,rfl⟩;go_wp2;go_ret;refine⟨?_,hB⟩;rw[HF.o,HE.o,if_neg (by simp),k0p];rfl
    | some j=>
     have HE:Hid (q0v ds 0 1=some j):=he;clear he;by_cases hj:j=ds.length
     ·subst hj;go_wp2_with fail;refine(z3t a cap _ HM.o hl (Nat.zero_le _) HE.o).mono ?_;rintro e w2⟨rfl,rfl⟩;go_wp2;go_ret;refine⟨?_,hB⟩;rw[HF.o,HE.o,if_pos rfl,q1m];rfl
     ·have hj':((j:Int) != (ds.length:Int))=true:=by simp;omega
      go_wp2_with fail;refine(z3t a cap _ HM.o hl (Nat.zero_le _) HE.o).mono ?_;rintro e w2⟨rfl,rfl⟩;go_wp2;go_ret;refine⟨?_,hB⟩;rw[HF.o,HE.o,if_neg (by simp[hj]),k0p];rfl
theorem v2l(ds:List Nd)(a:Option Addr)(cap:Nat)(w:World)(hN:q1u w a ds)(h:q3c ds≠0):
  Calls prog 188 #[.slice a ds.length cap] w fun e w'=>e=.returned (.tuple #[.string ⟨#[]⟩,.bool false,q1y (q3c ds)])/\Below w w w':=by
 have HN:Hid (q1u w a ds):=hN;have H:Hid (q3c ds≠0):=h;rw[q0w h];clear hN h;go_in;go_wp2_with fail;refine(q3b ds a cap _ HN.o).mono ?_;rintro e w2⟨rfl,hB⟩;rw[q0w H.o];go_wp2;go_ret3;exact⟨rfl,hB⟩
theorem j3x(ds:List Nd)(t:Tr)(hd:ds=t.nodes)(ht:t.Wf)(hl:ds.length<=400)(a:Option Addr)(cap:Nat)(hc:ds.length<=cap)(w:World)(hN:q1u w a ds):
  Calls prog 188 #[.slice a ds.length cap] w fun e w'=>e=.returned (.tuple #[.string t.line,.bool t.isFlat,.nilIface])/\Below w w w':=by
 have HN:Hid (q1u w a ds):=hN;have H:Hid (q3c ds=0):=(show q3c ds=0 by rw[hd];exact z1b ht (by rw[<-hd];exact hl));have HD:Hid (ds=t.nodes):=hd;have H0:Hid (ds≠[]):=(show ds≠[] by have:=t.pos;rw[<-hd]at this;exact List.length_pos_iff.1 this);clear hN hd;cases hk:t.brk
 case' true=>obtain⟨q1,q2⟩:=j4p hk
 case' false=>obtain⟨q1,q2⟩:=j4o hk
 all_goals
  rw[q1,q2];have HK:=(show Hid (t.brk=_)from hk);clear hk q1 q2;go_in;go_wp2_with fail;refine(q3b ds a cap _ HN.o).mono ?_;rintro e w2⟨rfl,hB⟩;rw[H.o,q1m];have HB:Hid (Below w w w2):=hB;obtain⟨s,hs,hns⟩:=(HN.o.below hB).s H0.o;have HM:Hid (q1a s w2 a ds):=hns;clear hB hns;go_wp2_with fail;refine(q5c t ht w2.heap.size w2.heap.size s ds [] a cap [] false _ (by rw[HD.o];simp) (HM.o.kept (Below.heap_alloc _ _ _ hs)) hs (by omega) hc (IsX.fresh 285 w2 [.bool false]) (by simp) (by simp;omega)).mono ?_;rintro e w3⟨⟨a3,cap3,rfl,_,_⟩,hw3,hb3,_⟩;have hB3:Below w w w3:=HB.o.trans ((((Below.refl _ w2).alloc Zl _).trans (hb3.below Zl)).mono HB.o.size);rw[Bool.false_or,List.nil_append]at hw3;have HW3:Hid (Ln w2.heap.size w2.heap.size t.laid t.brk w3):=hw3;have g1:=hw3.cell;rw[HK.o]at g1;clear hw3
 ·go_wp2_with fail;refine(k7y 285 w2.heap.size w2.heap.size t.laid [.bool t.brk] w3 HW3.o).mono ?_;rintro e w4⟨rfl,hb4⟩;go_wp2;go_ret3;exact⟨rfl,hB3.trans (hb4.mono HB.o.size)⟩
 ·go_wp2;go_ret3;exact⟨rfl,hB3⟩
theorem v2k(ds:List Nd)(a:Option Addr)(cap:Nat)(hc:ds.length<=cap)(w:World)(hN:q1u w a ds):
  Calls prog 188 #[.slice a ds.length cap] w fun e w'=>e=.returned (.tuple #[.string (flS ds),.bool (flB ds),q1y (q3c ds)])/\Below w w w':=by
 by_cases h:q3c ds=0
 ·obtain⟨hl,_,_⟩:=q4z h;obtain⟨e0,e1,e2⟩:=j3w (q9f h) (q3s h) hl;rw[e1,e2,h,q1m];exact j3x ds _ (q3s h) (q9f h) hl a cap hc w hN
 ·obtain⟨e1,e2⟩:=y3y h;rw[e1,e2];exact v2l ds a cap w hN h
theorem j4a(ds:List Nd)(a:Option Addr)(cap:Nat)(hc:ds.length<=cap)(w:World)(hN:q1u w a ds):
  Calls prog 194 #[.slice a ds.length cap] w fun e w'=>e=.returned (.tuple #[.int .i64 (flS ds).size,.bool (flB ds),q1y (q3c ds)])/\Below w w w':=by
 have HN:Hid (q1u w a ds):=hN;clear hN;generalize hs:flS ds=s;generalize hb:flB ds=b;generalize he:q1y (q3c ds)=v;have H:Hid (flS ds=s/\flB ds=b/\q1y (q3c ds)=v):=⟨hs,hb,he⟩;clear hs hb he;go_in;go_wp2_with fail;refine(v2k ds a cap hc _ HN.o).mono ?_;rintro e w2⟨rfl,hB⟩;rw[H.o.1,H.o.2.1,H.o.2.2];go_wp2;go_ret3;exact⟨rfl,hB⟩
theorem j2c(ds:List Nd)(t:Tr)(hd:ds=t.nodes)(ht:t.Wf)(hl:ds.length<=400)(a:Option Addr)(cap:Nat)(hc:ds.length<=cap)(w:World)(hN:q1u w a ds):
  Calls prog 162 #[.slice a ds.length cap] w fun e w'=>e=.returned (.int .i64 (lgF t.flat))/\Below w w w':=by
 obtain⟨e0,e1,e2⟩:=j3w ht hd hl;have hcall:=j4a ds a cap hc w hN;rw[e0,e1,e2,q1m]at hcall;cases hf:t.flat with
 | none=>
  have e3:t.isFlat=false:=by simp[Tr.isFlat,hf]
  rw[e3]at hcall;have HC:Hid (Calls prog 194 #[.slice a ds.length cap] w fun e w'=>e=.returned (.tuple #[.int .i64 t.line.size,.bool false,.nilIface])/\Below w w w'):=hcall;clear hcall hN e0 e1 e2 e3 hd hf;rw[lgF];go_in;go_wp2_with fail;refine HC.o.mono ?_;rintro e w2⟨rfl,hb⟩;go_wp2;go_ret;exact⟨rfl,hb⟩
 | some s=>
  have e3:t.isFlat=true:=by simp[Tr.isFlat,hf]
  have e4:t.line.size=s.length:=by rw[q7x,hf];rfl
  rw[e3,e4]at hcall;have HC:Hid (Calls prog 194 #[.slice a ds.length cap] w fun e w'=>e=.returned (.tuple #[.int .i64 s.length,.bool true,.nilIface])/\Below w w w'):=hcall;clear hcall hN e0 e1 e2 e3 e4 hd hf;rw[lgF];go_in;go_wp2_with fail;refine HC.o.mono ?_;rintro e w2⟨rfl,hb⟩;go_wp2;go_ret;exact⟨rfl,hb⟩
theorem y3g.pr{g n j:Nat}{F:Nat->Q}{x y:Int}{w w':World}(h:y3g g (j*7+4) (j*7+5) (.int .i64 x) (.int .i64 y) w w')(hp:PwR w g n F)(hj:j<n):PwR w' g n (upd F j {F j with nx:=x,dp:=y}):=by
 have h1:=(hp.putNx hj x).putDp hj y;rw[z9r,q0n]at h1;exact h1.kept (by rw[h.2.2.2])
theorem y3g.belX{g a b:Nat}{e f:Value}{w w':World}(h:y3g g a b e f w w')(B:Nat):q0u B g w w':=
 ⟨h.1,h.2.1,h.2.2.1,by rw[h.2.2.2];simp[World.setCell],fun k _ hk=>by rw[h.2.2.2,Below.heap_setCell _ _ _ _ hk,Below.heap_setCell _ _ _ _ hk]⟩
theorem z0a(bp g n i:Nat)(x y:Int)(F:Nat->Q)(w:World)(hi:i<n)(c0:w.cell? ⟨bp,0,none⟩=some (.slice (some ⟨g,0,none⟩) n n))(hp:PwR w g n F):
  Calls prog 193 #[.pointer (some ⟨bp,0,none⟩),.int .i64 i,.int .i64 x,.int .i64 y] w fun e w'=>e=.returned (.tuple #[])/\PwR w' g n (upd F i {F i with nx:=x,dp:=y})/\q0u w g w w':=by
 have k:=hp.get i hi;refine(j2l bp g n i x y w (by omega) c0 _ _ k.c4 k.c5 hp.row.frozen hp.row.frozen).mono ?_;rintro e w2⟨rfl,h⟩;exact⟨rfl,h.pr hp hi,h.belX _⟩
theorem v1k(bp g n i:Nat)(F:Nat->Q)(w:World)(hi:i<n)(c0:w.cell? ↑bp=some (.slice ↑g n n))(hp:PwR w g n F)
  (h6:((F i).op==6)=false) (h9:((F i).op==9)=false) (h7:((F i).op==7)=false) (h8:((F i).op==8)=false):
  Calls prog 161 #[.pointer (some ⟨bp,0,none⟩),.int .i64 i] w fun e w'=>e=.returned (.tuple #[])/\PwR w' g n F/\q0u w g w w':=by
 obtain⟨d0,d1,d2,d3,d4,d5,d6⟩:=hp.get i hi;have hiI:(i:Int)<n:=by omega
 have hp0:(0:Int)<=(i:Int):=by omega
 have HP:=hid hp;clear hp hi;generalize F i=q at *;go_in;go_wp2
 go_end0
 have hb:Below w w (w.alloc (.cells #[q.op,.string q.tx,q.n,q.en,q.nx,q.dp,q.lg] 222)):= Zb.alloc Zl _;exact⟨rfl,HP.o.kept (hb.block g HP.o.row.lt),q0u.of hb⟩
abbrev q5s(q:Q):Obj:=.cells #[.int .i64 q.op,.string q.tx,.int .i64 q.n,.int .i64 q.en,.int .i64 q.nx,.int .i64 q.dp,.int .i64 q.lg] 222
theorem v9c(bp g n i:Nat)(F:Nat->Q)(w:World)(hn:n<=400)(hi1:i+1<n)(c0:w.cell? bp=some (.slice g n n))(hp:PwR w g n F)
  (hop:(F i).op=7\/(F i).op=8) (x:Int) (hx:IntKind.i64.wrap ((F i).dp+(F i).n)=x):
  Calls prog 161 #[.pointer (some ⟨bp,0,none⟩),.int .i64 i] w fun e w'=>e=.returned (.tuple #[])/\PwR w' g n (upd F (i+1) {F (i+1)with nx:=(F i).nx,dp:=x})/\q0u w g w w':=by
 obtain⟨d0,d1,d2,d3,d4,d5,d6⟩:=hp.get i (by omega);have hiI:(i:Int)<n:=by omega
 have hp0:(0:Int)<=(i:Int):=by omega
 have hw1:=z5k hn hiI;have HP:=hid hp;have HC:=hid c0;have HF:Hid (∃q,F i=q):=⟨_,rfl⟩;clear hp;generalize F i=q at *;have hlt:=HP.o.row.lt;rcases hop with e|e
 all_goals
  rw[e]at d0;go_in;go_wp2_with fail;refine(z0a bp g n (i+1) q.nx x F _ hi1 (ka HC.o _) (HP.o.kept (Below.heap_alloc _ _ _ hlt))).mono ?_;rintro e w2⟨rfl,h2,hb2⟩;go_wp2
  go_end0
  exact⟨rfl,h2,(q0u.of ((Below.refl _ w).alloc Zl _)).trans (hb2.mono (by simp))⟩
theorem v9d(bp g n i j:Nat)(F:Nat->Q)(w:World)(hn:n<=400)(hi1:i+1<n)(hj:j<n)(hbg:bp≠g)(c0:w.cell? bp=some (.slice g n n))(hp:PwR w g n F)
  (hop:(F i).op=6) (hen:(F (i+1)).en=(j:Int)):
  Calls prog 161 #[.pointer (some ⟨bp,0,none⟩),.int .i64 i] w fun e w'=>e=.returned (.tuple #[])/\PwR w' g n (upd (upd F (i+1) {F (i+1)with nx:=j,dp:=(F i).dp}) j {upd F (i+1) {F (i+1)with nx:=j,dp:=(F i).dp} j with nx:=(F i).nx,dp:=(F i).dp})/\q0u w g w w':=by
 obtain⟨d0,d1,d2,d3,d4,d5,d6⟩:=hp.get i (by omega);have k3:=(hp.get (i+1) hi1).c3;rw[hen]at k3;have hiI:(i:Int)<n:=by omega
 have hi1I:(i:Int)+1<n:=by omega
 have hp0:(0:Int)<=(i:Int):=by omega
 have hp1:(0:Int)<=(i:Int)+1:=by omega
 have htn:((i:Int)+1).toNat=i+1:=by omega
 have hw1:=z5k hn hiI;have HP:=hid hp;have hlt:=HP.o.row.lt;have hltb:=World.block_lt_of_cell? w bp c0;have HC:=hid c0;have k3':∀O,(w.alloc O).cell? (g,(i+1)*7+3)=some ↑(j:Int):=fun O=>ka k3 O
 have c0':∀O,(w.alloc O).cell? bp=some (.slice g n n):=fun O=>ka c0 O
 rw[hop]at d0;have HE:=hid hen;clear hp hen k3 hop;generalize F i=q at *;go_in;go_wp2_with fail;refine(z0a bp g n (i+1) j q.dp F _ hi1 (c0' _) (HP.o.kept (Below.heap_alloc _ _ _ hlt))).mono ?_;rintro e w2⟨rfl,h2,hb2⟩;have b4:w2.cell? (w.heap.size,4)=some ↑q.nx:=(hb2.cell (p:=(w.heap.size,4)) (by simp) (by simp;omega)).trans (by simp[go_sem]);have b5:w2.cell? (w.heap.size,5)=some ↑q.dp:=(hb2.cell (p:=(w.heap.size,5)) (by simp) (by simp;omega)).trans (by simp[go_sem]);have c2:=(hb2.cell (p:=bp) (by simp;omega) hbg).trans (c0' _);have HP2:=hid h2;have HB2:=hid ((q0u.of ((Below.refl _ w).alloc Zl _)).trans (hb2.mono (by simp)));clear h2 hb2;go_wp2_with fail;refine(z0a bp g n j q.nx q.dp _ _ hj c2 HP2.o).mono ?_;rintro e w3⟨rfl,h3,hb3⟩;go_wp2
 go_end0
 exact⟨rfl,h3,HB2.o.trans (hb3.mono HB2.o.size)⟩
theorem v1l(bp g n i j:Nat)(F:Nat->Q)(w:World)(hn:n<=400)(hi1:i+1<n)(hj:j<n)(hbg:bp≠g)(c0:w.cell? bp=some (.slice g n n))(hp:PwR w g n F)
  (hop:(F i).op=9) (hen:(F (i+1)).en=(j:Int)):
  Calls prog 161 #[.pointer (some ⟨bp,0,none⟩),.int .i64 i] w fun e w'=>e=.returned (.tuple #[])/\PwR w' g n (upd (upd F (i+1) {F (i+1)with nx:=(F i).nx,dp:=(F i).dp}) j {upd F (i+1) {F (i+1)with nx:=(F i).nx,dp:=(F i).dp} j with nx:=(F i).nx,dp:=(F i).dp})/\q0u w g w w':=by
 obtain⟨d0,d1,d2,d3,d4,d5,d6⟩:=hp.get i (by omega);have hiI:(i:Int)<n:=by omega
 have hi1I:(i:Int)+1<n:=by omega
 have hp0:(0:Int)<=(i:Int):=by omega
 have hp1:(0:Int)<=(i:Int)+1:=by omega
 have htn:((i:Int)+1).toNat=i+1:=by omega
 have hw1:=z5k hn hiI;have HP:=hid hp;have hlt:=HP.o.row.lt;have hltb:=World.block_lt_of_cell? w bp c0;have c0':∀O,(w.alloc O).cell? bp=some (.slice g n n):=fun O=>ka c0 O
 rw[hop]at d0;have HE:=hid hen;clear hp hen hop;generalize F i=q at *;go_in;go_wp2_with fail;refine(z0a bp g n (i+1) q.nx q.dp F _ hi1 (c0' _) (HP.o.kept (Below.heap_alloc _ _ _ hlt))).mono ?_;rintro e w2⟨rfl,h2,hb2⟩;have b4:w2.cell? (w.heap.size,4)=some ↑q.nx:=(hb2.cell (p:=(w.heap.size,4)) (by simp) (by simp;omega)).trans (by simp[go_sem]);have b5:w2.cell? (w.heap.size,5)=some ↑q.dp:=(hb2.cell (p:=(w.heap.size,5)) (by simp) (by simp;omega)).trans (by simp[go_sem]);have c2:=(hb2.cell (p:=bp) (by simp;omega) hbg).trans (c0' _)
 have k3:w2.cell? (g,(i+1)*7+3)=some ↑(j:Int):=by
  have:=(h2.get (i+1) hi1).c3
  rw[q0n]at this;rw[<-HE.o];exact this
 have HP2:=hid h2;have HB2:=hid ((q0u.of ((Below.refl _ w).alloc Zl _)).trans (hb2.mono (by simp)));have hs2:w.heap.size<w2.heap.size:=by have:=hb2.size;simp at this;omega
 have hKb:∀w3,q0u w2.drew.heap.size g w2.drew w3->w3.cell? bp=some (.slice g n n):=fun w3 h=>(h.cell (p:=bp) (by simp;omega) hbg).trans c2
 have hK4:∀w3,q0u w2.drew.heap.size g w2.drew w3->w3.cell? ⟨w.heap.size,4,none⟩=some (.int .i64 q.nx):=fun w3 h=>(h.cell (p:=⟨w.heap.size,4,none⟩) hs2 (by simp;omega)).trans b4
 have hK5:∀w3,q0u w2.drew.heap.size g w2.drew w3->w3.cell? ⟨w.heap.size,5,none⟩=some (.int .i64 q.dp):=fun w3 h=>(h.cell (p:=⟨w.heap.size,5,none⟩) hs2 (by simp;omega)).trans b5
 have hK3:∀w3,PwR w3 g n (upd (upd F (i+1) {F (i+1)with nx:=q.nx,dp:=q.dp}) j {upd F (i+1) {F (i+1)with nx:=q.nx,dp:=q.dp} j with nx:=q.nx,dp:=q.dp})->w3.cell? (g,(i+1)*7+3)=some ↑(j:Int):=fun w3 h=>by
  have:=(h.get (i+1) hi1).c3
  rw[<-HE.o];by_cases e:i+1=j
  ·subst e;rw[q0n,q0n]at this;exact this
  ·rw[q1j e,q0n]at this;exact this
 clear h2 hb2;go_wp2_with fail
 go_region_held3 (fun w'=>w'.cell? bp=some (.slice g n n)/\w'.cell? (g,(i+1)*7+3)=some ↑(j:Int)/\w'.cell? (w.heap.size,4)=some ↑q.nx/\w'.cell? (w.heap.size,5)=some ↑q.dp)
  (first|exact⟨c2,k3,b4,b5⟩|exact⟨hKb _ hb3,hK3 _ h3,hK4 _ hb3,hK5 _ hb3⟩) ((go_at_call 193;refine(z0a bp g n j q.nx q.dp _ w2.drew hj c2 (HP2.o.kept rfl)).mono ?_;rintro e w3⟨rfl,h3,hb3⟩))
 all_goals
  go_wp2
  go_end0
  exact⟨rfl,h3,HB2.o.drew.trans (hb3.mono HB2.o.size)⟩
structure ChB(w wx:World)(i c:Nat)(q:Q):Prop where
 a0:wx.cell? ⟨w.heap.size,0,none⟩=some (.int .i64 i)
 a1:wx.cell? ⟨w.heap.size,1,none⟩=some (.int .i64 c)
 r0:wx.cell? ⟨w.heap.size+1,0,none⟩=some (.int .i64 0)
 r1:wx.cell? ⟨w.heap.size+1,1,none⟩=some (.int .i64 0)
 r2:wx.cell? ⟨w.heap.size+1,2,none⟩=some (.int .i64 0)
 r3:wx.cell? ⟨w.heap.size+1,3,none⟩=some (.int .i64 0)
 r4:wx.cell? ⟨w.heap.size+1,4,none⟩=some (.int .i64 0)
 fr:q7p wx (w.heap.size+1)
 q0:wx.cell? ⟨w.heap.size+1+1,0,none⟩=some (.int .i64 q.op)
 q1:wx.cell? ⟨w.heap.size+1+1,1,none⟩=some (.string q.tx)
 q2:wx.cell? ⟨w.heap.size+1+1,2,none⟩=some (.int .i64 q.n)
 q3:wx.cell? ⟨w.heap.size+1+1,3,none⟩=some (.int .i64 q.en)
 q4:wx.cell? ⟨w.heap.size+1+1,4,none⟩=some (.int .i64 q.nx)
 q5:wx.cell? ⟨w.heap.size+1+1,5,none⟩=some (.int .i64 q.dp)
 q6:wx.cell? ⟨w.heap.size+1+1,6,none⟩=some (.int .i64 q.lg)
 lt:w.heap.size+1+1<wx.heap.size
theorem ChB.kept{w wx wy:World}{i c mb:Nat}{q:Q}(h:ChB w wx i c q)(hb:q0u wx mb wx wy)(hm:mb<w.heap.size):ChB w wy i c q:=by
 have hc:∀b o v,b≠mb->wx.cell? ⟨b,o,none⟩=some v->wy.cell? ⟨b,o,none⟩=some v:=fun b o v he hv=>(hb.cell (p:=⟨b,o,none⟩) (World.block_lt_of_cell? wx ⟨b,o,none⟩ hv) he).trans hv
 exact⟨hc _ _ _ (by omega) h.a0,hc _ _ _ (by omega) h.a1,hc _ _ _ (by omega) h.r0,hc _ _ _ (by omega) h.r1,hc _ _ _ (by omega) h.r2,hc _ _ _ (by omega) h.r3,hc _ _ _ (by omega) h.r4,h.fr.kept (hb.block _ h.fr.lt (by omega)),
  hc _ _ _ (by omega) h.q0,hc _ _ _ (by omega) h.q1,hc _ _ _ (by omega) h.q2,hc _ _ _ (by omega) h.q3,hc _ _ _ (by omega) h.q4,hc _ _ _ (by omega) h.q5,hc _ _ _ (by omega) h.q6,Nat.lt_of_lt_of_le h.lt hb.size⟩
theorem j2p{sb g mb wd i c:Nat}{R:List Pl}{S:Nat->Nat->Bool}{w w1:World}(h:Sk1 sb g mb wd i c R S w w1)(q:Q):ChB w (w1.alloc (q5s q)).drew i c q:=by
 have n1:=heap_alloc_new w1 (q5s q);rw[h.sz]at n1;have hc:∀o v,(w1.alloc (q5s q)).cell? ⟨w.heap.size+1+1,o,none⟩=v->(w1.alloc (q5s q)).drew.cell? ⟨w.heap.size+1+1,o,none⟩=v:=fun _ _ h=>h
 refine⟨ka h.a0 _,ka h.a1 _,ka h.r0 _,ka h.r1 _,ka h.r2 _,ka h.r3 _,ka h.r4 _,h.fr.kept (Below.heap_alloc _ _ _ h.fr.lt),hc _ _ ?_,hc _ _ ?_,hc _ _ ?_,hc _ _ ?_,hc _ _ ?_,hc _ _ ?_,hc _ _ ?_,?_⟩
 ·simp[World.cell?,n1,q5s]
 ·simp[World.cell?,n1,q5s]
 ·simp[World.cell?,n1,q5s]
 ·simp[World.cell?,n1,q5s]
 ·simp[World.cell?,n1,q5s]
 ·simp[World.cell?,n1,q5s]
 ·simp[World.cell?,n1,q5s]
 ·show w.heap.size+1+1<(w1.alloc (q5s q)).heap.size;simp[h.sz]
end Go.Proofs.YthjapabokcajhaaGreatDoor
