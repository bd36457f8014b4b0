/- Texts as one: LayFZ, DocA, DocB, DocC, FlatF, FlatG, Pn1. -/
import Derived.Test.YthjapabokcajhaaGreatDoorPf19
import Derived.Test.YthjapabokcajhaaGreatDoorPf04
import Derived.Test.YthjapabokcajhaaGreatDoorPf13
namespace Go.Proofs.YthjapabokcajhaaGreatDoor
open Go Go.RowKit
def Tr.laid:Tr->List UInt8
 | .leaf x=>if x.op=1 then x.tx.data.toList else if x.op=2 then [32]else []
 | .one _ a=>a.laid
 | .two x a b=>if x.op=6 then a.laid++b.laid else a.laid
def Tr.brk:Tr->Bool
 | .leaf x=>decide (x.op=4)
 | .one _ a=>a.brk
 | .two x a b=>if x.op=6 then a.brk||b.brk else a.brk
theorem q4u:∀t:Tr,t.flat=(if t.brk=true then none else some t.laid)
 | .leaf x=>by
  simp only[Tr.flat,Tr.brk,Tr.laid];by_cases h1:x.op=1
  ·simp[h1]
  ·by_cases h2:x.op=2
   ·simp[h2]
   ·by_cases h4:x.op=4
    ·simp[h4]
    ·simp[h1,h2,h4]
 | .one _ a=>q4u a
 | .two x a b=>by
  have h1:=q4u a;have h2:=q4u b;simp only[Tr.flat,Tr.brk,Tr.laid]
  split
  ·rw[h1,h2];cases a.brk<;>cases b.brk<;>simp
  ·exact h1
theorem z2m:∀t:Tr,t.Wf->t.laid.length<=20*t.nodes.length
 | .leaf x,h=>by
  obtain⟨_,_,_,_,h5,_⟩:=q1l h.1;simp only[Tr.laid,Tr.nodes]
  split
  ·rename_i h1
   have:=q2q (h5 h1)
   have e:=q0w x.tx;simp only[List.length_cons,List.length_nil];omega
  ·split<;>simp
 | .one x a,h=>by
  have:=z2m a h.2.2
  simp only[Tr.laid,Tr.nodes,List.length_cons];omega
 | .two x a b,h=>by
  have h1:=z2m a h.2.2.1;have h2:=z2m b h.2.2.2;simp only[Tr.laid,Tr.nodes,List.length_cons,List.length_append]
  split
  ·rw[List.length_append];omega
  ·omega
theorem k4h{t:Tr}(h:t.brk=false):t.isFlat=true/\t.line=⟨t.laid.toArray⟩:=by
 have:=q4u t
 rw[h]at this;constructor
 ·rw[Tr.isFlat,this];rfl
 ·rw[Tr.line,this];rfl
theorem k4i{t:Tr}(h:t.brk=true):t.isFlat=false/\t.line=⟨#[]⟩:=by
 have:=q4u t
 rw[h]at this;constructor
 ·rw[Tr.isFlat,this];rfl
 ·rw[Tr.line,this];rfl
theorem q2x:∀t:Tr,t.Wf->z0g t.nodes t.laid t.brk
 | .leaf ⟨op,tx,n⟩,h=>by
  obtain⟨_,_,_,_,h5,_⟩:=q1l h.1;rcases q3j h.1 h.2 with e|e|e|e|e
  all_goals (simp only at e;subst e)
  ·exact j6t tx n (q2q (h5 rfl)).2
  ·exact j6u tx n
  ·exact j6v tx n
  ·exact j6w tx n
  ·exact j6x tx n
 | .one ⟨op,tx,n⟩ a,h=>by
  rcases q8h h.2.1 with e|e
  all_goals (simp only at e;subst e)
  ·exact j6z tx n _ _ _ (q2x a h.2.2)
  ·exact j7a tx n _ _ _ (q2x a h.2.2)
 | .two ⟨op,tx,n⟩ a c,h=>by
  rcases q7j h.2.1 with e|e
  all_goals (simp only at e;subst e)
  ·exact j6y tx n _ _ _ _ _ _ (q2x a h.2.2.1) (q2x c h.2.2.2) (z2m a h.2.2.1)
  ·exact j7b tx n _ _ _ _ _ _ (q2x a h.2.2.1) (q2x c h.2.2.2)
end Go.Proofs.YthjapabokcajhaaGreatDoor
namespace Go.Proofs.YthjapabokcajhaaGreatDoor
open Go Go.RowKit
set_option maxRecDepth 100000
set_option maxHeartbeats 4000000
theorem k0c(op:Int)(w:World):Calls Tryz.prog 142 #[.int .i64 op] w fun e w'=>e=.returned (.int .i64 (pts op))/\w=w':=by
 by_cases h6:op=6
 ·subst h6;go_in;go_wp2;go_ret;exact⟨rfl,rfl⟩
 by_cases h9:op=9
 ·subst h9;go_in;go_wp2;go_ret;exact⟨rfl,rfl⟩
 by_cases h7:op=7
 ·subst h7;go_in;go_wp2;go_ret;exact⟨rfl,rfl⟩
 by_cases h8:op=8
 ·subst h8;go_in;go_wp2;go_ret;exact⟨rfl,rfl⟩
 have e:pts op=0:=by simp[pts,h6,h7,h8,h9]
 rw[e];have g6:(op==6)=false:=by simp[h6]
 have g7:(op==7)=false:=by simp[h7]
 have g8:(op==8)=false:=by simp[h8]
 have g9:(op==9)=false:=by simp[h9]
 clear e h6 h7 h8 h9;go_in;go_wp2;go_ret;exact⟨rfl,rfl⟩
theorem z0x(s:ByteArray)(w:World):Calls Tryz.prog 141 #[.string s] w fun e w'=>e=.returned (.bool (isW s))/\w=w':=by
 by_cases h1:(s.size:Int)<1
 ·have e:isW s=false:=by simp[isW];omega
  rw[e];clear e;go_in;go_wp2;go_ret;exact⟨rfl,rfl⟩
 by_cases h2:20<(s.size:Int)
 ·have e:isW s=false:=by simp[isW];omega
  rw[e];clear e;go_in;go_wp2;go_ret;exact⟨rfl,rfl⟩
 go_in;go_wp2
 go_loopw [14] (fun i wr=>wr=w/\∃k:Nat,k<=s.size/\i=.int .i64 k/\∀j(h:j<s.size),j<k->q3l s[j]=true) (fun i _=>s.size-(intOf i).toNat)
 case atStart=>exact⟨rfl,0,Nat.zero_le _,rfl,fun j _ hj=>by omega⟩
 case round=>
  obtain⟨rfl,k,hk,rfl,hall⟩:=hrel;have HA:Hid (∀j(h:j<s.size),j<k->q3l s[j]=true):=hall;clear hall;by_cases hlt:k<s.size
  ·cases hb:q3l s[k]with
   | false=>
    have HE:Hid (isW s=false):=j6c hlt hb;have hc:=z7l hb;clear hb;rcases hc with hc|⟨hc,hd⟩
    ·go_wp2;go_ret;exact⟨by rw[HE.out];rfl,rfl⟩
    ·go_wp2;go_ret;exact⟨by rw[HE.out];rfl,rfl⟩
   | true=>
    have HB:Hid (q3l s[k]=true):=hb;obtain⟨hc,hd⟩:=k1k hb;clear hb;go_wp2
    go_roundw
    case rel=>
     refine⟨by trivial,k+1,by omega,by go_num,?_⟩;intro j h hj;by_cases hjk:j=k
     ·subst hjk;exact HB.out
     ·exact HA.out j h (by omega)
    case measure=>simp[intOf];omega
  ·have HE:Hid (isW s=true):=j0f (by omega) (by omega) fun j h=>HA.out j h (by omega)
   go_wp2;go_ret;exact⟨by rw[HE.out];rfl,rfl⟩
theorem q6p(x:Nd)(w:World):Calls Tryz.prog 87 #[v3d x] w fun e w'=>e=.returned (q1p (q0s x))/\Below w.heap.size w w':=by
 obtain⟨op,tx,n⟩:=x;by_cases h1:op<1
 ·have e:q0s ⟨op,tx,n⟩=1:=by simp[q0s,h1]
  rw[e,z0u];clear e;go_in;go_wp2;go_ret;exact⟨rfl,(Below.refl _ _).alloc (Nat.le_refl _) _⟩
 by_cases h2:9<op
 ·have e:q0s ⟨op,tx,n⟩=1:=by simp[q0s,h2]
  rw[e,z0u];clear e;go_in;go_wp2;go_ret;exact⟨rfl,(Below.refl _ _).alloc (Nat.le_refl _) _⟩
 rcases v3e h1 h2 with rfl|rfl|rfl|rfl|rfl|rfl|rfl|rfl|rfl
 case inl=>
  clear h1 h2;by_cases hn:n=0
  ·subst hn;cases hw:isW tx with
   | false=>
    have e:q0s ⟨1,tx,0⟩=5:=by simp[q0s,hw]
    rw[e,j8t];clear e;go_in;go_wp2_with(go_at_call 141;refine(z0x _ _).mono ?_;rintro e w'⟨rfl,rfl⟩);go_ret;exact⟨rfl,(Below.refl _ _).alloc (Nat.le_refl _) _⟩
   | true=>
    have e:q0s ⟨1,tx,0⟩=0:=by simp[q0s,hw]
    rw[e,q0u];clear e;go_in;go_wp2_with(go_at_call 141;refine(z0x _ _).mono ?_;rintro e w'⟨rfl,rfl⟩);go_ret;exact⟨rfl,(Below.refl _ _).alloc (Nat.le_refl _) _⟩
  ·have e:q0s ⟨1,tx,n⟩=2:=by simp[q0s,hn]
   rw[e,z3y];have hn':(n != 0)=true:=by simp[hn]
   clear e hn;go_in;go_wp2;go_ret;exact⟨rfl,(Below.refl _ _).alloc (Nat.le_refl _) _⟩
 case inr.inr.inr.inr.inr.inr.inl=>
  clear h1 h2;by_cases hs:tx.size=0
  ·obtain rfl:=z5g hs;by_cases hn:n<0
   ·have e:q0s ⟨7,⟨#[]⟩,n⟩=1:=by simp[q0s,hn,hs]
    rw[e,z0u];clear e hs;go_in;go_wp2;go_ret;exact⟨rfl,(Below.refl _ _).alloc (Nat.le_refl _) _⟩
   by_cases hm:8<n
   ·have e:q0s ⟨7,⟨#[]⟩,n⟩=1:=by simp[q0s,hm,hs]
    rw[e,z0u];clear e hs;go_in;go_wp2;go_ret;exact⟨rfl,(Below.refl _ _).alloc (Nat.le_refl _) _⟩
   have e:q0s ⟨7,⟨#[]⟩,n⟩=0:=by simp[q0s,hn,hm,hs]
   rw[e,q0u];clear e hs;go_in;go_wp2;go_ret;exact⟨rfl,(Below.refl _ _).alloc (Nat.le_refl _) _⟩
  ·have e:q0s ⟨7,tx,n⟩=2:=by simp[q0s,hs]
   rw[e,z3y];have hs':=k7a hs;clear e hs;go_in;go_wp2;go_ret;exact⟨rfl,(Below.refl _ _).alloc (Nat.le_refl _) _⟩
 all_goals
  clear h1 h2;by_cases hs:tx.size=0
  ·obtain rfl:=z5g hs;by_cases hn:n=0
   ·subst hn;rw[show ∀k:Int,k=0->q1p k=.nilIface from fun k hk=>by rw[hk];rfl]
    ·clear hs;go_in;go_wp2;go_ret;exact⟨rfl,(Below.refl _ _).alloc (Nat.le_refl _) _⟩
    ·simp[q0s,hs]
   ·have hn':(n != 0)=true:=by simp[hn]
    rw[show ∀k:Int,k=2->q1p k=.iface 23 (.int .i64 2)from fun k hk=>by rw[hk];rfl]
    ·clear hs hn;go_in;go_wp2;go_ret;exact⟨rfl,(Below.refl _ _).alloc (Nat.le_refl _) _⟩
    ·simp[q0s,hn]
  ·have hs':=k7a hs;rw[show ∀k:Int,k=2->q1p k=.iface 23 (.int .i64 2)from fun k hk=>by rw[hk];rfl]
   ·clear hs;go_in;go_wp2;go_ret;exact⟨rfl,(Below.refl _ _).alloc (Nat.le_refl _) _⟩
   ·simp[q0s,hs]
end Go.Proofs.YthjapabokcajhaaGreatDoor
namespace Go.Proofs.YthjapabokcajhaaGreatDoor
open Go Go.RowKit
set_option maxRecDepth 100000
set_option maxHeartbeats 1000000
theorem z0t(ds:List Nd)(a:Option Addr)(cap i0:Nat)(w:World)(hN:q1u w a ds)(hl:ds.length<=400)(hi:i0<=ds.length):
  Calls Tryz.prog 88 #[.slice a ds.length cap,.int .i64 i0] w fun e w'=>((∃j:Nat,q1f ds i0 1=some j/\e=.returned (.tuple #[.int .i64 j,.bool true]))\/(q1f ds i0 1=none/\e=.returned (.tuple #[.int .i64 ds.length,.bool false])))/\w=w':=by
 have HN:Hid (q1u w a ds):=hN;clear hN;go_in;go_wp2
 go_loopw [1,6] (fun i m wr=>wr=w/\∃k q:Nat,k<=ds.length/\q<=k+1/\i=.int .i64 k/\m=.int .i64 q/\q1f ds i0 1=q1f ds k q) (fun i _ _=>ds.length-(intOf i).toNat)
 case atStart=>exact⟨rfl,i0,1,hi,by omega,rfl,rfl,rfl⟩
 case round=>
  obtain⟨rfl,k,q,hk,hq,rfl,rfl,he⟩:=hrel;have HE:Hid (q1f ds i0 1=q1f ds k q):=he;clear he;by_cases h0:q=0
  ·subst h0;have HE':Hid (q1f ds i0 1=some k):=HE.out.trans (k0f _ _);go_wp2;go_ret2;exact⟨.inl ⟨k,HE'.out,rfl⟩,rfl⟩
  ·obtain⟨q',rfl⟩:∃q',q=q'+1:=⟨q-1,by omega⟩;by_cases hlt:k<ds.length
   ·obtain⟨b,o,ea,hb,c1,c2,c3⟩:=HN.out k hlt;have HS:Hid (q1f ds i0 1=q1f ds (k+1) (pts ds[k].op+q')):=HE.out.trans (k0d _ _ _ hlt);have hp:=j3s ds[k].op;subst ea;clear c2 c3 h0;go_wp2_with(go_at_call 142;refine(k0c _ _).mono ?_;rintro e w'⟨rfl,rfl⟩)
    go_roundw
    case rel=>
     exact⟨by trivial,k+1,pts ds[k].op+q',by omega,by omega,by go_num,by go_num,HS.out⟩
    case measure=>simp[intOf];omega
   ·have hkk:k=ds.length:=by omega
    subst hkk;have HE':Hid (q1f ds i0 1=none):=HE.out.trans (k3l _ _ _ (by omega));go_wp2;go_ret2;exact⟨.inr ⟨HE'.out,rfl⟩,rfl⟩
theorem q9c{ds:List Nd}{i0 j:Nat}(a:Option Addr)(cap:Nat)(w:World)(hN:q1u w a ds)(hl:ds.length<=400)(hi:i0<=ds.length)(h:q1f ds i0 1=some j):
  Calls Tryz.prog 88 #[.slice a ds.length cap,.int .i64 i0] w fun e w'=>e=.returned (.tuple #[.int .i64 j,.bool true])/\w=w':=
 (z0t ds a cap i0 w hN hl hi).mono fun e w'⟨h1,h2⟩=>⟨by
  rcases h1 with⟨j',e1,e2⟩|⟨e1,_⟩
  ·rw[h]at e1;cases e1;exact e2
  ·rw[h]at e1;(cases e1),h2⟩
theorem z6e{ds:List Nd}{i0:Nat}(a:Option Addr)(cap:Nat)(w:World)(hN:q1u w a ds)(hl:ds.length<=400)(hi:i0<=ds.length)(h:q1f ds i0 1=none):
  Calls Tryz.prog 88 #[.slice a ds.length cap,.int .i64 i0] w fun e w'=>e=.returned (.tuple #[.int .i64 ds.length,.bool false])/\w=w':=
 (z0t ds a cap i0 w hN hl hi).mono fun e w'⟨h1,h2⟩=>⟨by
  rcases h1 with⟨j',e1,e2⟩|⟨_,e2⟩
  ·rw[h]at e1;cases e1
  ·exact e2,h2⟩
end Go.Proofs.YthjapabokcajhaaGreatDoor
namespace Go.Proofs.YthjapabokcajhaaGreatDoor
open Go Go.RowKit
set_option maxRecDepth 100000
set_option maxHeartbeats 2000000
theorem q1y(ds:List Nd)(a:Option Addr)(cap:Nat)(w:World)(hN:q1u w a ds):
  Calls Tryz.prog 48 #[.slice a ds.length cap] w fun e w'=>e=.returned (q1p (q2a ds))/\Below w.heap.size w w':=by
 have HN:Hid (q1u w a ds):=hN;clear hN;by_cases h4:400<(ds.length:Int)
 ·rw[k3e (by omega),j2t];go_in;go_wp2;go_ret;exact⟨rfl,Below.refl _ _⟩
 ·have hl:ds.length<=400:=by omega
  go_in;go_wp2
  go_loopw [14] (fun i wr=>Below w.heap.size w wr/\∃k:Nat,k<=ds.length/\i=.int .i64 k/\∀x∈ds.take k,q0s x=0) (fun i _=>ds.length-(intOf i).toNat)
  case atStart=>exact⟨Below.refl _ _,0,Nat.zero_le _,rfl,by simp⟩
  case round=>
   obtain⟨hB,k,hk,rfl,hall⟩:=hrel;have HA:Hid (∀x∈ds.take k,q0s x=0):=hall;have HM:Hid (q1u wr a ds):=HN.out.below hB;clear hall;by_cases hlt:k<ds.length
   ·obtain⟨b,o,ea,hb,c1,c2,c3⟩:=HM.out k hlt;subst ea;by_cases h0:q0s ds[k]=0
    ·have H0:Hid (q0s ds[k]=0):=h0;clear h0;go_wp2_with fail;refine(q6p ds[k] _).mono ?_;rintro e w2⟨rfl,hb2⟩;rw[H0.out,q0u];have hB2:=z3n hB (Nat.le_refl _) hb2;clear hb2;go_wp2
     go_roundw
     case rel=>exact⟨hB2,k+1,by omega,by go_num,k7n hlt HA.out H0.out⟩
     case measure=>simp[intOf];omega
    ·have H0:Hid (q0s ds[k]≠0):=h0;clear h0;go_wp2_with fail;refine(q6p ds[k] _).mono ?_;rintro e w2⟨rfl,hb2⟩;rw[q0o H0.out];have hB2:=z3n hB (Nat.le_refl _) hb2;clear hb2;go_wp2;go_ret;refine⟨?_,hB2⟩;rw[k3f hl hlt HA.out H0.out,q0o H0.out];rfl
   ·have HF:Hid (q2a ds=if q1f ds 0 1=some ds.length then 0 else 2):=k9p hl (j1s hlt HA.out);cases he:q1f ds 0 1 with
    | none=>
     have HE:Hid (q1f ds 0 1=none):=he;clear he;go_wp2_with fail;refine(z6e a cap _ HM.out hl (Nat.zero_le _) HE.out).mono ?_;rintro e w2⟨rfl,rfl⟩;go_wp2;go_ret;refine⟨?_,hB⟩;rw[HF.out,HE.out,if_neg (by simp),z3y];rfl
    | some j=>
     have HE:Hid (q1f ds 0 1=some j):=he;clear he;by_cases hj:j=ds.length
     ·subst hj;go_wp2_with fail;refine(q9c a cap _ HM.out hl (Nat.zero_le _) HE.out).mono ?_;rintro e w2⟨rfl,rfl⟩;go_wp2;go_ret;refine⟨?_,hB⟩;rw[HF.out,HE.out,if_pos rfl,q0u];rfl
     ·have hj':((j:Int) != (ds.length:Int))=true:=by simp;omega
      go_wp2_with fail;refine(q9c a cap _ HM.out hl (Nat.zero_le _) HE.out).mono ?_;rintro e w2⟨rfl,rfl⟩;go_wp2;go_ret;refine⟨?_,hB⟩;rw[HF.out,HE.out,if_neg (by simp[hj]),z3y];rfl
end Go.Proofs.YthjapabokcajhaaGreatDoor
namespace Go.Proofs.YthjapabokcajhaaGreatDoor
open Go Go.RowKit
set_option maxRecDepth 100000
set_option maxHeartbeats 2000000
theorem j0a(ds:List Nd)(a:Option Addr)(cap:Nat)(w:World)(hN:q1u w a ds)(h:q2a ds≠0):
  Calls Tryz.prog 188 #[.slice a ds.length cap] w fun e w'=>e=.returned (.tuple #[.string ⟨#[]⟩,.bool false,q1p (q2a ds)])/\Below w.heap.size w w':=by
 have HN:Hid (q1u w a ds):=hN;have H:Hid (q2a ds≠0):=h;rw[q0o h];clear hN h;go_in;go_wp2_with fail;refine(q1y ds a cap _ HN.out).mono ?_;rintro e w2⟨rfl,hB⟩;rw[q0o H.out];go_wp2;go_ret3;exact⟨rfl,hB⟩
theorem k3s(ds:List Nd)(t:Tr)(hd:ds=t.nodes)(ht:t.Wf)(hl:ds.length<=400)(a:Option Addr)(cap:Nat)(hc:ds.length<=cap)(w:World)(hN:q1u w a ds):
  Calls Tryz.prog 188 #[.slice a ds.length cap] w fun e w'=>e=.returned (.tuple #[.string t.line,.bool t.isFlat,.nilIface])/\Below w.heap.size w w':=by
 have HN:Hid (q1u w a ds):=hN;have H:Hid (q2a ds=0):=(show q2a ds=0 by rw[hd];exact q7i ht (by rw[<-hd];exact hl));have HD:Hid (ds=t.nodes):=hd;have H0:Hid (ds≠[]):=(show ds≠[] by have:=t.pos;rw[<-hd]at this;exact List.length_pos_iff.1 this);clear hN hd;cases hk:t.brk
 case' true=>obtain⟨q1,q2⟩:=k4i hk
 case' false=>obtain⟨q1,q2⟩:=k4h hk
 all_goals
  rw[q1,q2];have HK:=(show Hid (t.brk=_)from hk);clear hk q1 q2;go_in;go_wp2_with fail;refine(q1y ds a cap _ HN.out).mono ?_;rintro e w2⟨rfl,hB⟩;rw[H.out,q0u];have HB:Hid (Below w.heap.size w w2):=hB;obtain⟨s,hs,hns⟩:=(HN.out.below hB).s H0.out;have HM:Hid (q0p s w2 a ds):=hns;clear hB hns;go_wp2_with fail;refine(q2x t ht w2.heap.size w2.heap.size s ds [] a cap [] false _ (by rw[HD.out];simp) (HM.out.kept (Below.heap_alloc _ _ _ hs)) hs (by omega) hc (IsX.fresh 285 w2 [.bool false]) (by simp) (by simp;omega)).mono ?_;rintro e w3⟨⟨a3,cap3,rfl,_,_⟩,hw3,hb3,_⟩;have hB3:Below w.heap.size w w3:=HB.out.trans ((((Below.refl _ w2).alloc (Nat.le_refl _) _).trans (hb3.below (Nat.le_refl _))).mono HB.out.size);rw[Bool.false_or,List.nil_append]at hw3;have HW3:Hid (Ln w2.heap.size w2.heap.size t.laid t.brk w3):=hw3;have g1:=hw3.cell;rw[HK.out]at g1;clear hw3
 ·go_wp2_with fail;refine(z9o 285 w2.heap.size w2.heap.size t.laid [.bool t.brk] w3 HW3.out).mono ?_;rintro e w4⟨rfl,hb4⟩;go_wp2;go_ret3;exact⟨rfl,hB3.trans (hb4.mono HB.out.size)⟩
 ·go_wp2;go_ret3;exact⟨rfl,hB3⟩
theorem k9z(ds:List Nd)(a:Option Addr)(cap:Nat)(hc:ds.length<=cap)(w:World)(hN:q1u w a ds):
  Calls Tryz.prog 188 #[.slice a ds.length cap] w fun e w'=>e=.returned (.tuple #[.string (flS ds),.bool (flB ds),q1p (q2a ds)])/\Below w.heap.size w w':=by
 by_cases h:q2a ds=0
 ·obtain⟨hl,_,_⟩:=q3o h;obtain⟨e0,e1,e2⟩:=k3r (q7t h) (q2t h) hl;rw[e1,e2,h,q0u];exact k3s ds _ (q2t h) (q7t h) hl a cap hc w hN
 ·obtain⟨e1,e2⟩:=j8z h;rw[e1,e2];exact j0a ds a cap w hN h
end Go.Proofs.YthjapabokcajhaaGreatDoor
namespace Go.Proofs.YthjapabokcajhaaGreatDoor
open Go Go.RowKit
set_option maxRecDepth 100000
set_option maxHeartbeats 2000000
theorem k3t(ds:List Nd)(a:Option Addr)(cap:Nat)(hc:ds.length<=cap)(w:World)(hN:q1u w a ds):
  Calls Tryz.prog 194 #[.slice a ds.length cap] w fun e w'=>e=.returned (.tuple #[.int .i64 (flS ds).size,.bool (flB ds),q1p (q2a ds)])/\Below w.heap.size w w':=by
 have HN:Hid (q1u w a ds):=hN;clear hN;generalize hs:flS ds=s;generalize hb:flB ds=b;generalize he:q1p (q2a ds)=v;have H:Hid (flS ds=s/\flB ds=b/\q1p (q2a ds)=v):=⟨hs,hb,he⟩;clear hs hb he;go_in;go_wp2_with fail;refine(k9z ds a cap hc _ HN.out).mono ?_;rintro e w2⟨rfl,hB⟩;rw[H.out.1,H.out.2.1,H.out.2.2];go_wp2;go_ret3;exact⟨rfl,hB⟩
end Go.Proofs.YthjapabokcajhaaGreatDoor
namespace Go.Proofs.YthjapabokcajhaaGreatDoor
open Go Go.RowKit
set_option maxRecDepth 100000
set_option maxHeartbeats 2000000
theorem k2d(ds:List Nd)(t:Tr)(hd:ds=t.nodes)(ht:t.Wf)(hl:ds.length<=400)(a:Option Addr)(cap:Nat)(hc:ds.length<=cap)(w:World)(hN:q1u w a ds):
  Calls Tryz.prog 162 #[.slice a ds.length cap] w fun e w'=>e=.returned (.int .i64 (lgF t.flat))/\Below w.heap.size w w':=by
 obtain⟨e0,e1,e2⟩:=k3r ht hd hl;have hcall:=k3t ds a cap hc w hN;rw[e0,e1,e2,q0u]at hcall;cases hf:t.flat with
 | none=>
  have e3:t.isFlat=false:=by simp[Tr.isFlat,hf]
  rw[e3]at hcall;have HC:Hid (Calls Tryz.prog 194 #[.slice a ds.length cap] w fun e w'=>e=.returned (.tuple #[.int .i64 t.line.size,.bool false,.nilIface])/\Below w.heap.size w w'):=hcall;clear hcall hN e0 e1 e2 e3 hd hf;rw[lgF];go_in;go_wp2_with fail;refine HC.out.mono ?_;rintro e w2⟨rfl,hb⟩;go_wp2;go_ret;exact⟨rfl,hb⟩
 | some s=>
  have e3:t.isFlat=true:=by simp[Tr.isFlat,hf]
  have e4:t.line.size=s.length:=by rw[z4n,hf];rfl
  rw[e3,e4]at hcall;have HC:Hid (Calls Tryz.prog 194 #[.slice a ds.length cap] w fun e w'=>e=.returned (.tuple #[.int .i64 s.length,.bool true,.nilIface])/\Below w.heap.size w w'):=hcall;clear hcall hN e0 e1 e2 e3 e4 hd hf;rw[lgF];go_in;go_wp2_with fail;refine HC.out.mono ?_;rintro e w2⟨rfl,hb⟩;go_wp2;go_ret;exact⟨rfl,hb⟩
theorem j8g.pr{g n j:Nat}{F:Nat->Q}{x y:Int}{w w':World}(h:j8g g (j*7+4) (j*7+5) (.int .i64 x) (.int .i64 y) w w')(hp:PwR w g n F)(hj:j<n):PwR w' g n (upd F j {F j with nx:=x,dp:=y}):=by
 have h1:=(hp.putNx hj x).putDp hj y;rw[z3h,q0k]at h1;exact h1.kept (by rw[h.2.2.2])
theorem j8g.belX{g a b:Nat}{e f:Value}{w w':World}(h:j8g g a b e f w w')(B:Nat):q0j B g w w':=
 ⟨h.1,h.2.1,h.2.2.1,by rw[h.2.2.2];simp[World.setCell],fun k _ hk=>by rw[h.2.2.2,Below.heap_setCell _ _ _ _ hk,Below.heap_setCell _ _ _ _ hk]⟩
theorem q6o(bp g n i:Nat)(x y:Int)(F:Nat->Q)(w:World)(hi:i<n)(c0:w.cell? ⟨bp,0,none⟩=some (.slice (some ⟨g,0,none⟩) n n))(hp:PwR w g n F):
  Calls Tryz.prog 193 #[.pointer (some ⟨bp,0,none⟩),.int .i64 i,.int .i64 x,.int .i64 y] w fun e w'=>e=.returned (.tuple #[])/\PwR w' g n (upd F i {F i with nx:=x,dp:=y})/\q0j w.heap.size g w w':=by
 have k:=hp.get i hi;refine(k2n bp g n i x y w (by omega) c0 _ _ k.c4 k.c5 hp.row.frozen hp.row.frozen).mono ?_;rintro e w2⟨rfl,h⟩;exact⟨rfl,h.pr hp hi,h.belX _⟩
end Go.Proofs.YthjapabokcajhaaGreatDoor
