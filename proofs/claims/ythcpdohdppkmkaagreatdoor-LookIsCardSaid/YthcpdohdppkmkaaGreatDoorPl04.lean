import Derived.Test.YthcpdohdppkmkaaGreatDoorPl03
import Derived.Deep.OwnRows
import Derived.Deep.AppendLies
import Derived.OwnWalk
import Derived.Lib.SmallJoins
open Go.Proofs.Tryz
namespace Go.Proofs.YthcpdohdppkmkaaGreatDoor
def q6v(f g:Nat->List Int->Except Int (List UInt8 × List Int))(deep:Nat)(ws:List Int):Except Int (List UInt8 × List Int):=
 match f deep ws with
 | .error e=>.error e
 | .ok (s,ws1)=>match g deep ws1 with
  | .error e=>.error e
  | .ok (t,ws2)=>.ok (s++t,ws2)
def q4t(f:Nat->List Int->Except Int (List UInt8 × List Int))(sA:ByteArray)(fl:Bool)(deep:Nat)(ws:List Int):Except Int (List UInt8 × List Int):=
 match ws with
 | []=>.error 2
 | c::ws=>if c=1 then f deep ws else if fl=true then .ok (sA.data.toList,ws)else .error 4
def q4h(f g:Nat->List Int->Except Int (List UInt8 × List Int))(deep:Nat)(ws:List Int):Except Int (List UInt8 × List Int):=
 match ws with
 | []=>.error 2
 | c::ws=>if c=0 then f deep ws else g deep ws
theorem v3q{t:Tr}{s:List UInt8}(h:t.Wf)(e:t.flat=some s):s.length<=20*t.N.length:=by
 have:=q7r t h
 rw[e]at this;exact this
theorem q5s:∀(t:Tr)(deep:Nat)(ws:List Int)(u:List UInt8)(v:List Int),t.Wf->t.lay deep ws=.ok (u,v)->deep+8*t.N.length<=3300->u.length<=4000*t.N.length
 | .leaf x,deep,ws,u,v,h,e,hd=>by
  obtain⟨_,_,_,_,h5,_⟩:=q2c h.1;simp only[Tr.lay]at e;simp only[Tr.N,List.length_cons,List.length_nil]at hd⊢
  split at e
  ·rename_i h1;cases e
   have:=q4d (h5 h1)
   rw[q0x];omega
  ·split at e
   ·cases e;simp
   ·cases e;simp;omega
 | .one x a,deep,ws,u,v,h,e,hd=>by
  obtain⟨_,_,_,_,_,h6⟩:=q2c h.1;simp only[Tr.lay]at e;simp only[Tr.N,List.length_cons]at hd⊢
  split at e
  ·rename_i h7
   have:=h6 h7
   have:=q5s a _ ws u v h.2.2 e (by omega)
   omega
  ·match ws,e with
   | c::ws,e=>
    simp only at e
    split at e
    ·have:=q5s a deep ws u v h.2.2 e (by omega)
     omega
    ·cases hf:a.flat with
     | none=>rw[hf]at e;cases e
     | some w=>
      rw[hf]at e;cases e
      have:=v3q h.2.2 hf
      omega
 | .two x a b,deep,ws,u,v,h,e,hd=>by
  simp only[Tr.lay]at e;simp only[Tr.N,List.length_cons,List.length_append]at hd⊢
  split at e
  ·cases ha:a.lay deep ws with
   | error e0=>rw[ha]at e;cases e
   | ok p=>
    obtain⟨s1,ws1⟩:=p;rw[ha]at e;simp only at e;cases hb:b.lay deep ws1 with
    | error e0=>rw[hb]at e;cases e
    | ok q=>
     obtain⟨s2,ws2⟩:=q;rw[hb]at e;cases e
     have:=q5s a deep ws s1 ws1 h.2.2.1 ha (by omega)
     have:=q5s b deep ws1 s2 _ h.2.2.2 hb (by omega)
     rw[List.length_append];omega
  ·match ws,e with
   | c::ws,e=>
    simp only at e
    split at e
    ·have:=q5s a deep ws u v h.2.2.1 e (by omega)
     omega
    ·have:=q5s b deep ws u v h.2.2.2 e (by omega)
     omega
theorem j5h{x:Nd}{a b:Tr}(h:x.op=6):Tr.lay (.two x a b)=q6v a.lay b.lay:=by
 funext deep ws
 simp only[Tr.lay,q6v,if_pos h];rfl
theorem z6j{x:Nd}{a b:Tr}(h:x.op=9):Tr.lay (.two x a b)=q4h a.lay b.lay:=by
 funext deep ws
 simp only[Tr.lay,q4h,if_neg (show ¬x.op=6 by omega)];rfl
theorem k0z{x:Nd}{a:Tr}(h:x.op=8):Tr.lay (.one x a)=q4t a.lay a.line a.isFlat:=by
 funext deep ws
 simp only[Tr.lay,q4t,if_neg (show ¬x.op=7 by omega)];cases ws with
 | nil=>rfl
 | cons c ws=>
  simp only[z4f,Tr.isFlat];cases a.flat with
  | none=>rfl
  | some s=>rfl
def shS(r:Except Int (List UInt8)):ByteArray:=match r with| .ok s=>⟨s.toArray⟩| .error _=>⟨#[]⟩
def shE(r:Except Int (List UInt8)):Int:=match r with| .ok _=>0| .error e=>e
theorem j0n{t:Tr}{ws:List Int}{k:Nat}(h:k<ws.length)(h0:ws[k]≠0)(h1:ws[k]≠1):t.show ws=.error 1:=by
 unfold Tr.show;rw[if_neg];intro A
 have:=k3b.1 A ws[k] (List.getElem_mem h)
 omega
theorem k7w{t:Tr}{ws:List Int}(h:q2q ws):t.show ws=match t.lay 0 ws with| .error e=>.error e| .ok (s,[])=>.ok s| .ok (_,_::_)=>.error 2:=by
 unfold Tr.show;rw[if_pos (k3b.2 h)];rfl
noncomputable def q5v(ds:List Nd)(ws:List Int):Except Int (List UInt8):=if h:q3d ds=0 then(v7x ds h).show ws else .error (q3d ds)
theorem k2k{ds:List Nd}{ws:List Int}(h:q3d ds≠0):q5v ds ws=.error (q3d ds):=dif_neg h
theorem z2d{ds:List Nd}{ws:List Int}{t:Tr}(ht:t.Wf)(e:ds=t.N)(hl:ds.length<=400):q5v ds ws=t.show ws:=by
 have h:q3d ds=0:=by rw[e];exact z0y ht (by rw[<-e];exact hl)
 rw[q5v,dif_pos h,z8b h ht e]
theorem v5w{ds:List Nd}{ws:List Int}{u:List UInt8}(h:q5v ds ws=.ok u):q3d ds=0/\ds.length<=400/\∃t:Tr,t.Wf/\ds=t.N/\t.show ws=.ok u:=by
 by_cases A:q3d ds=0
 ·rw[q5v,dif_pos A]at h;exact⟨A,(q5c A).1,_,q9f A,q3u A,h⟩
 ·rw[k2k A]at h;cases h
theorem q8d:∀(t:Tr)(u:List Int),u∈t.ways->u.length<=t.N.length
 | .leaf _,u,h=>by simp[Tr.ways]at h;subst h;simp
 | .one x a,u,h=>by
  simp only[Tr.ways]at h;simp only[Tr.N,List.length_cons]
  split at h
  ·have:=q8d a u h;omega
  ·rcases List.mem_append.1 h with h|h
   ·split at h
    ·simp at h;subst h;simp
    ·simp at h
   ·obtain⟨v,hv,rfl⟩:=List.mem_map.1 h
    have:=q8d a v hv
    simp;omega
 | .two x a b,u,h=>by
  simp only[Tr.ways]at h;simp only[Tr.N,List.length_cons,List.length_append]
  split at h
  ·obtain⟨p,hp,hpq⟩:=List.mem_flatMap.1 h;obtain⟨q,hq,rfl⟩:=List.mem_map.1 hpq;have h1:=q8d a p hp;have h2:=q8d b q hq;rw[List.length_append];omega
  ·rcases List.mem_append.1 h with h|h
   ·obtain⟨v,hv,rfl⟩:=List.mem_map.1 h
    have:=q8d a v hv
    simp;omega
   ·obtain⟨v,hv,rfl⟩:=List.mem_map.1 h
    have:=q8d b v hv
    simp;omega
theorem j9l{t:Tr}{ws:List Int}{u:List UInt8}(h:t.show ws=.ok u):q2q ws/\t.lay 0 ws=.ok (u,[]):=by
 unfold Tr.show at h
 split at h
 ·rename_i h0;refine⟨k3b.1 h0,?_⟩;cases A:t.lay 0 ws with
  | error e0=>rw[A]at h;cases h
  | ok p=>
   obtain⟨v,r⟩:=p;rw[A]at h;cases r with
   | nil=>cases h;rfl
   | cons c r=>cases h
 ·cases h
theorem j9k{ds:List Nd}{ws:List Int}{u:List UInt8}(h:q5v ds ws=.ok u):u.length<=1600000/\ws.length<=400:=by
 obtain⟨_,H,t,E,e,A⟩:=v5w h;have G:=(z4s t ws).1 ⟨u,A⟩;have B:=q8d t ws G;obtain⟨_,C⟩:=j9l A;rw[<-e]at B;have D:=q5s t 0 ws u [] E C (by rw[<-e];omega);rw[<-e]at D;omega
end Go.Proofs.YthcpdohdppkmkaaGreatDoor
namespace Go.Proofs.YthcpdohdppkmkaaGreatDoor
open Go Go.RowKit
theorem y4n{s:ByteArray}{k:Nat}(h:k<s.size):s[k]∈s.data.toList:=by
 have A:k<s.data.toList.length:=by rw[<-Lib.size_eq];exact h
 exact List.getElem_mem A
theorem k7k{s:ByteArray}(h1:1<=s.size)(h2:s.size<=20)(h:∀k(h:k<s.size),q8c s[k]=true):okW s=true:=by
 simp only[okW,h1,h2,decide_true,Bool.true_and,List.all_eq_true];intro b A;obtain⟨i,B,rfl⟩:=List.getElem_of_mem A;exact h i (by rw[Lib.size_eq];exact B)
theorem j8k{s:ByteArray}{k:Nat}(h:k<s.size)(hb:q8c s[k]=false):okW s=false:=by
 cases e:okW s with
 | false=>rfl
 | true=>
  simp only[okW,Bool.and_eq_true,List.all_eq_true]at e
  have:=e.2 s[k] (y4n h)
  rw[hb]at this;cases this
theorem z5d{b:UInt8}(h:q8c b=false):(b.toNat:Int)<33\/(¬(b.toNat:Int)<33/\126<(b.toNat:Int)):=by
 simp[q8c]at h;omega
theorem z7d{b:UInt8}(h:q8c b=true):¬(b.toNat:Int)<33/\¬126<(b.toNat:Int):=by
 simp[q8c]at h;omega
theorem q7h{ws:List ByteArray}(h:60<ws.length):q1c ws=3:=by rw[q1c,if_pos h]
theorem z7f{ws:List ByteArray}{k:Nat}(hl:ws.length<=60)(hk:k<ws.length)(h:okW ws[k]=false):q1c ws=5:=by
 rw[q1c,if_neg (by omega),if_neg];intro e
 have:=List.all_eq_true.1 e ws[k] (List.getElem_mem hk)
 rw[h]at this;cases this
theorem z7e{ws:List ByteArray}(hl:ws.length<=60)(h:∀j(h:j<ws.length),okW ws[j]=true):q1c ws=0:=by
 rw[q1c,if_neg (by omega),if_pos];rw[List.all_eq_true];intro x B;obtain⟨j,A,rfl⟩:=List.getElem_of_mem B;exact h j A
def q1j(B:Nat)(w:World)(a:Option Addr)(ws:List Int):Prop:=
 ∀i(h:i<ws.length),∃b o,a=some ⟨b,o,none⟩/\b<B/\w.cell? ⟨b,o+i,none⟩=some (.int .i64 ws[i])
theorem q1j.W{B:Nat}{w w':World}{a:Option Addr}{ws:List Int}(h:q1j B w a ws)(hb:Below B w w'):q1j B w' a ws:=by
 intro i D;obtain⟨b,o,e,A,C⟩:=h i D;exact⟨b,o,e,A,(hb.cell (p:=⟨b,_,none⟩) A).trans C⟩
theorem q1j.rest{B:Nat}{w:World}{b o:Nat}{x:Int}{ws:List Int}(h:q1j B w (some ⟨b,o,none⟩) (x::ws)):q1j B w (some ⟨b,o+1,none⟩) ws:=by
 intro i E;obtain⟨D,G,e,A,C⟩:=h (i+1) (by simp;omega);simp only[Option.some.injEq,Addr.mk.injEq,and_true]at e;obtain⟨rfl,rfl⟩:=e;refine⟨b,o+1,rfl,A,?_⟩;rw[show o+1+i=o+(i+1) by omega];exact C
theorem q1j.slid{B:Nat}{w:World}{b o cap:Nat}{x:Int}{ws:List Int}(h:q1j B w (some ⟨b,o,none⟩) (x::ws))(hc:ws.length+1<=cap):
  q1j B w (if cap=1 then some ⟨b,o,none⟩else some ⟨b,o+1,none⟩) ws:=by
 by_cases A:cap=1
 ·have:ws=[]:=List.eq_nil_of_length_eq_zero (by omega)
  subst this;exact fun i hi=>by simp at hi
 ·rw[if_neg A];exact h.rest
abbrev q8x(w:World)(a:Option Addr)(ws:List Int):Prop:=q1j w.heap.size w a ws
theorem q1j.up{B B':Nat}{w:World}{a:Option Addr}{ws:List Int}(h:q1j B w a ws)(hB:B<=B'):q1j B' w a ws:=by
 intro i C;obtain⟨b,o,e,D,A⟩:=h i C;exact⟨b,o,e,by omega,A⟩
theorem q8x.W{w w':World}{a:Option Addr}{ws:List Int}(h:q8x w a ws)(hb:Below w w w'):q8x w' a ws:=(q1j.W h hb).up hb.size
set_option maxRecDepth 100000
set_option maxHeartbeats 1000000
theorem z5g(s:ByteArray)(w:World):Calls prog 205 #[.string s] w fun e w'=>e=.returned (.bool (okW s))/\w=w':=by
 by_cases L:(s.size:Int)<1
 ·have e:okW s=false:=by simp[okW];omega
  rw[e];clear e;go_in;go_wp2;go_ret;exact⟨rfl,rfl⟩
 by_cases M:20<(s.size:Int)
 ·have e:okW s=false:=by simp[okW];omega
  rw[e];clear e;go_in;go_wp2;go_ret;exact⟨rfl,rfl⟩
 go_in;go_wp2
 go_loopw [14] (fun i wr=>wr=w/\∃k:Nat,k<=s.size/\i=.int .i64 k/\∀j(h:j<s.size),j<k->q8c s[j]=true) (fun i _=>s.size-(intOf i).toNat)
 case atStart=>exact⟨rfl,0,Nat.zero_le _,rfl,fun j _ K=>by omega⟩
 case round=>
  obtain⟨rfl,k,N,rfl,A⟩:=hrel;have H:Hid (∀j(h:j<s.size),j<k->q8c s[j]=true):=A;clear A;by_cases G:k<s.size
  ·cases B:q8c s[k]with
   | false=>
    have C:Hid (okW s=false):=j8k G B;have D:=z5d B;clear B;rcases D with D|⟨D,J⟩
    ·go_wp2;go_ret;exact⟨by rw[C.o];rfl,rfl⟩
    ·go_wp2;go_ret;exact⟨by rw[C.o];rfl,rfl⟩
   | true=>
    have I:Hid (q8c s[k]=true):=B;obtain⟨D,J⟩:=z7d B;clear B;go_wp2
    go_roundw
    case rel=>
     refine⟨by trivial,k+1,by omega,by go_num,?_⟩;intro j h K;by_cases E:j=k
     ·subst E;exact I.o
     ·exact H.o j h (by omega)
    case measure=>simp[intOf];omega
  ·have C:Hid (okW s=true):=k7k (by omega) (by omega) fun j h=>H.o j h (by omega)
   go_wp2;go_ret;exact⟨by rw[C.o];rfl,rfl⟩
theorem q6k(ws:List ByteArray)(a:Option Addr)(cap:Nat)(w:World)(hW:Wds w a ws):
  Calls prog 158 #[.slice a ws.length cap] w fun e w'=>e=.returned (q1r (q1c ws))/\w=w':=by
 have K:Hid (Wds w a ws):=hW;clear hW;by_cases P:60<(ws.length:Int)
 ·have D:Hid (q1c ws=3):=q7h (by omega);go_in;go_wp2;go_ret;exact⟨by rw[D.o];rfl,rfl⟩
 go_in;go_wp2
 go_loopw [11] (fun i wr=>wr=w/\∃k:Nat,k<=ws.length/\i=.int .i64 k/\∀j(h:j<ws.length),j<k->okW ws[j]=true) (fun i _=>ws.length-(intOf i).toNat)
 case atStart=>exact⟨rfl,0,Nat.zero_le _,rfl,fun j _ hj=>by omega⟩
 case round=>
  obtain⟨rfl,k,Q,rfl,A⟩:=hrel;have I:Hid (∀j(h:j<ws.length),j<k->okW ws[j]=true):=A;clear A;by_cases E:k<ws.length
  ·obtain⟨O,R,L,M,J⟩:=K.o k E;subst L;cases B:okW ws[k]with
   | false=>
    have D:Hid (q1c ws=5):=z7f (by omega) E B;have C:Hid (okW ws[k]=false):=B;generalize ws[k]=x at J C;clear B;go_wp2_with fail;refine(z5g _ _).mono ?_;rintro e N⟨rfl,rfl⟩;rw[C.o];go_wp2;go_ret;exact⟨by rw[D.o];rfl,rfl⟩
   | true=>
    have C:Hid (okW ws[k]=true):=B
    have G:Hid (∀j(h:j<ws.length),j<k+1->okW ws[j]=true):=fun j h hj=>by
     by_cases H:j=k
     ·subst H;exact B
     ·exact I.o j h (by omega)
    generalize ws[k]=x at J C;clear B;go_wp2_with fail;refine(z5g _ _).mono ?_;rintro e N⟨rfl,rfl⟩;rw[C.o];go_wp2
    go_roundw
    case rel=>exact⟨by trivial,k+1,by omega,by go_num,G.o⟩
    case measure=>simp[intOf];omega
  ·have D:Hid (q1c ws=0):=z7e (by omega) fun j h=>I.o j h (by omega)
   go_wp2;go_ret;exact⟨by rw[D.o];rfl,rfl⟩
theorem v1g(ws:List ByteArray)(a:Option Addr)(cap:Nat)(wd:Int)(w:World)(hW:Wds w a ws):
  Calls prog 165 #[.slice a ws.length cap,.int .i64 wd] w fun e w'=>e=.returned (q1r (q6r ws wd))/\w=w':=by
 have D:Hid (Wds w a ws):=hW;clear hW;by_cases C:q1c ws=0
 ·have B:Hid (q1c ws=0):=C;clear C;by_cases H:wd<1
  ·have A:Hid (q6r ws wd=1):=by
    show q6r ws wd=1;rw[q6r,if_neg (by rw[B.o];simp),if_pos (.inl H)]
   go_in;go_wp2_with fail;refine(q6k ws a cap _ D.o).mono ?_;rintro e E⟨rfl,rfl⟩;rw[B.o,q0z];go_wp2;go_ret;exact⟨by rw[A.o];rfl,rfl⟩
  by_cases I:100<wd
  ·have A:Hid (q6r ws wd=1):=by
    show q6r ws wd=1;rw[q6r,if_neg (by rw[B.o];simp),if_pos (.inr I)]
   go_in;go_wp2_with fail;refine(q6k ws a cap _ D.o).mono ?_;rintro e E⟨rfl,rfl⟩;rw[B.o,q0z];go_wp2;go_ret;exact⟨by rw[A.o];rfl,rfl⟩
  ·have A:Hid (q6r ws wd=0):=by
    show q6r ws wd=0;rw[q6r,if_neg (by rw[B.o];simp),if_neg (by omega)]
   go_in;go_wp2_with fail;refine(q6k ws a cap _ D.o).mono ?_;rintro e E⟨rfl,rfl⟩;rw[B.o,q0z];go_wp2;go_ret;exact⟨by rw[A.o];rfl,rfl⟩
 ·have A:Hid (q6r ws wd=q1c ws):=by
   show q6r ws wd=q1c ws;rw[q6r,if_pos C]
  have G:Hid (q1r (q1c ws)=.iface 22 (.int .i64 (q1c ws))):=q0l C;clear C;go_in;go_wp2_with fail;refine(q6k ws a cap _ D.o).mono ?_;rintro e E⟨rfl,rfl⟩;rw[G.o];go_wp2;go_ret;exact⟨by rw[A.o,G.o];rfl,rfl⟩
theorem v1f(ws:List ByteArray)(a:Option Addr)(cap:Nat)(w:World)(h0:ws≠[])(hF:Few ws)(hW:Wds w a ws):
  Calls prog 211 #[.slice a ws.length cap] w fun e w'=>e=.returned (.int .i64 (ln ws))/\w=w':=by
 have H:Hid (Wds w a ws):=hW;have Q:0<ws.length:=List.length_pos_iff.2 h0;have P:=hF.1
 have E:Hid ((ln ws:Int)=(ws.length:Int)-1+tot ws):=by
  show(ln ws:Int)=_
  simp only[ln];omega
 have D:Hid (Few ws):=hF;clear hW hF h0;go_in;go_wp2
 go_loopw [3,11] (fun s i wr=>wr=w/\∃k:Nat,k<=ws.length/\i=.int .i64 k/\s=.int .i64 ((ws.length:Int)-1+tot (ws.take k))) (fun _ i _=>ws.length-(intOf i).toNat)
 case atStart=>exact⟨rfl,0,Nat.zero_le _,rfl,by simp[tot]⟩
 case round=>
  obtain⟨rfl,k,O,rfl,rfl⟩:=hrel;by_cases A:k<ws.length
  ·obtain⟨N,R,J,K,I⟩:=H.o k A;subst J;have B:Hid (tot (ws.take (k+1))=tot (ws.take k)+ws[k].size):=v6t A;have L:=(D.o.take k).tot;have M:=D.o.2 _ (List.getElem_mem A);generalize ws[k]=x at I B M;generalize tot (ws.take k)=t0 at B L;go_wp2
   go_roundw
   case rel=>exact⟨by trivial,k+1,by omega,by go_num,by rw[B.o];go_num⟩
   case measure=>simp[intOf];omega
  ·have C:k=ws.length:=by omega
   subst C;have G:Hid (tot (ws.take ws.length)=tot ws):=by show _=_;rw[List.take_length]
   go_wp2;go_ret;exact⟨by rw[E.o,<-G.o];rfl,rfl⟩
theorem j2h{n wd:Nat}{last:Bool}(h:wd<n):(bd n wd last:Int)=1000*((n:Int)-wd):=by
 rw[bd,if_pos h];omega
theorem j2g{n wd:Nat}(h:¬wd<n):bd n wd true=0:=by rw[bd,if_neg h];rfl
theorem k5u{n wd:Nat}(h:¬wd<n):(bd n wd false:Int)=((wd:Int)-n)*((wd:Int)-n):=by
 rw[bd,if_neg h];simp only[Bool.false_eq_true,if_false];rw[Int.natCast_mul]
 congr 1<;>omega
theorem v7c(n wd:Nat)(last:Bool)(w:World)(hn:n<=1260)(hw:wd<=100):
  Calls prog 210 #[.int .i64 n,.int .i64 wd,.bool last] w fun e w'=>e=.returned (.int .i64 (bd n wd last))/\w=w':=by
 by_cases h:wd<n
 ·have A:Hid ((bd n wd last:Int)=1000*((n:Int)-wd)):=j2h h;have B:(wd:Int)-n<0:=by omega
  clear h;go_in;go_wp2;go_ret;exact⟨by rw[A.o];go_num,rfl⟩
 ·cases last with
  | true=>
   have A:Hid (bd n wd true=0):=j2g h;have B:¬(wd:Int)-n<0:=by omega
   clear h;go_in;go_wp2;go_ret;exact⟨by rw[A.o];rfl,rfl⟩
  | false=>
   have A:Hid ((bd n wd false:Int)=((wd:Int)-n)*((wd:Int)-n)):=k5u h;have B:¬(wd:Int)-n<0:=by omega
   obtain⟨m,C⟩:∃m:Int,m=(wd:Int)-n:=⟨_,rfl⟩;have G:IntKind.i64.wrap ((wd:Int)-n)=(wd:Int)-n:=by rw[IntKind.wrap_i64];omega
   have H:IntKind.i64.wrap (((wd:Int)-n)*((wd:Int)-n))=((wd:Int)-n)*((wd:Int)-n):=by
    have D:0<=((wd:Int)-n)*((wd:Int)-n):=Int.mul_nonneg (by omega) (by omega);have E:((wd:Int)-n)*((wd:Int)-n)<=100*100:=Int.mul_le_mul (by omega) (by omega) (by omega) (by omega);rw[IntKind.wrap_i64];omega
   clear h C;go_in;go_wp2;go_ret;exact⟨by rw[A.o];rfl,rfl⟩
set_option maxHeartbeats 2000000
theorem z6u(ws:List ByteArray)(a:Option Addr)(cap:Nat)(w:World)(hW:Wds w a ws):
  Calls prog 121 #[.slice a ws.length cap] w fun e w'=>e=.returned (.int .i64 (q1c ws))/\w=w':=by
 have P:Hid (Wds w a ws):=hW;clear hW;by_cases b:60<(ws.length:Int)
 ·have A:Hid (q1c ws=3):=q7h (by omega);go_in;go_wp2;go_ret;exact⟨by rw[A.o];rfl,rfl⟩
 go_in;go_wp2
 go_loopw [3] (fun i wr=>wr=w/\∃k:Nat,k<=ws.length/\i=.int .i64 k/\∀j(h:j<ws.length),j<k->okW ws[j]=true) (fun i _=>ws.length-(intOf i).toNat)
 case atStart=>exact⟨rfl,0,Nat.zero_le _,rfl,fun j _ M=>by omega⟩
 case round=>
  obtain⟨rfl,k,c,rfl,E⟩:=hrel;have N:Hid (∀j(h:j<ws.length),j<k->okW ws[j]=true):=E;clear E;by_cases J:k<ws.length
  ·obtain⟨X,f,R,S,Q⟩:=P.o k J;subst R;have V:(k:Int)<(ws.length:Int):=by omega
   have I:Hid (okW ws[k]=true->∀j(h:j<ws.length),j<k+1->okW ws[j]=true):=fun C j h M=>by
    by_cases G:j=k
    ·subst G;exact C
    ·exact N.o j h (by omega)
   have D:Hid (okW ws[k]=false->q1c ws=5):=fun C=>z7f (by omega) J C
   generalize ws[k]=s at Q I D;by_cases Y:(s.size:Int)<1
   ·have A:Hid (q1c ws=5):=D.o (by simp[okW];omega);go_wp2;go_ret;exact⟨by rw[A.o];rfl,rfl⟩
   by_cases Z:20<(s.size:Int)
   ·have A:Hid (q1c ws=5):=D.o (by simp[okW];omega);go_wp2;go_ret;exact⟨by rw[A.o];rfl,rfl⟩
   go_wp2
   go_loopw [4] (fun i wx=>wx=wr/\∃m:Nat,m<=s.size/\i=.int .i64 m/\∀j(h:j<s.size),j<m->q8c s[j]=true) (fun i _=>s.size-(intOf i).toNat)
   case atStart=>exact⟨rfl,0,Nat.zero_le _,rfl,fun j _ M=>by omega⟩
   case round=>
    obtain⟨rfl,m,d,rfl,B⟩:=hrel;have H:Hid (∀j(h:j<s.size),j<m->q8c s[j]=true):=B;clear B;by_cases K:m<s.size
    ·have W:(m:Int)<(s.size:Int):=by omega
     cases C:q8c s[m]with
     | false=>
      have A:Hid (q1c ws=5):=D.o (j8k K C);have L:=z5d C;clear C;rcases L with L|⟨L,U⟩
      ·go_wp2;go_ret;exact⟨by rw[A.o];rfl,rfl⟩
      ·go_wp2;go_ret;exact⟨by rw[A.o];rfl,rfl⟩
     | true=>
      have O:Hid (q8c s[m]=true):=C;obtain⟨L,U⟩:=z7d C;clear C;go_wp2
      go_roundw
      case rel=>
       refine⟨by trivial,m+1,by omega,by go_num,?_⟩;intro j h M;by_cases G:j=m
       ·subst G;exact O.o
       ·exact H.o j h (by omega)
      case measure=>simp[intOf];omega
    ·have A:Hid (∀j(h:j<ws.length),j<k+1->okW ws[j]=true):=I.o (k7k (by omega) (by omega) fun j h=>H.o j h (by omega));go_wp2
     go_roundw
     case rel=>exact⟨by trivial,k+1,by omega,by go_num,A.o⟩
     case measure=>simp[intOf];omega
  ·have A:Hid (q1c ws=0):=z7e (by omega) fun j h=>N.o j h (by omega)
   go_wp2;go_ret;exact⟨by rw[A.o];rfl,rfl⟩
theorem q7a(ws:List ByteArray)(a:Option Addr)(cap:Nat)(w:World)(hF:Few ws)(hW:Wds w a ws):
  Calls prog 124 #[.slice a ws.length cap] w fun e w'=>e=.returned (.string (jnS ws))/\w=w':=by
 have L:Hid (Wds w a ws):=hW;have G:Hid (Few ws):=hF;have R:=hF.1;clear hW hF;go_in;go_wp2
 go_loopw [3,4] (fun s i wr=>wr=w/\∃k:Nat,k<=ws.length/\i=.int .i64 k/\s=.string (jnS (ws.take k))) (fun _ i _=>ws.length-(intOf i).toNat)
 case atStart=>exact⟨rfl,0,Nat.zero_le _,rfl,rfl⟩
 case round=>
  obtain⟨rfl,k,Q,rfl,rfl⟩:=hrel;by_cases A:k<ws.length
  ·obtain⟨P,S,M,N,H⟩:=L.o k A;subst M;have O:(k:Int)<(ws.length:Int):=by omega
   have I:=G.o.2 _ (List.getElem_mem A);have J:(jnS (ws.take k)).size<=1260:=by rw[z3a];exact(G.o.take k).ln
   by_cases C:k=0
   ·have B:Hid (jnS (ws.take (k+1))=jnS (ws.take k)++ws[k]):=by
     show _=_;subst C;rw[List.take_zero,y1k,j4x A];exact(ByteArray.empty_append).symm
    have D:¬(0:Int)<(k:Int):=by omega
    generalize ws[k]=x at H B I;generalize jnS (ws.take k)=z at B J;clear C;go_wp2
    go_roundw
    case rel=>exact⟨by trivial,k+1,by omega,by go_num,by rw[B.o]⟩
    case measure=>simp[intOf];omega
   ·have B:Hid (jnS (ws.take (k+1))=jnS (ws.take k)++⟨#[32]⟩++ws[k]):=v4a (by omega) A;have D:(0:Int)<(k:Int):=by omega
    generalize ws[k]=x at H B I;generalize jnS (ws.take k)=z at B J;clear C;go_wp2
    go_roundw
    case rel=>exact⟨by trivial,k+1,by omega,by go_num,by rw[B.o]⟩
    case measure=>simp[intOf];omega
  ·have E:k=ws.length:=by omega
   subst E;have K:Hid (jnS (ws.take ws.length)=jnS ws):=by show _=_;rw[List.take_length]
   go_wp2;go_ret;exact⟨by rw[<-K.o];rfl,rfl⟩
theorem v5m(ws:List ByteArray)(a:Option Addr)(cap wd:Nat)(last:Bool)(w:World)(hF:Few ws)(hw:wd<=100)(hW:Wds w a ws):
  Calls prog 123 #[.slice a ws.length cap,.int .i64 wd,.bool last] w fun e w'=>e=.returned (.int .i64 (bd (ln ws) wd last))/\w=w':=by
 have D:Hid (Wds w a ws):=hW;have C:Hid (Few ws):=hF;have I:=hF.ln;have B:Hid ((jnS ws).size=ln ws):=z3a ws;clear hW hF;generalize ln ws=n at I B;by_cases h:wd<n
 ·have A:Hid ((bd n wd last:Int)=1000*((n:Int)-wd)):=j2h h;have E:(wd:Int)<n:=by omega
  clear h;go_in;go_wp2_with fail;refine(q7a ws a cap _ C.o D.o).mono ?_;rintro e H⟨rfl,rfl⟩;have G:=B.o;go_wp2;go_ret;exact⟨by rw[A.o];go_num,rfl⟩
 ·cases last with
  | true=>
   have A:Hid (bd n wd true=0):=j2g h;have E:¬(wd:Int)<n:=by omega
   clear h;go_in;go_wp2_with fail;refine(q7a ws a cap _ C.o D.o).mono ?_;rintro e H⟨rfl,rfl⟩;have G:=B.o;go_wp2;go_ret;exact⟨by rw[A.o];rfl,rfl⟩
  | false=>
   have A:Hid ((bd n wd false:Int)=((wd:Int)-n)*((wd:Int)-n)):=k5u h;have E:¬(wd:Int)<n:=by omega
   have L:IntKind.i64.wrap ((wd:Int)-n)=(wd:Int)-n:=by rw[IntKind.wrap_i64];omega
   have M:IntKind.i64.wrap (((wd:Int)-n)*((wd:Int)-n))=((wd:Int)-n)*((wd:Int)-n):=by
    have J:0<=((wd:Int)-n)*((wd:Int)-n):=Int.mul_nonneg (by omega) (by omega);have K:((wd:Int)-n)*((wd:Int)-n)<=100*100:=Int.mul_le_mul (by omega) (by omega) (by omega) (by omega);rw[IntKind.wrap_i64];omega
   clear h;go_in;go_wp2_with fail;refine(q7a ws a cap _ C.o D.o).mono ?_;rintro e H⟨rfl,rfl⟩;have G:=B.o;go_wp2;go_ret;exact⟨by rw[A.o];rfl,rfl⟩
theorem y2t(a:Option Addr)(n c k:Nat)(hk:k<=c)(W:World):
  (Instr.slice 42 (.slice a n c) none (some (.int .i64 (k:Int))) none).run prog W=.ok (.slice a k c) W:=by
 rw[run_slice_h W 42 a n c Tryz.underlying42 .i64 (k:Int) (by omega) (by omega)];have A:(sizeOf (prog.elem 42)).run prog W=.ok 1 W:=by kernel_rfl
 rw[A];simp[Result.andThen,sliced,Addr.add]
theorem y2u{B:Nat}{w:World}{b o c k:Nat}{ws:List ByteArray}(h:z2r B w (some ⟨b,o,none⟩) ws)(hk:k<=ws.length)(hc:ws.length<=c):
  ∃A,(∀W:World,(Instr.slice 42 (.slice (some ⟨b,o,none⟩) ws.length c) (some (.int .i64 (k:Int))) none none).run prog W=.ok (.slice A (ws.drop k).length (c-k)) W)/\z2r B w A (ws.drop k):=by
 refine⟨if c=k then some ⟨b,o,none⟩else some ⟨b,o+k,none⟩,fun W=>?_,?_⟩
 ·rw[run_slice_l W 42 _ ws.length c Tryz.underlying42 .i64 (k:Int) (by omega) (by omega)];have D:(sizeOf (prog.elem 42)).run prog W=.ok 1 W:=by kernel_rfl
  rw[D]
  have C:(⟨b,o,none⟩:Addr).add k=⟨b,o+k,none⟩:=by
   unfold Addr.add
   split
   ·rename_i h;subst h;rfl
   ·rfl
  simp[Result.andThen,sliced,C]
 ·by_cases e:c=k
  ·have:ws.drop k=[]:=List.drop_eq_nil_of_le (by omega)
   rw[this];exact z2r.nil _ _ _
  ·rw[if_neg e];exact h.drop k
theorem j9o(b o n c i k:Nat)(hi:i<c)(hk:i+k<=c)(W:World):
  (Instr.slice 42 (.slice (some ⟨b,o,none⟩) n c) (some (.int .i64 (i:Int))) (some (.int .i64 ((i:Int)+(k:Int)))) none).run prog W=.ok (.slice (some ⟨b,o+i,none⟩) k (c-i)) W:=by
 rw[run_slice_lh W 42 _ n c Tryz.underlying42 .i64 .i64 (i:Int) ((i:Int)+(k:Int)) (by omega) (by omega) (by omega)];have E:(sizeOf (prog.elem 42)).run prog W=.ok 1 W:=by kernel_rfl
 rw[E]
 have D:(⟨b,o,none⟩:Addr).add i=⟨b,o+i,none⟩:=by
  unfold Addr.add
  split
  ·rename_i h;subst h;rfl
  ·rfl
 have A:((i:Int)+(k:Int)).toNat=i+k:=by omega
 have B:¬c=i:=by omega
 have C:i+k-i=k:=by omega
 simp[Result.andThen,sliced,D,A,B,C]
theorem z2l:(prog.info? 3).map (fun i=>(i.zero,i.size,i.bytes))=some (some (.int .i64 0),1,8):=by kernel_rfl
theorem q9d:(prog.info? 9).map (fun i=>(i.zero,i.size,i.bytes))=some (some (.string ⟨#[]⟩),1,16):=by kernel_rfl
def z9u(w:World)(b n:Nat):Prop:=∃cs T,w.heap[b]?=some (.cells cs T (0,0))/\cs.size=n
theorem z9u.lt{w:World}{b n:Nat}(h:z9u w b n):b<w.heap.size:=by
 obtain⟨B,T,h,_⟩:=h;rcases Nat.lt_or_ge b w.heap.size with A|A
 ·exact A
 ·simp[Array.getElem?_eq_none A]at h
theorem z9u.cell{w:World}{b n i:Nat}(h:z9u w b n)(hi:i<n):∃y,w.cell? ⟨b,i,none⟩=some y:=by
 obtain⟨A,T,h,B⟩:=h;refine⟨A[i],?_⟩;simp[World.cell?,h]
theorem z9u.frozen{w:World}{b n i:Nat}(h:z9u w b n):w.frozen? ⟨b,i,none⟩=false:=by
 obtain⟨A,T,h,B⟩:=h;simp[World.frozen?,h]
theorem z9u.kept{w w':World}{b n:Nat}(h:z9u w b n)(hb:w'.heap[b]?=w.heap[b]?):z9u w' b n:=by
 obtain⟨A,T,h,B⟩:=h;exact⟨A,T,hb.trans h,B⟩
theorem z9u.set{w:World}{b n c i:Nat}{v:Value}(h:z9u w b n):z9u (w.setCell ⟨c,i,none⟩ v) b n:=by
 by_cases e:c=b
 ·subst e;obtain⟨A,T,h,B⟩:=h;exact⟨A.setIfInBounds i v,T,by simp[World.setCell,Array.getElem?_modify,h],by simpa using B⟩
 ·exact h.kept (Below.heap_setCell _ _ _ _ (Ne.symm e))
theorem k1q{n j:Nat}(z:Value)(h:j<n):(madeCells #[z] n)[j]?=some z:=by
 simp[madeCells,h,Nat.mod_one]
def q2g(ks:List Nat):List Value:=ks.map fun(k:Nat)=>.int .i64 (k:Int)
theorem z2n(a b:List Nat):q2g (a++b)=q2g a++q2g b:=by simp[q2g]
def z1g(B:Nat)(v:Value)(ks:List Nat)(w:World):Prop:=w.ownsRow B 3 1 v ks.length (q2g ks)
theorem q0d{B:Nat}{w w':World}(h:Below B w w')(n:Nat):Below B w (w'.drewN n):=h.trans ⟨rfl,rfl,rfl,Nat.le_refl _,fun _ _=>rfl⟩
theorem j2j{B:Nat}{w w':World}{b1 o1 b2 o2:Nat}{v1 v2:Value}(h:Below B w w')(h1:B<=b1)(h2:B<=b2):Below B w ((w'.setCell ⟨b1,o1,none⟩ v1).setCell ⟨b2,o2,none⟩ v2):=
 (h.setCell (p:=⟨b1,o1,none⟩) h1 _).setCell (p:=⟨b2,o2,none⟩) h2 _
theorem z6q{B:Nat}{w:World}{A:Option Addr}{n c:Nat}{ks:List Nat}(h:z1g B (.slice A n c) ks w)(j:Nat)(hj:j<ks.length):∃g,A=some ⟨g,0,none⟩/\g<w.heap.size/\w.cell? ⟨g,j,none⟩=some (.int .i64 ((ks[j]:Nat):Int)):=by
 rcases h.2 with⟨E,K⟩|⟨g,c,H,E,_,G,I,_,J,C⟩
 ·omega
 ·simp only[Value.slice.injEq]at E;obtain⟨rfl,rfl,rfl⟩:=E;refine⟨g,rfl,(Array.getElem?_eq_some_iff.1 G).1,?_⟩;have D:(q2g ks)[j]?=some (.int .i64 ((ks[j]:Nat):Int)):=by simp[q2g,hj]
  rw[<-C]at D;rw[List.getElem?_take_of_lt (by omega)]at D;simp only[World.cell?,G];simpa using D
theorem q3o{w w':World}{B e A n:Nat}{v:Value}{xs:List Value}(h:w.ownsRow B e A v n xs)(hb:Below w w w'):w'.ownsRow B e A v n xs:=by
 refine⟨h.1,?_⟩;rcases h.2 with G|⟨g,c,D,rfl,H,E,C⟩
 ·exact .inl G
 ·exact .inr ⟨g,c,D,rfl,H,(hb.block g (Array.getElem?_eq_some_iff.1 E).1).trans E,C⟩
def strCells(xs:List ByteArray):List Value:=xs.map fun x=>.string x
theorem q2f(a b:List ByteArray):strCells (a++b)=strCells a++strCells b:=by simp[strCells]
def q1x(B:Nat)(v:Value)(xs:List ByteArray)(w:World):Prop:=w.ownsRow B 9 1 v xs.length (strCells xs)
theorem q3p{B:Nat}{w:World}{A:Option Addr}{n c:Nat}{xs:List ByteArray}(h:q1x B (.slice A n c) xs w):Wds w A xs:=by
 intro j I;rcases h.2 with⟨E,L⟩|⟨g,c,H,E,_,G,J,_,K,C⟩
 ·omega
 ·simp only[Value.slice.injEq]at E;obtain⟨rfl,rfl,rfl⟩:=E;refine⟨g,0,rfl,(Array.getElem?_eq_some_iff.1 G).1,?_⟩;have D:(strCells xs)[j]?=some (.string xs[j]):=by simp[strCells,I]
  rw[<-C]at D;rw[List.getElem?_take_of_lt (by omega)]at D;rw[Nat.zero_add];simp only[World.cell?,G];simpa using D
theorem j8t{w:World}{B e A n k:Nat}{v:Value}{xs:List Value}(h:w.ownsRow B e A v n xs)(hk:v.ownBlock=some k):∃cur,w.heap[k]?=some (.cells cur e (0,0)):=by
 rcases h.2 with⟨rfl,_⟩|⟨g,c,cur,rfl,_,C,_⟩
 ·simp[Value.ownBlock]at hk
 ·simp only[Value.ownBlock,Option.some.injEq]at hk;subst hk;exact⟨cur,C⟩
theorem z1y{w w':World}{B B' e e' A C n n':Nat}{v v':Value}{xs D:List Value}(h:w.ownsRow B e A v n xs)(h':w.ownsRow B' e' C v' n' D)(he:e≠e')(hg:w.grownBy w' v'.ownBlock):w'.ownsRow B e A v n xs:=by
 refine h.kept hg ?_;cases H:v.ownBlock with
 | none=>exact .inl rfl
 | some k=>
  refine .inr fun e0=>?_
  obtain⟨I,G⟩:=j8t h H;obtain⟨J,E⟩:=j8t h' e0.symm;rw[G]at E;cases E;exact he rfl
theorem y2q(n:Nat)(ws:List ByteArray)(hn:ws.length=n)(a:Option Addr)(cap wd:Nat)(last:Bool)(w:World)(hF:Few ws)(hw:wd<=100)(hW:Wds w a ws):
  Calls prog 123 #[.slice a n cap,.int .i64 wd,.bool last] w fun e w'=>e=.returned (.int .i64 (bd (ln ws) wd last))/\w=w':=by
 subst hn;exact v5m ws a cap wd last w hF hw hW
theorem v7f(n:Nat)(ws:List ByteArray)(hn:ws.length=n)(a:Option Addr)(cap:Nat)(w:World)(h0:ws≠[])(hF:Few ws)(hW:Wds w a ws):
  Calls prog 211 #[.slice a n cap] w fun e w'=>e=.returned (.int .i64 (ln ws))/\w=w':=by
 subst hn;exact v1f ws a cap w h0 hF hW
structure Lst(wd:Nat)(ws:List ByteArray)(bL bF k:Nat)(w:World):Prop where
 ne:bL≠bF
 rl:z9u w bL (ws.length+1)
 rf:z9u w bF ws.length
 cl:∀j,k<=j->j<=ws.length->w.cell? ⟨bL,j,none⟩=some (.int .i64 ((best wd (ws.drop j):Nat):Int))
 cf:∀j,k<=j->j<ws.length->w.cell? ⟨bF,j,none⟩=some (.int .i64 ((agF wd (ws.drop j):Nat):Int))
theorem Lst.kept{wd:Nat}{ws:List ByteArray}{bL bF k:Nat}{w w':World}(h:Lst wd ws bL bF k w)(h1:w'.heap[bL]?=w.heap[bL]?)(h2:w'.heap[bF]?=w.heap[bF]?):Lst wd ws bL bF k w' where
 ne:=h.ne
 rl:=h.rl.kept h1
 rf:=h.rf.kept h2
 cl:=fun j a b=>(World.cell?_of_block (w:=w) (a:=⟨bL,j,none⟩) h1).trans (h.cl j a b)
 cf:=fun j a b=>(World.cell?_of_block (w:=w) (a:=⟨bF,j,none⟩) h2).trans (h.cf j a b)
theorem Lst.made(wd:Nat)(ws:List ByteArray)(w:World):
  Lst wd ws w.heap.size (w.heap.size+1) ws.length ((w.alloc (.cells (madeCells #[.int .i64 0] (ws.length+1)) 3)).alloc (.cells (madeCells #[.int .i64 0] ws.length) 3)):=by
 have A:((w.alloc (.cells (madeCells #[.int .i64 0] (ws.length+1)) 3)).alloc (.cells (madeCells #[.int .i64 0] ws.length) 3)).heap[w.heap.size]?=some (.cells (madeCells #[.int .i64 0] (ws.length+1)) 3 (0,0)):=
  (Below.heap_alloc _ _ _ (by simp)).trans (heap_alloc_new w _)
 have B:((w.alloc (.cells (madeCells #[.int .i64 0] (ws.length+1)) 3)).alloc (.cells (madeCells #[.int .i64 0] ws.length) 3)).heap[w.heap.size+1]?=some (.cells (madeCells #[.int .i64 0] ws.length) 3 (0,0)):=by
  have:=heap_alloc_new (w.alloc (.cells (madeCells #[.int .i64 0] (ws.length+1)) 3)) (.cells (madeCells #[.int .i64 0] ws.length) 3)
  simpa using this
 refine⟨by omega,⟨_,_,A,size_madeCells _ _⟩,⟨_,_,B,size_madeCells _ _⟩,fun j a b=>?_,fun j a b=>by omega⟩;obtain rfl:j=ws.length:=by omega
 have:best wd (ws.drop ws.length)=0:=by rw[List.drop_length];rfl
 rw[this];simp only[World.cell?,A];exact k1q _ (by omega)
structure Mid(wd:Nat)(ws:List ByteArray)(bL bF i m:Nat)(w:World):Prop where
 l:Lst wd ws bL bF (i+1) w
 c:1<=m->w.cell? ⟨bL,i,none⟩=some (.int .i64 ((q9b (fOf wd (ws.drop i)) m:Nat):Int))/\w.cell? ⟨bF,i,none⟩=some (.int .i64 ((j1n (fOf wd (ws.drop i)) m:Nat):Int))
theorem Mid.kept{wd:Nat}{ws:List ByteArray}{bL bF i m:Nat}{w w':World}(h:Mid wd ws bL bF i m w)(h1:w'.heap[bL]?=w.heap[bL]?)(h2:w'.heap[bF]?=w.heap[bF]?):Mid wd ws bL bF i m w' where
 l:=h.l.kept h1 h2
 c:=fun hm=>⟨(World.cell?_of_block (w:=w) (a:=⟨bL,i,none⟩) h1).trans (h.c hm).1,(World.cell?_of_block (w:=w) (a:=⟨bF,i,none⟩) h2).trans (h.c hm).2⟩
theorem Mid.start{wd:Nat}{ws:List ByteArray}{bL bF i:Nat}{w:World}(h:Lst wd ws bL bF (i+1) w):Mid wd ws bL bF i 0 w:=⟨h,fun hm=>by omega⟩
theorem Mid.skip{wd:Nat}{ws:List ByteArray}{bL bF i m:Nat}{w:World}(h:Mid wd ws bL bF i m w)(h1:¬(m=0\/fOf wd (ws.drop i) (m+1)<=q9b (fOf wd (ws.drop i)) m)):Mid wd ws bL bF i (m+1) w:=by
 refine⟨h.l,fun _=>?_⟩;rw[q9b,j1n,if_neg h1,if_neg h1];exact h.c (by omega)
theorem Mid.put{wd:Nat}{ws:List ByteArray}{bL bF i m:Nat}{w:World}(h:Mid wd ws bL bF i m w)(hi:i<ws.length)(h1:m=0\/fOf wd (ws.drop i) (m+1)<=q9b (fOf wd (ws.drop i)) m):
  Mid wd ws bL bF i (m+1) ((w.setCell ⟨bL,i,none⟩ (.int .i64 ((fOf wd (ws.drop i) (m+1):Nat):Int))).setCell ⟨bF,i,none⟩ (.int .i64 ((m:Int)+1))):=by
 have ne:=h.l.ne;refine⟨⟨ne,h.l.rl.set.set,h.l.rf.set.set,fun j a b=>?_,fun j a b=>?_⟩,fun _=>?_⟩
 ·exact(cso (.inl (Ne.symm ne))).trans ((cso (.inr (by omega))).trans (h.l.cl j a b))
 ·exact(cso (.inr (by omega))).trans ((cso (.inl ne)).trans (h.l.cf j a b))
 ·rw[q9b,j1n,if_pos h1,if_pos h1];obtain⟨C,A⟩:=h.l.rl.cell (i:=i) (by omega);obtain⟨D,B⟩:=h.l.rf.cell (i:=i) hi;exact⟨(cso (.inl (Ne.symm ne))).trans (css A),css ((cso (.inl ne)).trans B)⟩
theorem Mid.done{wd:Nat}{ws:List ByteArray}{bL bF i m:Nat}{w:World}(h:Mid wd ws bL bF i m w)(hi:i<ws.length)(hm:m=ws.length-i):Lst wd ws bL bF i w:=by
 have A:ws.drop i≠[]:=fun e=>by
  have:=congrArg List.length e
  rw[List.length_drop,List.length_nil]at this;omega
 obtain⟨B,C⟩:=h.c (by omega);refine⟨h.l.ne,h.l.rl,h.l.rf,fun j a b=>?_,fun j a b=>?_⟩
 ·by_cases e:j=i
  ·subst e;rw[z3m wd A,List.length_drop,<-hm];exact B
  ·exact h.l.cl j (by omega) b
 ·by_cases e:j=i
  ·subst e;rw[agF,List.length_drop,<-hm];exact C
  ·exact h.l.cf j (by omega) b
theorem j3u(wd:Nat)(ws:List ByteArray)(i k:Nat):fOf wd (ws.drop i) k=bd (ln ((ws.drop i).take k)) wd (k==ws.length-i)+best wd (ws.drop (i+k)):=by
 rw[fOf,List.drop_drop,List.length_drop]
end Go.Proofs.YthcpdohdppkmkaaGreatDoor
