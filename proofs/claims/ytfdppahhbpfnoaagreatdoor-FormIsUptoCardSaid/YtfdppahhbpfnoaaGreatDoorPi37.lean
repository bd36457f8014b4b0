import Derived.Test.YtfdppahhbpfnoaaGreatDoorPi30
import Derived.Test.YtfdppahhbpfnoaaGreatDoorPi29
open Go.Proofs.Tryz
namespace Go.Proofs.YtfdppahhbpfnoaaGreatDoor
open Go Go.RowKit
set_option maxRecDepth 100000
set_option maxHeartbeats 4000000
theorem y6e(B b s be bf:Nat)(hb:s<B/\be<B/\bf<B)(hB:B<=b)(ds:List Nd)(a:Option Addr)(cap:Nat)(_hl:ds.length<=400)(tx:ByteArray)(n:Int)(A:List Nd)(f:Nat->List Int->Except Int (List UInt8 × List Int))(hA:k2y 92 B b s be bf ds a cap (⟨8,tx,n⟩::A) f):q3n B b s be bf ds a cap (⟨8,tx,n⟩::A) (f):=by
 intro i r D K X wc l w S Q k J V E G U;obtain⟨hi,g,h⟩:=q1u (x:=⟨8,tx,n⟩) (A:=A++r) S;obtain⟨N,ea,Z,c,d⟩:=Q.nd i hi;subst ea;rw[g]at Z c d;dsimp only at Z c d;have c0:=E.c0;have c1:=E.c1;have c2:=E.c2;have c5:=E.c5;have Ab:=E.lt;have Ac:s<w.heap.size:=by omega
 have R:B<=w.heap.size:=by omega
 have Aa:(i:Int)<(ds.length:Int):=by omega
 have t:Hid (ds.drop i=⟨8,tx,n⟩::(A++r)):=S;have y:Hid (ds.drop (i+1)=A++r):=h;have q:Hid (LC B s be bf (some ⟨s,N,none⟩) ds w):=Q;have HI:Hid (q1h B w X K):=k;have HW:Hid (WS B b (q7d be bf ds.length cap (some ⟨s,N,none⟩)) l (.slice X K.length wc) w):=E;have L:Hid (∀O:Obj,Below B w (w.alloc O)):=fun O=>(Below.refl _ w).alloc R O
 clear Q k E S g h;have z:Hid (k2y 92 B b s be bf ds (some ⟨s,N,none⟩) cap (⟨8,tx,n⟩::A) f):=hA;have P:Hid (q2q K):=J;clear hA J;go_in;go_wp2_with fail;refine(z.o i r D K X wc l _ t.o (q.o.W hb (L.o _)) (HI.o.W (L.o _)) P.o V (HW.o.alloc _) G U).mono ?_;rintro e m⟨M,I⟩;cases C:f D K with
 | error er=>
  rw[C]at M;obtain⟨H,rfl⟩:=M;have Y:Hid (er≠0):=H;rw[q0t H];clear H;go_wp2;go_ret;refine⟨?_,((L.o _).trans I)⟩;rw[C];exact⟨Y.o,by rw[q0t Y.o];rfl⟩
 | ok p=>
  obtain⟨u,v⟩:=p;rw[C]at M;obtain⟨rfl,j⟩:=M;have o:Hid (∃wa' wc',WS B b (q7d be bf ds.length cap (some ⟨s,N,none⟩)) (l++u) (.slice wa' v.length wc') m/\q1h B m wa' v/\v.length<=wc'):=j;clear j;go_wp2;go_ret;refine⟨?_,((L.o _).trans I)⟩;rw[C];exact⟨rfl,o.o⟩
theorem y6f(B b s be bf:Nat)(hb:s<B/\be<B/\bf<B)(hB:B<=b)(ds:List Nd)(a:Option Addr)(cap:Nat)(_hl:ds.length<=400)(tx:ByteArray)(n:Int)(A C:List Nd)(f:Nat->List Int->Except Int (List UInt8 × List Int))(hA:k2y 92 B b s be bf ds a cap (⟨9,tx,n⟩::(A++C)) f):q3n B b s be bf ds a cap (⟨9,tx,n⟩::(A++C)) (f):=by
 intro i r E L Y wc l w U R m K X G H V;obtain⟨hi,h,j⟩:=q1u (x:=⟨9,tx,n⟩) (A:=(A++C)++r) U;obtain⟨P,ea,c,d,g⟩:=R.nd i hi;subst ea;rw[h]at c d g;dsimp only at c d g;have c0:=G.c0;have c1:=G.c1;have c2:=G.c2;have c5:=G.c5;have Ab:=G.lt;have Ac:s<w.heap.size:=by omega
 have S:B<=w.heap.size:=by omega
 have Aa:(i:Int)<(ds.length:Int):=by omega
 have y:Hid (ds.drop i=⟨9,tx,n⟩::((A++C)++r)):=U;have z:Hid (ds.drop (i+1)=(A++C)++r):=j;have t:Hid (LC B s be bf (some ⟨s,P,none⟩) ds w):=R;have HI:Hid (q1h B w Y L):=m;have HW:Hid (WS B b (q7d be bf ds.length cap (some ⟨s,P,none⟩)) l (.slice Y L.length wc) w):=G;have M:Hid (∀O:Obj,Below B w (w.alloc O)):=fun O=>(Below.refl _ w).alloc S O
 clear R m G U h j;have HF:Hid (k2y 92 B b s be bf ds (some ⟨s,P,none⟩) cap (⟨9,tx,n⟩::(A++C)) f):=hA;have Q:Hid (q2q L):=K;clear hA K;go_in;go_wp2_with fail;refine(HF.o i r E L Y wc l _ y.o (t.o.W hb (M.o _)) (HI.o.W (M.o _)) Q.o X (HW.o.alloc _) H V).mono ?_;rintro e o⟨N,J⟩;cases D:f E L with
 | error er=>
  rw[D]at N;obtain⟨I,rfl⟩:=N;have Z:Hid (er≠0):=I;rw[q0t I];clear I;go_wp2;go_ret;refine⟨?_,((M.o _).trans J)⟩;rw[D];exact⟨Z.o,by rw[q0t Z.o];rfl⟩
 | ok p=>
  obtain⟨u,v⟩:=p;rw[D]at N;obtain⟨rfl,k⟩:=N;have q:Hid (∃wa' wc',WS B b (q7d be bf ds.length cap (some ⟨s,P,none⟩)) (l++u) (.slice wa' v.length wc') o/\q1h B o wa' v/\v.length<=wc'):=k;clear k;go_wp2;go_ret;refine⟨?_,((M.o _).trans J)⟩;rw[D];exact⟨rfl,q.o⟩
theorem y6c(B b s be bf:Nat)(hb:s<B/\be<B/\bf<B)(hB:B<=b)(ds:List Nd)(a:Option Addr)(cap:Nat)(hl:ds.length<=400)(tx:ByteArray)(n:Int)(A C:List Nd)(f g:Nat->List Int->Except Int (List UInt8 × List Int))(hA:q3n B b s be bf ds a cap A f)(hG:q3n B b s be bf ds a cap C g)(hE:∀i r,ds.drop i=A++r->r≠[]->∃t:Tr,t.Wf/\A=t.N)(hp:C≠[])(K:∀deep ws u v,f deep ws=.ok (u,v)->deep+8*A.length<=3300->u.length<=4000*A.length)(j:∀deep ws u v,q2q ws->f deep ws=.ok (u,v)->q2q v):q3n B b s be bf ds a cap (⟨6,tx,n⟩::(A++C)) (q6z f g):=by
 intro i r deep ws wa wc l w hd hC hI q Ah Q S Af;obtain⟨hi,e1,e2⟩:=q1u (x:=⟨6,tx,n⟩) (A:=(A++C)++r) hd;obtain⟨V,ea,d1,d2,d3⟩:=hC.nd i hi;subst ea;rw[e1]at d1 d2 d3;dsimp only at d1 d2 d3;have c0:=Q.c0;have c1:=Q.c1;have c2:=Q.c2;have c5:=Q.c5;have Ak:=Q.lt;have Al:s<w.heap.size:=by omega
 have Ae:B<=w.heap.size:=by omega
 have Aj:(i:Int)<(ds.length:Int):=by omega
 have HD:Hid (ds.drop i=⟨6,tx,n⟩::((A++C)++r)):=hd;have Ab:Hid (ds.drop (i+1)=(A++C)++r):=e2;have HC:Hid (LC B s be bf (some ⟨s,V,none⟩) ds w):=hC;have HI:Hid (q1h B w wa ws):=hI;have HW:Hid (WS B b (q7d be bf ds.length cap (some ⟨s,V,none⟩)) l (.slice wa ws.length wc) w):=Q;have HA:Hid (∀O:Obj,Below B w (w.alloc O)):=fun O=>(Below.refl _ w).alloc Ae O
 clear hC hI Q hd e1 e2;simp only[List.length_cons,List.length_append]at S Af;have HF:Hid (q3n B b s be bf ds (some ⟨s,V,none⟩) cap A f):=hA;have HG:Hid (q3n B b s be bf ds (some ⟨s,V,none⟩) cap C g):=hG;have HX:Hid (((i+1:Nat):Int)=(i:Int)+1):=(show _=_ by omega);have c:Hid (q2q ws):=q;have H:=Ab.o;rw[List.append_assoc]at H;have P:Hid (ds.drop (i+1)=A++(C++r)):=H;obtain⟨t,ht,et⟩:=hE _ _ H (fun h=>hp (List.append_eq_nil_iff.1 h).1);have HT:Hid (t.Wf/\A=t.N):=⟨ht,et⟩
 have Ai:(i:Int)+1<(ds.length:Int):=by
  have:=congrArg List.length H
  have J:=List.length_pos_iff.2 hp;rw[List.length_drop,List.length_append,List.length_append]at this;omega
 have HL:Hid (∀deep ws u v,f deep ws=.ok (u,v)->deep+8*A.length<=3300->u.length<=4000*A.length):=K;have Aa:Hid (∀deep ws u v,q2q ws->f deep ws=.ok (u,v)->q2q v):=j;clear hA hG q H ht et hE K j hp;go_in;go_wp2_with fail;rw[<-HX.o];refine(HF.o (i+1) (C++r) deep ws wa wc l _ P.o (HC.o.W hb (HA.o _)) (HI.o.W (HA.o _)) c.o Ah (HW.o.alloc _) (by omega) (by omega)).mono ?_;rintro e y⟨J,R⟩;cases D:f deep ws with
 | error er=>
  rw[D]at J;obtain⟨E,rfl⟩:=J;have Z:Hid (er≠0):=E;rw[q0t E];clear E;go_wp2;go_ret;refine⟨?_,(HA.o _).trans R⟩;rw[q6z,D];exact⟨Z.o,by rw[q0t Z.o];rfl⟩
 | ok p=>
  obtain⟨u0,L⟩:=p;rw[D]at J;obtain⟨rfl,X,z,U,o,Ag⟩:=J;have M:Hid (Below B w y):=(HA.o _).trans R;have Y:Hid (LC B s be bf (some ⟨s,V,none⟩) ds y):=HC.o.W hb M.o;have Ad:Hid (WS B b (q7d be bf ds.length cap (some ⟨s,V,none⟩)) (l++u0) (.slice X L.length z) y):=U;have Ac:Hid (q1h B y X L):=o;have g1:=U.c1;have Am:=HL.o deep ws u0 L D (by omega);have d:Hid (q2q L):=Aa.o deep ws u0 L c.o D
  have ge:y.cell? ⟨be,i+1,none⟩=some (.int .i64 ((i+1+A.length:Nat):Int)):=by
   have m:=P.o;rw[HT.o.2]at m⊢;exact(Y.o.kn (i+1) t (C++r) (Nat.zero_le _) HT.o.1 m).1
  have I:Hid (f deep ws=.ok (u0,L)):=D;clear U o R D;go_wp2_with fail;refine(HG.o (i+1+A.length) r deep L X z (l++u0) _ (z8e P.o) Y.o Ac.o d.o Ag Ad.o (by omega) (by rw[List.length_append];omega)).mono ?_;rintro e w3⟨J,k⟩;cases G:g deep L with
  | error er=>
   rw[G]at J;obtain⟨E,rfl⟩:=J;have Z:Hid (er≠0):=E;rw[q0t E];clear E;go_wp2;go_ret;refine⟨?_,(M.o.trans k)⟩;rw[q6z,I.o];dsimp only;rw[G];exact⟨Z.o,by rw[q0t Z.o];rfl⟩
  | ok p=>
   obtain⟨u,v⟩:=p;rw[G]at J;obtain⟨rfl,h3⟩:=J;have H3:Hid (∃wa' wc',WS B b (q7d be bf ds.length cap (some ⟨s,V,none⟩)) ((l++u0)++u) (.slice wa' v.length wc') w3/\q1h B w3 wa' v/\v.length<=wc'):=h3;clear h3;go_wp2;go_ret;refine⟨?_,(M.o.trans k)⟩;rw[q6z,I.o];dsimp only;rw[G];rw[List.append_assoc]at H3;exact⟨rfl,H3.o⟩
theorem y6d(B b s be bf:Nat)(hb:s<B/\be<B/\bf<B)(hB:B<=b)(ds:List Nd)(a:Option Addr)(cap:Nat)(hl:ds.length<=400)(tx:ByteArray)(n:Int)(Ac:0<=n)(Ad:n<=8)(A:List Nd)(f:Nat->List Int->Except Int (List UInt8 × List Int))(hA:q3n B b s be bf ds a cap A f):q3n B b s be bf ds a cap (⟨7,tx,n⟩::A) (fun deep ws=>f (deep+n.toNat) ws):=by
 intro i r deep ws V wc l w R P j I U D E S;obtain⟨hi,d,g⟩:=q1u (x:=⟨7,tx,n⟩) (A:=A++r) R;obtain⟨L,ea,Y,Z,c⟩:=P.nd i hi;subst ea;rw[d]at Y Z c;dsimp only at Y Z c;have c0:=D.c0;have c1:=D.c1;have c2:=D.c2;have c5:=D.c5;have Ab:=D.lt;have Ae:s<w.heap.size:=by omega
 have Q:B<=w.heap.size:=by omega
 have Aa:(i:Int)<(ds.length:Int):=by omega
 have HD:Hid (ds.drop i=⟨7,tx,n⟩::(A++r)):=R;have M:Hid (ds.drop (i+1)=A++r):=g;have o:Hid (LC B s be bf (some ⟨s,L,none⟩) ds w):=P;have t:Hid (q1h B w V ws):=j;have y:Hid (WS B b (q7d be bf ds.length cap (some ⟨s,L,none⟩)) l (.slice V ws.length wc) w):=D;have J:Hid (∀O:Obj,Below B w (w.alloc O)):=fun O=>(Below.refl _ w).alloc Q O
 clear P j D R d g;simp only[List.length_cons]at E S;have q:Hid (q3n B b s be bf ds (some ⟨s,L,none⟩) cap A f):=hA;have z:Hid (((i+1:Nat):Int)=(i:Int)+1):=(show _=_ by omega);have HY:Hid (((deep+n.toNat:Nat):Int)=(deep:Int)+n):=(show _=_ by omega);have N:Hid (q2q ws):=I;clear hA I;go_in;go_wp2_with fail;rw[<-z.o,<-HY.o];refine(q.o (i+1) r (deep+n.toNat) ws V wc l _ M.o (o.o.W hb (J.o _)) (t.o.W (J.o _)) N.o U (y.o.alloc _) (by omega) (by omega)).mono ?_;rintro e k⟨K,H⟩;cases C:f (deep+n.toNat) ws with
 | error er=>
  rw[C]at K;obtain⟨G,rfl⟩:=K;have X:Hid (er≠0):=G;rw[q0t G];clear G;go_wp2;go_ret;refine⟨?_,(J.o _).trans H⟩;rw[C];exact⟨X.o,by rw[q0t X.o];rfl⟩
 | ok p=>
  obtain⟨u,v⟩:=p;rw[C]at K;obtain⟨rfl,h⟩:=K;have m:Hid (∃wa' wc',WS B b (q7d be bf ds.length cap (some ⟨s,L,none⟩)) (l++u) (.slice wa' v.length wc') k/\q1h B k wa' v/\v.length<=wc'):=h;clear h;go_wp2;go_ret;refine⟨?_,(J.o _).trans H⟩;rw[C];exact⟨rfl,m.o⟩
end Go.Proofs.YtfdppahhbpfnoaaGreatDoor
