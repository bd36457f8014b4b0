import Derived.Test.YtfdppahhbpfnoaaGreatDoorPb24
import Derived.Test.YtfdppahhbpfnoaaGreatDoorPb28
import Derived.Test.YtfdppahhbpfnoaaGreatDoorPb29
open Go.Proofs.Tryz
namespace Go.Proofs.YtfdppahhbpfnoaaGreatDoor
open Go Go.RowKit
set_option maxRecDepth 100000
set_option maxHeartbeats 4000000
theorem y8o(B b s be bf:Nat)(_hb:s<B/\be<B/\bf<B)(hB:B<=b)(ds:List Nd)(a:Option Addr)(cap:Nat)(_hl:ds.length<=400)(tx:ByteArray)(n:Int):q3a B b s be bf ds a cap (⟨5,tx,n⟩::[]) (fun _ ws=>.ok ([],ws)):=by
 intro i r Q ws K wc l w H E U _ J C D I;obtain⟨d,R,S⟩:=q1k (x:=⟨5,tx,n⟩) (A:=[]++r) H;obtain⟨V,c,M,N,P⟩:=E.nd i d;subst c;rw[R]at M N P;dsimp only at M N P;have k:=C.c0;have m:=C.c1;have o:=C.c2;have p:=C.c5;have f:=C.lt;have g:s<w.heap.size:=by omega
 have G:B<=w.heap.size:=by omega
 have e:(i:Int)<(ds.length:Int):=by omega
 have j:Hid (ds.drop i=⟨5,tx,n⟩::([]++r)):=H;have X:Hid (ds.drop (i+1)=[]++r):=S;have h:Hid (LC B s be bf (some ⟨s,V,none⟩) ds w):=E;have Y:Hid (q2q B w K ws):=U;have Z:Hid (WS B b (q6i be bf ds.length cap (some ⟨s,V,none⟩)) l (.slice K ws.length wc) w):=C;have L:Hid (∀O:Obj,Below B w (w.alloc O)):=fun O=>(Below.refl _ w).alloc G O
 clear E U C H R S;simp only[List.length_cons,List.length_nil]at D I;go_in;go_wp2;go_ret;exact⟨⟨rfl,K,wc,by rw[List.append_nil];exact Z.o.alloc _,Y.o.W (L.o _),J⟩,L.o _⟩
theorem y8k(B b s be bf:Nat)(_hb:s<B/\be<B/\bf<B)(hB:B<=b)(ds:List Nd)(a:Option Addr)(cap:Nat)(_hl:ds.length<=400)(tx:ByteArray)(n:Int)(ht:tx.size<=20):q3a B b s be bf ds a cap (⟨1,tx,n⟩::[]) (fun _ ws=>.ok (tx.data.toList,ws)):=by
 intro i r R ws M wc l w J G V _ L C D K;obtain⟨h,S,U⟩:=q1k (x:=⟨1,tx,n⟩) (A:=[]++r) J;obtain⟨X,f,N,P,Q⟩:=G.nd i h;subst f;rw[S]at N P Q;dsimp only at N P Q;have t:=C.c0;have u:=C.c1;have v:=C.c2;have y:=C.c5;have k:=C.lt;have m:s<w.heap.size:=by omega
 have I:B<=w.heap.size:=by omega
 have j:(i:Int)<(ds.length:Int):=by omega
 have q:Hid (ds.drop i=⟨1,tx,n⟩::([]++r)):=J;have Z:Hid (ds.drop (i+1)=[]++r):=U;have p:Hid (LC B s be bf (some ⟨s,X,none⟩) ds w):=G;have c:Hid (q2q B w M ws):=V;have d:Hid (WS B b (q6i be bf ds.length cap (some ⟨s,X,none⟩)) l (.slice M ws.length wc) w):=C;have Y:Hid (∀O:Obj,Below B w (w.alloc O)):=fun O=>(Below.refl _ w).alloc I O
 clear G V C J S U;simp only[List.length_cons,List.length_nil]at D K;go_in;go_wp2_with fail
 go_region_with (go_at_call 38;refine(y8t (WS.drew (d.o.alloc _)) hB tx (by omega)).mono ?_;rintro e o⟨⟨z,rfl⟩,g,H⟩)
 all_goals
  go_wp2;go_ret;have E:Below B w o:=(Below.drew (Y.o _)).trans H;exact⟨⟨rfl,M,wc,g,c.o.W E,L⟩,E⟩
theorem y8r(B b s be bf:Nat)(hb:s<B/\be<B/\bf<B)(hB:B<=b)(ds:List Nd)(a:Option Addr)(cap:Nat)(_hl:ds.length<=400)(tx:ByteArray)(n:Int)(A:List Nd)(f:Nat->List Int->Except Int (List UInt8 × List Int))(hA:k4b 92 B b s be bf ds a cap (⟨8,tx,n⟩::A) f):q3a B b s be bf ds a cap (⟨8,tx,n⟩::A) (f):=by
 intro i r D K X wc l w S Q k J V E G U;obtain⟨hi,g,h⟩:=q1k (x:=⟨8,tx,n⟩) (A:=A++r) S;obtain⟨N,ea,Z,c,d⟩:=Q.nd i hi;subst ea;rw[g]at Z c d;dsimp only at Z c d;have c0:=E.c0;have c1:=E.c1;have c2:=E.c2;have c5:=E.c5;have Ab:=E.lt;have Ac:s<w.heap.size:=by omega
 have R:B<=w.heap.size:=by omega
 have Aa:(i:Int)<(ds.length:Int):=by omega
 have t:Hid (ds.drop i=⟨8,tx,n⟩::(A++r)):=S;have y:Hid (ds.drop (i+1)=A++r):=h;have q:Hid (LC B s be bf (some ⟨s,N,none⟩) ds w):=Q;have HI:Hid (q2q B w X K):=k;have HW:Hid (WS B b (q6i be bf ds.length cap (some ⟨s,N,none⟩)) l (.slice X K.length wc) w):=E;have L:Hid (∀O:Obj,Below B w (w.alloc O)):=fun O=>(Below.refl _ w).alloc R O
 clear Q k E S g h;have z:Hid (k4b 92 B b s be bf ds (some ⟨s,N,none⟩) cap (⟨8,tx,n⟩::A) f):=hA;have P:Hid (q2g K):=J;clear hA J;go_in;go_wp2_with fail;refine(z.o i r D K X wc l _ t.o (q.o.W hb (L.o _)) (HI.o.W (L.o _)) P.o V (HW.o.alloc _) G U).mono ?_;rintro e m⟨M,I⟩;cases C:f D K with
 | error er=>
  rw[C]at M;obtain⟨H,rfl⟩:=M;have Y:Hid (er≠0):=H;rw[q0k H];clear H;go_wp2;go_ret;refine⟨?_,((L.o _).trans I)⟩;rw[C];exact⟨Y.o,by rw[q0k Y.o];rfl⟩
 | ok p=>
  obtain⟨u,v⟩:=p;rw[C]at M;obtain⟨rfl,j⟩:=M;have o:Hid (∃wa' wc',WS B b (q6i be bf ds.length cap (some ⟨s,N,none⟩)) (l++u) (.slice wa' v.length wc') m/\q2q B m wa' v/\v.length<=wc'):=j;clear j;go_wp2;go_ret;refine⟨?_,((L.o _).trans I)⟩;rw[C];exact⟨rfl,o.o⟩
theorem y8s(B b s be bf:Nat)(hb:s<B/\be<B/\bf<B)(hB:B<=b)(ds:List Nd)(a:Option Addr)(cap:Nat)(_hl:ds.length<=400)(tx:ByteArray)(n:Int)(A C:List Nd)(f:Nat->List Int->Except Int (List UInt8 × List Int))(hA:k4b 92 B b s be bf ds a cap (⟨9,tx,n⟩::(A++C)) f):q3a B b s be bf ds a cap (⟨9,tx,n⟩::(A++C)) (f):=by
 intro i r E L Y wc l w U R m K X G H V;obtain⟨hi,h,j⟩:=q1k (x:=⟨9,tx,n⟩) (A:=(A++C)++r) U;obtain⟨P,ea,c,d,g⟩:=R.nd i hi;subst ea;rw[h]at c d g;dsimp only at c d g;have c0:=G.c0;have c1:=G.c1;have c2:=G.c2;have c5:=G.c5;have Ab:=G.lt;have Ac:s<w.heap.size:=by omega
 have S:B<=w.heap.size:=by omega
 have Aa:(i:Int)<(ds.length:Int):=by omega
 have y:Hid (ds.drop i=⟨9,tx,n⟩::((A++C)++r)):=U;have z:Hid (ds.drop (i+1)=(A++C)++r):=j;have t:Hid (LC B s be bf (some ⟨s,P,none⟩) ds w):=R;have HI:Hid (q2q B w Y L):=m;have HW:Hid (WS B b (q6i be bf ds.length cap (some ⟨s,P,none⟩)) l (.slice Y L.length wc) w):=G;have M:Hid (∀O:Obj,Below B w (w.alloc O)):=fun O=>(Below.refl _ w).alloc S O
 clear R m G U h j;have HF:Hid (k4b 92 B b s be bf ds (some ⟨s,P,none⟩) cap (⟨9,tx,n⟩::(A++C)) f):=hA;have Q:Hid (q2g L):=K;clear hA K;go_in;go_wp2_with fail;refine(HF.o i r E L Y wc l _ y.o (t.o.W hb (M.o _)) (HI.o.W (M.o _)) Q.o X (HW.o.alloc _) H V).mono ?_;rintro e o⟨N,J⟩;cases D:f E L with
 | error er=>
  rw[D]at N;obtain⟨I,rfl⟩:=N;have Z:Hid (er≠0):=I;rw[q0k I];clear I;go_wp2;go_ret;refine⟨?_,((M.o _).trans J)⟩;rw[D];exact⟨Z.o,by rw[q0k Z.o];rfl⟩
 | ok p=>
  obtain⟨u,v⟩:=p;rw[D]at N;obtain⟨rfl,k⟩:=N;have q:Hid (∃wa' wc',WS B b (q6i be bf ds.length cap (some ⟨s,P,none⟩)) (l++u) (.slice wa' v.length wc') o/\q2q B o wa' v/\v.length<=wc'):=k;clear k;go_wp2;go_ret;refine⟨?_,((M.o _).trans J)⟩;rw[D];exact⟨rfl,q.o⟩
theorem y8p(B b s be bf:Nat)(hb:s<B/\be<B/\bf<B)(hB:B<=b)(ds:List Nd)(a:Option Addr)(cap:Nat)(hl:ds.length<=400)(tx:ByteArray)(n:Int)(A C:List Nd)(f g:Nat->List Int->Except Int (List UInt8 × List Int))(hA:q3a B b s be bf ds a cap A f)(hG:q3a B b s be bf ds a cap C g)(hE:∀i r,ds.drop i=A++r->r≠[]->∃t:Tr,t.Wf/\A=t.N)(hp:C≠[])(K:∀deep ws u v,f deep ws=.ok (u,v)->deep+8*A.length<=3300->u.length<=4000*A.length)(j:∀deep ws u v,q2g ws->f deep ws=.ok (u,v)->q2g v):q3a B b s be bf ds a cap (⟨6,tx,n⟩::(A++C)) (z1n f g):=by
 intro i r deep ws wa wc l w hd hC hI q Ah Q S Af;obtain⟨hi,e1,e2⟩:=q1k (x:=⟨6,tx,n⟩) (A:=(A++C)++r) hd;obtain⟨V,ea,d1,d2,d3⟩:=hC.nd i hi;subst ea;rw[e1]at d1 d2 d3;dsimp only at d1 d2 d3;have c0:=Q.c0;have c1:=Q.c1;have c2:=Q.c2;have c5:=Q.c5;have Ak:=Q.lt;have Al:s<w.heap.size:=by omega
 have Ae:B<=w.heap.size:=by omega
 have Aj:(i:Int)<(ds.length:Int):=by omega
 have HD:Hid (ds.drop i=⟨6,tx,n⟩::((A++C)++r)):=hd;have Ab:Hid (ds.drop (i+1)=(A++C)++r):=e2;have HC:Hid (LC B s be bf (some ⟨s,V,none⟩) ds w):=hC;have HI:Hid (q2q B w wa ws):=hI;have HW:Hid (WS B b (q6i be bf ds.length cap (some ⟨s,V,none⟩)) l (.slice wa ws.length wc) w):=Q;have HA:Hid (∀O:Obj,Below B w (w.alloc O)):=fun O=>(Below.refl _ w).alloc Ae O
 clear hC hI Q hd e1 e2;simp only[List.length_cons,List.length_append]at S Af;have HF:Hid (q3a B b s be bf ds (some ⟨s,V,none⟩) cap A f):=hA;have HG:Hid (q3a B b s be bf ds (some ⟨s,V,none⟩) cap C g):=hG;have HX:Hid (((i+1:Nat):Int)=(i:Int)+1):=(show _=_ by omega);have c:Hid (q2g ws):=q;have H:=Ab.o;rw[List.append_assoc]at H;have P:Hid (ds.drop (i+1)=A++(C++r)):=H;obtain⟨t,ht,et⟩:=hE _ _ H (fun h=>hp (List.append_eq_nil_iff.1 h).1);have HT:Hid (t.Wf/\A=t.N):=⟨ht,et⟩
 have Ai:(i:Int)+1<(ds.length:Int):=by
  have:=congrArg List.length H
  have J:=List.length_pos_iff.2 hp;rw[List.length_drop,List.length_append,List.length_append]at this;omega
 have HL:Hid (∀deep ws u v,f deep ws=.ok (u,v)->deep+8*A.length<=3300->u.length<=4000*A.length):=K;have Aa:Hid (∀deep ws u v,q2g ws->f deep ws=.ok (u,v)->q2g v):=j;clear hA hG q H ht et hE K j hp;go_in;go_wp2_with fail;rw[<-HX.o];refine(HF.o (i+1) (C++r) deep ws wa wc l _ P.o (HC.o.W hb (HA.o _)) (HI.o.W (HA.o _)) c.o Ah (HW.o.alloc _) (by omega) (by omega)).mono ?_;rintro e y⟨J,R⟩;cases D:f deep ws with
 | error er=>
  rw[D]at J;obtain⟨E,rfl⟩:=J;have Z:Hid (er≠0):=E;rw[q0k E];clear E;go_wp2;go_ret;refine⟨?_,(HA.o _).trans R⟩;rw[z1n,D];exact⟨Z.o,by rw[q0k Z.o];rfl⟩
 | ok p=>
  obtain⟨u0,L⟩:=p;rw[D]at J;obtain⟨rfl,X,z,U,o,Ag⟩:=J;have M:Hid (Below B w y):=(HA.o _).trans R;have Y:Hid (LC B s be bf (some ⟨s,V,none⟩) ds y):=HC.o.W hb M.o;have Ad:Hid (WS B b (q6i be bf ds.length cap (some ⟨s,V,none⟩)) (l++u0) (.slice X L.length z) y):=U;have Ac:Hid (q2q B y X L):=o;have g1:=U.c1;have Am:=HL.o deep ws u0 L D (by omega);have d:Hid (q2g L):=Aa.o deep ws u0 L c.o D
  have ge:y.cell? ⟨be,i+1,none⟩=some (.int .i64 ((i+1+A.length:Nat):Int)):=by
   have m:=P.o;rw[HT.o.2]at m⊢;exact(Y.o.kn (i+1) t (C++r) (Nat.zero_le _) HT.o.1 m).1
  have I:Hid (f deep ws=.ok (u0,L)):=D;clear U o R D;go_wp2_with fail;refine(HG.o (i+1+A.length) r deep L X z (l++u0) _ (z8a P.o) Y.o Ac.o d.o Ag Ad.o (by omega) (by rw[List.length_append];omega)).mono ?_;rintro e w3⟨J,k⟩;cases G:g deep L with
  | error er=>
   rw[G]at J;obtain⟨E,rfl⟩:=J;have Z:Hid (er≠0):=E;rw[q0k E];clear E;go_wp2;go_ret;refine⟨?_,(M.o.trans k)⟩;rw[z1n,I.o];dsimp only;rw[G];exact⟨Z.o,by rw[q0k Z.o];rfl⟩
  | ok p=>
   obtain⟨u,v⟩:=p;rw[G]at J;obtain⟨rfl,h3⟩:=J;have H3:Hid (∃wa' wc',WS B b (q6i be bf ds.length cap (some ⟨s,V,none⟩)) ((l++u0)++u) (.slice wa' v.length wc') w3/\q2q B w3 wa' v/\v.length<=wc'):=h3;clear h3;go_wp2;go_ret;refine⟨?_,(M.o.trans k)⟩;rw[z1n,I.o];dsimp only;rw[G];rw[List.append_assoc]at H3;exact⟨rfl,H3.o⟩
theorem y8q(B b s be bf:Nat)(hb:s<B/\be<B/\bf<B)(hB:B<=b)(ds:List Nd)(a:Option Addr)(cap:Nat)(hl:ds.length<=400)(tx:ByteArray)(n:Int)(Ac:0<=n)(Ad:n<=8)(A:List Nd)(f:Nat->List Int->Except Int (List UInt8 × List Int))(hA:q3a B b s be bf ds a cap A f):q3a B b s be bf ds a cap (⟨7,tx,n⟩::A) (fun deep ws=>f (deep+n.toNat) ws):=by
 intro i r deep ws V wc l w R P j I U D E S;obtain⟨hi,d,g⟩:=q1k (x:=⟨7,tx,n⟩) (A:=A++r) R;obtain⟨L,ea,Y,Z,c⟩:=P.nd i hi;subst ea;rw[d]at Y Z c;dsimp only at Y Z c;have c0:=D.c0;have c1:=D.c1;have c2:=D.c2;have c5:=D.c5;have Ab:=D.lt;have Ae:s<w.heap.size:=by omega
 have Q:B<=w.heap.size:=by omega
 have Aa:(i:Int)<(ds.length:Int):=by omega
 have HD:Hid (ds.drop i=⟨7,tx,n⟩::(A++r)):=R;have M:Hid (ds.drop (i+1)=A++r):=g;have o:Hid (LC B s be bf (some ⟨s,L,none⟩) ds w):=P;have t:Hid (q2q B w V ws):=j;have y:Hid (WS B b (q6i be bf ds.length cap (some ⟨s,L,none⟩)) l (.slice V ws.length wc) w):=D;have J:Hid (∀O:Obj,Below B w (w.alloc O)):=fun O=>(Below.refl _ w).alloc Q O
 clear P j D R d g;simp only[List.length_cons]at E S;have q:Hid (q3a B b s be bf ds (some ⟨s,L,none⟩) cap A f):=hA;have z:Hid (((i+1:Nat):Int)=(i:Int)+1):=(show _=_ by omega);have HY:Hid (((deep+n.toNat:Nat):Int)=(deep:Int)+n):=(show _=_ by omega);have N:Hid (q2g ws):=I;clear hA I;go_in;go_wp2_with fail;rw[<-z.o,<-HY.o];refine(q.o (i+1) r (deep+n.toNat) ws V wc l _ M.o (o.o.W hb (J.o _)) (t.o.W (J.o _)) N.o U (y.o.alloc _) (by omega) (by omega)).mono ?_;rintro e k⟨K,H⟩;cases C:f (deep+n.toNat) ws with
 | error er=>
  rw[C]at K;obtain⟨G,rfl⟩:=K;have X:Hid (er≠0):=G;rw[q0k G];clear G;go_wp2;go_ret;refine⟨?_,(J.o _).trans H⟩;rw[C];exact⟨X.o,by rw[q0k X.o];rfl⟩
 | ok p=>
  obtain⟨u,v⟩:=p;rw[C]at K;obtain⟨rfl,h⟩:=K;have m:Hid (∃wa' wc',WS B b (q6i be bf ds.length cap (some ⟨s,L,none⟩)) (l++u) (.slice wa' v.length wc') k/\q2q B k wa' v/\v.length<=wc'):=h;clear h;go_wp2;go_ret;refine⟨?_,(J.o _).trans H⟩;rw[C];exact⟨rfl,m.o⟩
theorem y5g(n:Nat):z2p (q2n n)=true:=by
 rcases Nat.eq_zero_or_pos n with h|h
 ·subst h;rw[show q2n 0=[48] by rw[q2n,dif_pos (by omega)];rfl];decide
 ·obtain⟨c,z,e,_⟩:=k1c n h;have A:=q9r n c (by rw[e];simp);rw[e];simp only[z2p,List.headD_cons]
  have:c≠35:=fun e=>by subst e;revert A;decide
  simpa using this
theorem k5x{s:ByteArray}(h:q0o s=true):z2p (btL s)=true:=by
 have A:=(q7m h).1;simp only[q0o,Bool.and_eq_true,decide_eq_true_eq,List.all_eq_true]at h;cases e:btL s with
 | nil=>rw[e]at A;simp at A
 | cons c z=>
  have B:=h.2 c (by rw[e];simp);simp only[z2p,List.headD_cons]
  have:c≠35:=fun e=>by subst e;revert B;decide
  simpa using this
theorem v7h{l:Nat}{t:Tn}(h:∀w∈t.tk,z2p w=true):∀w∈brk l t,z2p w=true:=by
 unfold brk
 split
 ·intro w A;simp at A;rcases A with rfl|A|rfl
  ·decide
  ·exact h w A
  ·decide
 ·exact h
theorem v7j:∀ts:List Tn,(∀t∈ts,∀w∈t.tk,z2p w=true)->∀w∈cmk ts,z2p w=true
 | [],_,w,hw=>by cases hw
 | [t],h,w,hw=>h t (by simp) w (by simpa[cmk]using hw)
 | t::u::r,h,w,hw=>by
  have e:cmk (t::u::r)=t.tk++[44]::cmk (u::r):=rfl;rw[e]at hw;rcases List.mem_append.1 hw with hw|hw
  ·exact h t (by simp) w hw
  ·rcases List.mem_cons.1 hw with rfl|hw
   ·decide
   ·exact v7j (u::r) (fun z hz=>h z (by simp at hz⊢;right;exact hz)) w hw
theorem v0j:∀F:Fo,F.ok->F.exs->∀t∈F.R,∀w∈t.tk,z2p w=true
 | .nil,_,_,t,ht=>by cases ht
 | .cons x k n,hok,hex,t,ht=>by
  have ihk:=v0j k hok.2.1 fun y hy=>hex y (by simp[Fo.N,hy])
  have ihn:=v0j n hok.2.2 fun y hy=>hex y (by simp[Fo.N,hy])
  rw[Fo.R]at ht;rcases List.mem_cons.1 ht with rfl|ht
  ·show ∀w∈q3t x k.R,z2p w=true;have hc:=v7j k.R ihk
   have two:∀(l m:Nat)(c:Wd),z2p c=true->∀w∈two2 (fun a b=>brk l a++c::brk m b) k.R,z2p w=true:=fun l m c hcn w hw=>by
    unfold two2 at hw
    split at hw
    ·rename_i a b hab;rcases List.mem_append.1 hw with hw|hw
     ·exact v7h (ihk a (by rw[hab];simp)) w hw
     ·rcases List.mem_cons.1 hw with rfl|hw
      ·exact hcn
      ·exact v7h (ihk b (by rw[hab];simp)) w hw
    ·cases hw
   rcases q1l (hex x (by simp[Fo.N]))with⟨ho,_⟩|⟨ho,hn,_⟩|⟨ho,hn,_⟩|⟨ho,_⟩|⟨ho,_⟩|⟨ho,_⟩
   ·rw[show q3t x k.R=[q2n x.n.toNat] by simp[q3t,ho]];intro w hw;simp at hw;subst hw;exact y5g _
   ·rw[show q3t x k.R=[btL x.tx] by simp[q3t,ho]];intro w hw;simp at hw;subst hw;exact k5x hn
   ·rw[show q3t x k.R=btL x.tx::[40]::(cmk k.R++[[41]]) by simp[q3t,ho]];intro w hw;simp at hw;rcases hw with rfl|rfl|hw|rfl
    ·exact k5x hn
    ·decide
    ·exact hc w hw
    ·decide
   ·rw[show q3t x k.R=[91]::(cmk k.R++[[93]]) by simp[q3t,ho]];intro w hw;simp at hw;rcases hw with rfl|hw|rfl
    ·decide
    ·exact hc w hw
    ·decide
   ·rw[show q3t x k.R=two2 (fun a b=>brk 0 a++[43]::brk 1 b) k.R by simp[q3t,ho]];exact two 0 1 [43] (by decide)
   ·rw[show q3t x k.R=two2 (fun a b=>brk 1 a++[42]::brk 2 b) k.R by simp[q3t,ho]];exact two 1 2 [42] (by decide)
  ·exact ihn t ht
theorem v4m{ws:List Wd}(h:∀w∈ws,z2p w=true):many ws=ws.length:=by
 unfold many;rw[List.filter_eq_self.2 h]
theorem y3u{t:List Td}(h:q0b t=0)(h9:opT t≠9):many (q8p t)=(q8p t).length:=by
 obtain⟨x,y,k,rfl,B,C,I,J⟩:=q5a h h9;have H:q8p (x::(Fo.cons y k .nil).N)=stK x (Fo.cons y k .nil).R:=(z0l B I).2;have G:=v0j _ B C (q0x y k.R) (by simp[Fo.R]);rw[H];refine v4m fun w A=>?_
 rcases J with⟨E,D,_⟩|⟨E,_,_⟩
 ·rw[show stK x (Fo.cons y k .nil).R=[108,101,116]::btL x.tx::[61]::((q0x y k.R).tk++[[59]]) by simp[stK,E,hdK,Fo.R]]at A;simp at A;rcases A with rfl|rfl|rfl|A|rfl
  ·decide
  ·exact k5x D
  ·decide
  ·exact G w A
  ·decide
 ·rw[show stK x (Fo.cons y k .nil).R=(q0x y k.R).tk++[[59]] by simp[stK,E,hdK,Fo.R]]at A;simp at A;rcases A with A|rfl
  ·exact G w A
  ·decide
theorem y1l{t:List Td}(h:q0b t=0){s:List UInt8}{ws:List Wd}(hf:FmS t s ws):s.length<=90*many (q8p t)+1441/\many ws<=many (q8p t):=by
 cases hf with
 | doc h9 hr=>
  have L:=y5j h h9 hr;rw[y3u h h9];rw[List.length_append];simp only[List.length_cons,List.length_nil];exact⟨by omega,Nat.le_refl _⟩
 | empty=>exact⟨by simp,by simp[many,z2p]⟩
 | @note x A he ho hne B hfl hx=>
  subst he
  have D:q1x x.tx=0:=by
   rcases q3h h with⟨y,e,_,_,hf⟩|⟨y,F,e,_,_,M,J⟩
   ·cases e;exact hf
   ·rcases J with⟨I,_⟩|⟨I,_⟩<;>(have:x=y:=by injection e)<;>subst this<;>omega
  have C:=(z1s D).1;rw[<-hfl]at C;have K:∀g:List Wd,(∀w∈g,w.length<=20)->(jb g).length<=21*g.length:=j5n
  have G:∀A:List (List Wd),(∀g∈A,GOk g)->(A.flatMap fun g=>lnW g++[10]).length<=24*A.flatten.length:=by
   intro A
   induction A with
   | nil=>intro _;simp
   | cons g A ih=>
    intro B;have N:=ih fun z hz=>B z (by simp[hz])
    have H:=B g (by simp);have O:=K g fun w E=>(H.2.2 w E).2.1
    have Q:=List.length_pos_iff.2 H.1;simp only[List.flatMap_cons,List.flatten_cons,List.length_append,List.length_cons,List.length_nil];omega
  have P:=G A B;refine⟨by omega,?_⟩
  have:many (A.map lnW)=0:=by
   unfold many;rw[List.length_eq_zero_iff,List.filter_eq_nil_iff];intro w E;obtain⟨g,_,rfl⟩:=List.mem_map.1 E;simp[z2p]
  omega
theorem j5b:∀{ps:List (List Td)}{s:List UInt8}{ws:List Wd}{prev:Int},okP prev ps->FmP ps s ws->s.length<=90*q3q ps+1441*ps.length/\many ws<=q3q ps
 | _,_,_,_,_,.nil=>by simp[many,q3q]
 | t::ps,_,_,_,h,.cons h1 h2=>by
  obtain⟨a1,a2⟩:=y1l h.1 h1;obtain⟨b1,b2⟩:=j5b h.2.2 h2;have e:q3q (t::ps)=many (q8p t)+q3q ps:=by simp[q3q,z0a]
  rw[e,List.length_append,List.length_cons,z0a];exact⟨by omega,by omega⟩
theorem y1k{ps:List (List Td)}{s:List UInt8}{ws:List Wd}(h:(q0t ps).2=0)(hm:q3q ps<=300)(hf:FmP ps s ws):q8o (wbS s) ps 0 0:=by
 obtain⟨J,A⟩:=q6j h;obtain⟨D,E⟩:=v7p A hf 0;obtain⟨H,I⟩:=j5b A hf;have G:q2p (btL (wbS s))=ws:=D
 have B:q7a (btL (wbS s))=0:=by
  have e:btL (wbS s)=s:=rfl;rw[e];unfold q7a;rw[if_neg (by omega),E];have C:q2p s=ws:=D;rw[C,if_neg (by simp),if_neg (by omega)]
 refine .ok B ?_ h;rw[G]
 have:=v7q hf 0 false [] A (fun e=>by cases e)
 simpa using this
def v1s:List Wd->List Nat->List (List Wd)
 | _,[]=>[]
 | ws,k::ks=>ws.take k::v1s (ws.drop k) ks
theorem v3u:∀g:List Wd,jnL (g.map wbS)=jb g
 | []=>rfl
 | [w]=>by simp[jnL,jb,wbS,Lib.join_one]
 | w::u::r=>by
  have ih:=v3u (u::r);have e:jb (w::u::r)=w++32::jb (u::r):=rfl;rw[e,<-ih];simp[jnL,wbS,Lib.join_cons,Lib.joinTail]
theorem k8h:∀(ks:List Nat)(ws:List Wd),k2f (ws.map wbS) ks=(v1s ws ks).map fun g=>wbS (jb g)
 | [],_=>rfl
 | k::ks,ws=>by
  have ih:=k8h ks (ws.drop k);rw[k2f,v1s,List.map_cons,<-List.map_drop,<-List.map_take,ih,jnS,v3u];rfl
theorem k1r(wd:Nat):∀(n:Nat)(ws:List Wd),ws.length<=n->(∀g∈v1s ws (z1f wd (ws.map wbS)),g≠[]/\g.length<=ws.length/\∀w∈g,w∈ws)/\(v1s ws (z1f wd (ws.map wbS))).flatten=ws/\(ws≠[]->v1s ws (z1f wd (ws.map wbS))≠[])
 | 0,ws,h=>by
  have:ws=[]:=List.eq_nil_of_length_eq_zero (by omega)
  subst this;rw[List.map_nil,q6a];exact⟨fun g hg=>(by simp[v1s]at hg),rfl,fun h=>absurd rfl h⟩
 | n+1,ws,h=>by
  by_cases h0:ws=[]
  ·subst h0;rw[List.map_nil,q6a];exact⟨fun g hg=>(by simp[v1s]at hg),rfl,fun h=>absurd rfl h⟩
  ·have h1:ws.map wbS≠[]:=by simpa using h0
   have A:=q8u wd h1;rw[List.length_map]at A;rw[q5k wd h1];generalize agF wd (ws.map wbS)=k at *;rw[<-List.map_drop];obtain⟨B,C,_⟩:=k1r wd n (ws.drop k) (by rw[List.length_drop];omega);rw[v1s];refine⟨fun g hg=>?_,?_,fun _=>by simp⟩
   ·rcases List.mem_cons.1 hg with rfl|hg
    ·refine⟨fun e=>?_,by rw[List.length_take];omega,fun w hw=>List.mem_of_mem_take hw⟩
     have:=congrArg List.length e
     rw[List.length_take,List.length_nil]at this;omega
    ·obtain⟨a,b,c⟩:=B g hg;rw[List.length_drop]at b;exact⟨a,by omega,fun w hw=>List.mem_of_mem_drop (c w hw)⟩
   ·rw[List.flatten_cons,C,List.take_append_drop]
def ntL(wd:Nat)(tx:ByteArray):List UInt8:=if q0e (btL tx)=[]then [35,10]else(k2f ((q0e (btL tx)).map wbS) (z1f (wd-2) ((q0e (btL tx)).map wbS))).flatMap fun l=>35::32::(btL l++[10])
def dcL(wd:Nat)(t:List Td):List UInt8:=(q0j t).txt (bs wd 0 [(0,q0j t)]).2++[10]
def z2e(t:List Td)(wd:Int):Int:=if wd<10\/100<wd then 1 else if q0b t≠0 then q0b t else if opT t=9 then 0 else if 400<(q0j t).N.length then 3 else 0
def q6y(wd:Nat)(t:List Td):List UInt8:=match t with
 | []=>[]
 | x::_=>if x.op=9 then ntL wd x.tx else dcL wd t
theorem v8z{t:List Td}{wd:Nat}(h:q0b t=0):∃ws,FmS t (q6y wd t) ws:=by
 cases t with
 | nil=>exact absurd h (by decide)
 | cons x r=>
  by_cases B:x.op=9
  ·have e:q6y wd (x::r)=ntL wd x.tx:=by rw[q6y,if_pos B]
   rw[e];rcases q3h h with⟨y,H,Q,P,N⟩|M
   ·obtain⟨rfl,rfl⟩:x=y/\r=[]:=by simpa using H
    by_cases E:btL x.tx=[]
    ·have G:ntL wd x.tx=[35,10]:=by rw[ntL,if_pos (by rw[q0e,if_pos E])]
     rw[G];exact⟨_,.empty rfl B E⟩
    ·have D:q0e (btL x.tx)≠[]:=by
      rw[q0e,if_neg E];exact q6o _
     obtain⟨R,O⟩:=z1s N;obtain⟨I,J,K⟩:=k1r (wd-2) _ (q0e (btL x.tx)) Zl
     have G:ntL wd x.tx=(v1s (q0e (btL x.tx)) (z1f (wd-2) ((q0e (btL x.tx)).map wbS))).flatMap fun g=>lnW g++[10]:=by
      rw[ntL,if_neg D,k8h,List.flatMap_map];rfl
     rw[G];refine⟨_,.note rfl B (K D) (fun g hg=>?_) J E⟩;obtain⟨a,b,c⟩:=I g hg;exact⟨a,by omega,fun w D=>O w (c w D)⟩
   ·obtain⟨y,F,H,_,_,_,C⟩:=M
    have:x=y:=(List.cons.inj H).1
    subst this;rcases C with C|C
    ·exact absurd (B.symm.trans C.1) (by decide)
    ·exact absurd (B.symm.trans C.1) (by decide)
  ·have e:q6y wd (x::r)=dcL wd (x::r):=by rw[q6y,if_neg B]
   rw[e,dcL];have L:(q0j (x::r)).best wd=some (bs wd 0 [(0,q0j (x::r))]):=by rw[q9l,q3c]
   obtain⟨_,A,_⟩:=q7x L
   generalize(bs wd 0 [(0,q0j (x::r))]).2=u at *
   generalize(q0j (x::r)).txt u=s at *
   unfold Tr.show at A
   split at A
   ·split at A
    ·cases A
    ·rename_i hl;cases A;exact⟨_,.doc B hl⟩
    ·cases A
   ·cases A
theorem j6n{w0:World}{b:Nat}{xt:ByteArray}{xn:Int}{y:Td}{k:Fo}(hX:ExL w0 b y k)(hz:(q0g y k.D).N.length<=1000)(h8:xt.size<=8)(w:World)(hW:LyE w0 b (⟨7,xt,xn⟩::(y::(k.N++[]))) w):
  Calls prog 86 #[.pointer (some ⟨b,0,none⟩)] w fun e w'=>NdG w0 b w (stD ⟨7,xt,xn⟩ (q0g y k.D)).N [] e w':=by
 have a:Hid (Calls prog 134 #[.pointer (some ⟨b,0,none⟩)] w fun e w'=>e=.returned (.agg #[.int .i64 7,.string xt,.int .i64 xn])/\Lk w0 b w (y::(k.N++[])) w'):=q3p hW;have H:Hid (∀W,LyE w0 b (y::(k.N++[])) W->Calls prog 136 #[.pointer (some ⟨b,0,none⟩)] W fun e w'=>NdG w0 b W (q0g y k.D).N [] e w'):=fun W hW=>hX [] W hW
 have C:Hid ((stD ⟨7,xt,xn⟩ (q0g y k.D)).N=⟨8,⟨#[]⟩,0⟩::(⟨6,⟨#[]⟩,0⟩::([⟨1,(⟨#[108,101,116,32]⟩:ByteArray)++xt++(⟨#[32,61]⟩:ByteArray),0⟩]++(⟨7,⟨#[]⟩,2⟩::(⟨6,⟨#[]⟩,0⟩::([⟨2,⟨#[]⟩,0⟩]++(⟨6,⟨#[]⟩,0⟩::((q0g y k.D).N++[⟨1,⟨#[59]⟩,0⟩])))))))):=by
  show _=_
  have e6:wbS ([108,101,116,32]++btL xt++[32,61])=(⟨#[108,101,116,32]⟩:ByteArray)++xt++(⟨#[32,61]⟩:ByteArray):=by
   have q1:wbS [108,101,116,32]++wbS (btL xt)=wbS ([108,101,116,32]++btL xt):=q2l _ _;have q2:wbS ([108,101,116,32]++btL xt)++wbS [32,61]=wbS ([108,101,116,32]++btL xt++[32,61]):=q2l _ _;rw[<-q2,<-q1];rfl
  rw[<-e6];rfl
 generalize(stD ⟨7,xt,xn⟩ (q0g y k.D)).N=R at C⊢
 generalize(q0g y k.D).N=xs at H C hz
 generalize y::(k.N++[])=r0 at a H;have g1:¬9223372036854775807<4+xt.size:=by omega
 have g2:¬9223372036854775807<4+xt.size+2:=by omega
 clear hX hW;go_in;go_wp2_with fail;refine a.o.mono ?_;rintro e G⟨rfl,i⟩;have L:Hid (∃K,G.alloc (.cells #[.int .i64 7,.string xt,.int .i64 xn] 47)=K/\Lk w0 b w r0 K/\K.heap[G.heap.size]?=some (.cells #[.int .i64 7,.string xt,.int .i64 xn] 47 (0,0))):=⟨_,rfl,i.step (q2m G _),heap_alloc_new G _⟩;have j:G.heap.size≠b:=by have:=i.in;omega
 clear i a;go_wp2_with fail;obtain⟨K,Q,P,S⟩:=L.o;rw[Q];have A:Hid (Lk w0 b w r0 K):=P;have B:Hid (K.heap[G.heap.size]?=some (.cells #[.int .i64 7,.string xt,.int .i64 xn] 47 (0,0))):=S;clear L P S Q;go_wp2_with fail;refine(H.o _ A.o.ly).mono ?_;rintro e w3 r;obtain⟨v3,rfl,z,l⟩:=r.val;replace A:=hid (A.o.then l);replace B:=hid ((l.bt.block _ (Array.getElem?_eq_some_iff.1 B.o).1 j).trans B.o);have X:=hid z;clear r z l;go_wp2_with fail;refine(q1w _ _).mono ?_;rintro e w4 s;obtain⟨v4,rfl,n4,Y⟩:=s.valB A.o.in;replace A:=hid (A.o.step Y);replace B:=hid ((Y.block _ (Array.getElem?_eq_some_iff.1 B.o).1).trans B.o);replace X:=hid (X.o.bel Y);have q:=hid n4;clear s n4 Y;go_wp2_with fail;refine(q1c _ X.o.val q.o.val (by first|(simp;done)|(simp;omega))).mono ?_;rintro e w5 t;obtain⟨v5,rfl,n5,c⟩:=t.valB A.o.in;replace A:=hid (A.o.step c);replace B:=hid ((c.block _ (Array.getElem?_eq_some_iff.1 B.o).1).trans B.o);clear X;clear q;have J:=hid n5;clear t n5 c;have d0:w5.cell? ⟨G,0,none⟩=some (.int .i64 7):=by rw[Lib.cell_of_heap B.o];rfl
 have d1:w5.cell? ⟨G,1,none⟩=some (.string xt):=by rw[Lib.cell_of_heap B.o];rfl
 clear B;go_wp2_with fail;refine(q1w _ _).mono ?_;rintro e w6 u;obtain⟨v6,rfl,n6,d⟩:=u.valB A.o.in;replace A:=hid (A.o.step d);replace J:=hid (J.o.bel d);have E:=hid n6;clear u n6 d;clear d0 d1;go_wp2_with fail;refine(z1o _).mono ?_;rintro e w7 v;obtain⟨v7,rfl,n7,Z⟩:=v.valB A.o.in;replace A:=hid (A.o.step Z);replace J:=hid (J.o.bel Z);replace E:=hid (E.o.bel Z);have m:=hid n7;clear v n7 Z;go_wp2_with fail;refine(q1c _ m.o.val J.o.val (by first|(simp;done)|(simp;omega))).mono ?_;rintro e w8 h8;obtain⟨v8,rfl,n8,f⟩:=h8.valB A.o.in;replace A:=hid (A.o.step f);clear m;clear J;replace E:=hid (E.o.bel f);have p:=hid n8;clear h8 n8 f;go_wp2_with fail;refine(q9a _ p.o.val (by first|(simp;done)|(simp;omega))).mono ?_;rintro e w9 x;obtain⟨v9,rfl,n9,g⟩:=x.valB A.o.in;replace A:=hid (A.o.step g);clear p;replace E:=hid (E.o.bel g);have n:=hid n9;clear x n9 g;go_wp2_with fail;refine(q1c _ E.o.val n.o.val (by first|(simp;done)|(simp;omega))).mono ?_;rintro e Ac O;obtain⟨Aa,rfl,U,M⟩:=O.valB A.o.in;replace A:=hid (A.o.step M);clear E;clear n;have o:=hid U;clear O U M;go_wp2_with fail;refine(z1p _ o.o.val (by first|(simp;done)|(simp;omega))).mono ?_;rintro e V I
 have HX:Hid (NdG w0 b w R [] e V):=by
  have h:=I.gof A.o;show NdG w0 b w R [] e V;rw[C.o];exact h
 obtain⟨Ab,rfl,_,_⟩:=I.val;clear I A C o;go_wp2;go_ret;exact HX.o
theorem v4f{w0:World}{b:Nat}{xt:ByteArray}{xn:Int}{y:Td}{k:Fo}(hX:ExL w0 b y k)(hz:(q0g y k.D).N.length<=1000)(w:World)(hW:LyE w0 b (⟨8,xt,xn⟩::(y::(k.N++[]))) w):
  Calls prog 86 #[.pointer (some ⟨b,0,none⟩)] w fun e w'=>NdG w0 b w (stD ⟨8,xt,xn⟩ (q0g y k.D)).N [] e w':=by
 have S:Hid (Calls prog 134 #[.pointer (some ⟨b,0,none⟩)] w fun e w'=>e=.returned (.agg #[.int .i64 8,.string xt,.int .i64 xn])/\Lk w0 b w (y::(k.N++[])) w'):=q3p hW;have G:Hid (∀W,LyE w0 b (y::(k.N++[])) W->Calls prog 136 #[.pointer (some ⟨b,0,none⟩)] W fun e w'=>NdG w0 b W (q0g y k.D).N [] e w'):=fun W hW=>hX [] W hW
 have B:Hid ((stD ⟨8,xt,xn⟩ (q0g y k.D)).N=⟨6,⟨#[]⟩,0⟩::((q0g y k.D).N++[⟨1,⟨#[59]⟩,0⟩])):=rfl
 generalize(stD ⟨8,xt,xn⟩ (q0g y k.D)).N=R at B⊢
 generalize(q0g y k.D).N=xs at G B hz
 generalize y::(k.N++[])=r0 at S G;clear hX hW;go_in;go_wp2_with fail;refine S.o.mono ?_;rintro e E⟨rfl,U⟩;have I:Hid (∃H,E.alloc (.cells #[.int .i64 8,.string xt,.int .i64 xn] 47)=H/\Lk w0 b w r0 H/\H.heap[E.heap.size]?=some (.cells #[.int .i64 8,.string xt,.int .i64 xn] 47 (0,0))):=⟨_,rfl,U.step (q2m E _),heap_alloc_new E _⟩;have X:E.heap.size≠b:=by have:=U.in;omega
 clear U S;go_wp2_with fail;obtain⟨H,L,K,M⟩:=I.o;rw[L];have C:Hid (Lk w0 b w r0 H):=K;have A:Hid (H.heap[E.heap.size]?=some (.cells #[.int .i64 8,.string xt,.int .i64 xn] 47 (0,0))):=M;clear I K M L;go_wp2_with fail;refine(G.o _ C.o.ly).mono ?_;rintro e o c;obtain⟨l,rfl,f,Y⟩:=c.val;replace C:=hid (C.o.then Y);replace A:=hid ((Y.bt.block _ (Array.getElem?_eq_some_iff.1 A.o).1 X).trans A.o);have O:=hid f;clear c f Y;go_wp2_with fail;refine(q1w _ _).mono ?_;rintro e p d;obtain⟨m,rfl,g,P⟩:=d.valB C.o.in;replace C:=hid (C.o.step P);replace A:=hid ((P.block _ (Array.getElem?_eq_some_iff.1 A.o).1).trans A.o);replace O:=hid (O.o.bel P);have Z:=hid g;clear d g P;go_wp2_with fail;refine(q1c _ O.o.val Z.o.val (by first|(simp;done)|(simp;omega))).mono ?_;rintro e Q V
 have i:Hid (NdG w0 b w R [] e Q):=by
  have h:=V.gof C.o;show NdG w0 b w R [] e Q;rw[B.o];exact h
 obtain⟨n,rfl,_,a⟩:=V.val;have J:Q.heap[E.heap.size]?=some (.cells #[.int .i64 8,.string xt,.int .i64 xn] 47 (0,0)):=(a.block _ (Array.getElem?_eq_some_iff.1 A.o).1).trans A.o;have j:Q.cell? ⟨E,0,none⟩=some (.int .i64 8):=by rw[Lib.cell_of_heap J];rfl
 clear V C B O Z a J A;go_wp2;go_ret;exact i.o
theorem j6m{t:List Td}{a:Option Addr}{cap:Nat}{w W:World}{b:Nat}(ht:z7n w)(h:q0b t=0)(h9:opT t≠9)(hc:t.length<=cap)(hN:Tds w a t)(E:w.heap.size<=b)(hx:W.heap[b]?=some (.cells #[.slice a t.length cap] 144 (0,0)))(hb:Below w w W):
  Calls prog 86 #[.pointer (some ⟨b,0,none⟩)] W fun e w'=>NdR w (q0j t).N e w':=by
 obtain⟨M,V,_,_⟩:=q2j h;obtain⟨x,y,k,rfl,H,I,S,K⟩:=q5a h h9;have B:EAL w b (.cons y k .nil):=z8v ht _ H I (by simp only[List.length_cons]at M;omega)
 have Q:(q0g y k.D).N.length<=1000:=by
  have:=(k9e y k .nil).2
  simp only[List.length_cons]at M;omega
 have R:q0j (x::(Fo.cons y k .nil).N)=stD x (q0g y k.D):=q6p H S;have J:x::(Fo.cons y k .nil).N=x::(y::(k.N++[])):=by simp[Fo.N]
 rw[R]
 have P:LyE w b (x::(y::(k.N++[]))) W:=by
  rw[<-J];exact⟨a,cap,hx,hc,hN,hb,E⟩
 have L:Calls prog 86 #[.pointer (some ⟨b,0,none⟩)] W fun e w'=>NdG w b W (stD x (q0g y k.D)).N [] e w':=by
  obtain⟨Y,Z,X⟩:=x;rcases K with⟨C,G,_⟩|⟨C,_,_⟩
  ·dsimp only at C G;subst C;have O:=q1q G;rw[q0c]at O;exact j6n B.1 Q O W P
  ·dsimp only at C;subst C;exact v4f B.1 Q W P
 refine L.mono ?_;rintro e w'⟨A,c,rfl,C,U⟩;exact⟨A,c,rfl,C.down hb.size,hb.trans ((U.bt.mono hb.size).W E)⟩
theorem j6k(t:List Td)(a:Option Addr)(cap:Nat)(w:World)(ht:z7n w)(h:q0b t=0)(h9:opT t≠9)(hc:t.length<=cap)(hN:Tds w a t):Calls prog 47 #[.slice a t.length cap] w fun e w'=>z3a t e w'/\Below w w w':=by
 have B:Hid (∀(W:World)(b:Nat),w.heap.size<=b->W.heap[b]?=some (.cells #[.slice a t.length cap] 144 (0,0))->Below w w W->Calls prog 86 #[.pointer (some ⟨b,0,none⟩)] W fun e w'=>NdR w (q0j t).N e w'):=fun W b hlt hx hb=>j6m ht h h9 hc hN hlt hx hb
 have I:=(q7h h h9).n;by_cases K:400<(q0j t).N.length
 ·obtain⟨G,C,_,_⟩:=v3w h h9 K;have J:Hid (∀W,z3a t (.returned (.tuple #[.slice none 0 0,q1m 3])) W):=fun W=>⟨none,0,by rw[G,C];rfl,by rw[C];exact fun i hi=>by simp at hi,by rw[C];exact Nat.le_refl _⟩
  generalize(q0j t).N=xs at B K I
  have O:(400:Int)<(xs.length:Int):=by omega
  clear h h9 G C hN ht;go_in;go_wp2_with fail;refine(B.o _ _ Zl (heap_alloc_new w _) (q2m w _)).mono ?_;rintro e L⟨A,c,rfl,H,E⟩;have D:Hid (Below w w L):=E;clear H E;go_wp2;go_ret2;exact⟨J.o _,D.o⟩
 ·obtain⟨G,C,_,_⟩:=y2e h h9 K;have J:Hid (∀A c W,q2e W A (q0j t).N->(q0j t).N.length<=c->z3a t (.returned (.tuple #[.slice A (q0j t).N.length c,q1m 0])) W):=fun A c W h h2=>⟨A,c,by rw[G,C],by rw[C];exact h,by rw[C];exact h2⟩
  generalize(q0j t).N=xs at B K I J
  have O:¬(400:Int)<(xs.length:Int):=by omega
  clear h h9 G C hN ht;go_in;go_wp2_with fail;refine(B.o _ _ Zl (heap_alloc_new w _) (q2m w _)).mono ?_;rintro e L⟨A,c,rfl,H,E⟩;have D:Hid (Below w w L):=E;have M:=hid (J.o A c L H.nods (k8x H).2.1);clear H E;go_wp2;go_ret2;exact⟨M.o,D.o⟩
end Go.Proofs.YtfdppahhbpfnoaaGreatDoor
