import Derived.Test.YthcpdohdppkmkaaGreatDoorPl16
open Go.Proofs.Tryz
namespace Go.Proofs.YthcpdohdppkmkaaGreatDoor
open Go Go.RowKit
set_option maxRecDepth 100000
set_option maxHeartbeats 4000000
theorem y7h(B b s be bf:Nat)(hb:s<B/\be<B/\bf<B)(hB:B<=b)(ds:List Nd)(a:Option Addr)(cap:Nat)(_hl:ds.length<=400)(tx:ByteArray)(n:Int)(A:List Nd)(f:Nat->List Int->Except Int (List UInt8 × List Int))(hA:k2z 116 B b s be bf ds a cap (⟨8,tx,n⟩::A) f):q3k B b s be bf ds a cap (⟨8,tx,n⟩::A) (f):=by
 intro i r D K X wc l w S Q k J V E G U;obtain⟨hi,g,h⟩:=q1w (x:=⟨8,tx,n⟩) (A:=A++r) S;obtain⟨N,ea,Z,c,d⟩:=Q.nd i hi;subst ea;rw[g]at Z c d;dsimp only at Z c d;have c0:=E.c0;have c1:=E.c1;have c2:=E.c2;have c5:=E.c5;have Ab:=E.lt;have Ac:s<w.heap.size:=by omega
 have R:B<=w.heap.size:=by omega
 have Aa:(i:Int)<(ds.length:Int):=by omega
 have t:Hid (ds.drop i=⟨8,tx,n⟩::(A++r)):=S;have y:Hid (ds.drop (i+1)=A++r):=h;have q:Hid (LC B s be bf (some ⟨s,N,none⟩) ds w):=Q;have HI:Hid (q1j B w X K):=k;have HW:Hid (WS B b (q6z be bf ds.length cap (some ⟨s,N,none⟩)) l (.slice X K.length wc) w):=E;have L:Hid (∀O:Obj,Below B w (w.alloc O)):=fun O=>(Below.refl _ w).alloc R O
 clear Q k E S g h;have z:Hid (k2z 116 B b s be bf ds (some ⟨s,N,none⟩) cap (⟨8,tx,n⟩::A) f):=hA;have P:Hid (q2q K):=J;clear hA J;go_in;go_wp2_with fail;refine(z.o i r D K X wc l _ t.o (q.o.W hb (L.o _)) (HI.o.W (L.o _)) P.o V (HW.o.alloc _) G U).mono ?_;rintro e m⟨M,I⟩;cases C:f D K with
 | error er=>
  rw[C]at M;obtain⟨H,rfl⟩:=M;have Y:Hid (er≠0):=H;rw[q0l H];clear H;go_wp2;go_ret;refine⟨?_,((L.o _).trans I)⟩;rw[C];exact⟨Y.o,by rw[q0l Y.o];rfl⟩
 | ok p=>
  obtain⟨u,v⟩:=p;rw[C]at M;obtain⟨rfl,j⟩:=M;have o:Hid (∃wa' wc',WS B b (q6z be bf ds.length cap (some ⟨s,N,none⟩)) (l++u) (.slice wa' v.length wc') m/\q1j B m wa' v/\v.length<=wc'):=j;clear j;go_wp2;go_ret;refine⟨?_,((L.o _).trans I)⟩;rw[C];exact⟨rfl,o.o⟩
theorem y7i(B b s be bf:Nat)(hb:s<B/\be<B/\bf<B)(hB:B<=b)(ds:List Nd)(a:Option Addr)(cap:Nat)(_hl:ds.length<=400)(tx:ByteArray)(n:Int)(A C:List Nd)(f:Nat->List Int->Except Int (List UInt8 × List Int))(hA:k2z 116 B b s be bf ds a cap (⟨9,tx,n⟩::(A++C)) f):q3k B b s be bf ds a cap (⟨9,tx,n⟩::(A++C)) (f):=by
 intro i r E L Y wc l w U R m K X G H V;obtain⟨hi,h,j⟩:=q1w (x:=⟨9,tx,n⟩) (A:=(A++C)++r) U;obtain⟨P,ea,c,d,g⟩:=R.nd i hi;subst ea;rw[h]at c d g;dsimp only at c d g;have c0:=G.c0;have c1:=G.c1;have c2:=G.c2;have c5:=G.c5;have Ab:=G.lt;have Ac:s<w.heap.size:=by omega
 have S:B<=w.heap.size:=by omega
 have Aa:(i:Int)<(ds.length:Int):=by omega
 have y:Hid (ds.drop i=⟨9,tx,n⟩::((A++C)++r)):=U;have z:Hid (ds.drop (i+1)=(A++C)++r):=j;have t:Hid (LC B s be bf (some ⟨s,P,none⟩) ds w):=R;have HI:Hid (q1j B w Y L):=m;have HW:Hid (WS B b (q6z be bf ds.length cap (some ⟨s,P,none⟩)) l (.slice Y L.length wc) w):=G;have M:Hid (∀O:Obj,Below B w (w.alloc O)):=fun O=>(Below.refl _ w).alloc S O
 clear R m G U h j;have HF:Hid (k2z 116 B b s be bf ds (some ⟨s,P,none⟩) cap (⟨9,tx,n⟩::(A++C)) f):=hA;have Q:Hid (q2q L):=K;clear hA K;go_in;go_wp2_with fail;refine(HF.o i r E L Y wc l _ y.o (t.o.W hb (M.o _)) (HI.o.W (M.o _)) Q.o X (HW.o.alloc _) H V).mono ?_;rintro e o⟨N,J⟩;cases D:f E L with
 | error er=>
  rw[D]at N;obtain⟨I,rfl⟩:=N;have Z:Hid (er≠0):=I;rw[q0l I];clear I;go_wp2;go_ret;refine⟨?_,((M.o _).trans J)⟩;rw[D];exact⟨Z.o,by rw[q0l Z.o];rfl⟩
 | ok p=>
  obtain⟨u,v⟩:=p;rw[D]at N;obtain⟨rfl,k⟩:=N;have q:Hid (∃wa' wc',WS B b (q6z be bf ds.length cap (some ⟨s,P,none⟩)) (l++u) (.slice wa' v.length wc') o/\q1j B o wa' v/\v.length<=wc'):=k;clear k;go_wp2;go_ret;refine⟨?_,((M.o _).trans J)⟩;rw[D];exact⟨rfl,q.o⟩
theorem k8j{b:Nat}{wa:Option Addr}{wc:Nat}(i A:Int)(w:World)(c5:w.cell? ⟨b,5,none⟩=some (.slice wa 0 wc)):
  Calls prog 116 #[.pointer (some ⟨b,0,none⟩),.int .i64 i,.int .i64 A] w fun e w'=>e=.returned (q1r 2)/\w=w':=by
 rw[k0r];go_in;go_wp2;go_ret;exact⟨rfl,rfl⟩
theorem y6u{b s be b0 o0 o1 n cap wc:Nat}(i A m:Nat)(w:World)(_hbb:b0≠b)(K:s≠b)(E:be≠b)(_hn:n<=400)(G:(i:Int)<(n:Int))
  (c0:w.cell? ⟨b,0,none⟩=some (.slice (some ⟨s,o0,none⟩) n cap)) (d1:w.cell? ⟨s,o0+i*3,none⟩=some (.int .i64 8)) (_c1:w.cell? ⟨b,1,none⟩=some (.slice (some ⟨be,0,none⟩) n n))
  (c5:w.cell? ⟨b,5,none⟩=some (.slice (some ⟨b0,o1,none⟩) (m+1) wc)) (f5:w.frozen? ⟨b,5,none⟩=false) (L:m+1<=wc) (x1:w.cell? ⟨b0,o1,none⟩=some (.int .i64 0)) (Q:Value->World->Prop)
  (H:Calls prog 185 #[.pointer (some ⟨b,0,none⟩),.int .i64 i] (w.setCell ⟨b,5,none⟩ (.slice (if wc=1 then some ⟨b0,o1,none⟩else some ⟨b0,o1+1,none⟩) m (wc-1))) fun e w'=>∃v,e=.returned v/\Q v w'):
  Calls prog 116 #[.pointer (some ⟨b,0,none⟩),.int .i64 i,.int .i64 A] w fun e w'=>∃v,e=.returned v/\Q v w':=by
 have J:(1:Int)<=(m:Int)+1:=by omega
 have I:((m:Int)+1==0)=false:=beq_eq_false_iff_ne.2 (by omega);by_cases D:wc=1
 ·rw[if_pos D]at H;obtain rfl:m=0:=by omega
  subst D;have B:Hid (Calls prog 185 #[.pointer (some ⟨b,0,none⟩),.int .i64 i] (w.setCell ⟨b,5,none⟩ (.slice (some ⟨b0,o1,none⟩) 0 0)) fun e w'=>∃v,e=.returned v/\Q v w'):=H;clear H;go_in;go_wp2_with fail;refine B.o.mono ?_;rintro e M⟨v,rfl,C⟩;go_wp2;go_ret;exact⟨_,rfl,C⟩
 ·rw[if_neg D]at H;have B:Hid (Calls prog 185 #[.pointer (some ⟨b,0,none⟩),.int .i64 i] (w.setCell ⟨b,5,none⟩ (.slice (some ⟨b0,o1+1,none⟩) m (wc-1))) fun e w'=>∃v,e=.returned v/\Q v w'):=H;clear H;go_in;go_wp2_with fail;refine B.o.mono ?_;rintro e M⟨v,rfl,C⟩;go_wp2;go_ret;exact⟨_,rfl,C⟩
theorem y6v{b s be b0 o0 o1 n cap wc:Nat}(i A m:Nat)(w:World)(_hbb:b0≠b)(K:s≠b)(E:be≠b)(hn:n<=400)(G:(i:Int)<(n:Int))
  (c0:w.cell? ⟨b,0,none⟩=some (.slice (some ⟨s,o0,none⟩) n cap)) (d1:w.cell? ⟨s,o0+i*3,none⟩=some (.int .i64 8)) (_c1:w.cell? ⟨b,1,none⟩=some (.slice (some ⟨be,0,none⟩) n n))
  (c5:w.cell? ⟨b,5,none⟩=some (.slice (some ⟨b0,o1,none⟩) (m+1) wc)) (f5:w.frozen? ⟨b,5,none⟩=false) (L:m+1<=wc) (x1:w.cell? ⟨b0,o1,none⟩=some (.int .i64 1)) (Q:Value->World->Prop)
  (H:Calls prog 70 #[.pointer (some ⟨b,0,none⟩),.int .i64 ((i:Int)+1),.int .i64 A] (w.setCell ⟨b,5,none⟩ (.slice (if wc=1 then some ⟨b0,o1,none⟩else some ⟨b0,o1+1,none⟩) m (wc-1))) fun e w'=>∃v,e=.returned v/\Q v w'):
  Calls prog 116 #[.pointer (some ⟨b,0,none⟩),.int .i64 i,.int .i64 A] w fun e w'=>∃v,e=.returned v/\Q v w':=by
 have J:(1:Int)<=(m:Int)+1:=by omega
 have I:((m:Int)+1==0)=false:=beq_eq_false_iff_ne.2 (by omega);by_cases D:wc=1
 ·rw[if_pos D]at H;obtain rfl:m=0:=by omega
  subst D;have B:Hid (Calls prog 70 #[.pointer (some ⟨b,0,none⟩),.int .i64 ((i:Int)+1),.int .i64 A] (w.setCell ⟨b,5,none⟩ (.slice (some ⟨b0,o1,none⟩) 0 0)) fun e w'=>∃v,e=.returned v/\Q v w'):=H;clear H;go_in;go_wp2_with fail;refine B.o.mono ?_;rintro e M⟨v,rfl,C⟩;go_wp2;go_ret;exact⟨_,rfl,C⟩
 ·rw[if_neg D]at H;have B:Hid (Calls prog 70 #[.pointer (some ⟨b,0,none⟩),.int .i64 ((i:Int)+1),.int .i64 A] (w.setCell ⟨b,5,none⟩ (.slice (some ⟨b0,o1+1,none⟩) m (wc-1))) fun e w'=>∃v,e=.returned v/\Q v w'):=H;clear H;go_in;go_wp2_with fail;refine B.o.mono ?_;rintro e M⟨v,rfl,C⟩;go_wp2;go_ret;exact⟨_,rfl,C⟩
theorem y6w{b s be b0 o0 o1 n cap wc:Nat}(i A m:Nat)(w:World)(_hbb:b0≠b)(K:s≠b)(E:be≠b)(hn:n<=400)(G:(i:Int)<(n:Int))
  (c0:w.cell? ⟨b,0,none⟩=some (.slice (some ⟨s,o0,none⟩) n cap)) (d1:w.cell? ⟨s,o0+i*3,none⟩=some (.int .i64 9)) (_c1:w.cell? ⟨b,1,none⟩=some (.slice (some ⟨be,0,none⟩) n n))
  (c5:w.cell? ⟨b,5,none⟩=some (.slice (some ⟨b0,o1,none⟩) (m+1) wc)) (f5:w.frozen? ⟨b,5,none⟩=false) (L:m+1<=wc) (x1:w.cell? ⟨b0,o1,none⟩=some (.int .i64 0)) (Q:Value->World->Prop)
  (H:Calls prog 70 #[.pointer (some ⟨b,0,none⟩),.int .i64 ((i:Int)+1),.int .i64 A] (w.setCell ⟨b,5,none⟩ (.slice (if wc=1 then some ⟨b0,o1,none⟩else some ⟨b0,o1+1,none⟩) m (wc-1))) fun e w'=>∃v,e=.returned v/\Q v w'):
  Calls prog 116 #[.pointer (some ⟨b,0,none⟩),.int .i64 i,.int .i64 A] w fun e w'=>∃v,e=.returned v/\Q v w':=by
 have J:(1:Int)<=(m:Int)+1:=by omega
 have I:((m:Int)+1==0)=false:=beq_eq_false_iff_ne.2 (by omega);by_cases D:wc=1
 ·rw[if_pos D]at H;obtain rfl:m=0:=by omega
  subst D;have B:Hid (Calls prog 70 #[.pointer (some ⟨b,0,none⟩),.int .i64 ((i:Int)+1),.int .i64 A] (w.setCell ⟨b,5,none⟩ (.slice (some ⟨b0,o1,none⟩) 0 0)) fun e w'=>∃v,e=.returned v/\Q v w'):=H;clear H;go_in;go_wp2_with fail;refine B.o.mono ?_;rintro e M⟨v,rfl,C⟩;go_wp2;go_ret;exact⟨_,rfl,C⟩
 ·rw[if_neg D]at H;have B:Hid (Calls prog 70 #[.pointer (some ⟨b,0,none⟩),.int .i64 ((i:Int)+1),.int .i64 A] (w.setCell ⟨b,5,none⟩ (.slice (some ⟨b0,o1+1,none⟩) m (wc-1))) fun e w'=>∃v,e=.returned v/\Q v w'):=H;clear H;go_in;go_wp2_with fail;refine B.o.mono ?_;rintro e M⟨v,rfl,C⟩;go_wp2;go_ret;exact⟨_,rfl,C⟩
theorem y6x{b s be b0 o0 o1 n cap wc:Nat}(i A m:Nat)(w:World)(_hbb:b0≠b)(L:s≠b)(E:be≠b)(hn:n<=400)(I:(i:Int)<(n:Int))(G:(i:Int)+1<(n:Int))(j:Nat)(e1:w.cell? ⟨be,i+1,none⟩=some (.int .i64 (j:Int)))
  (c0:w.cell? ⟨b,0,none⟩=some (.slice (some ⟨s,o0,none⟩) n cap)) (d1:w.cell? ⟨s,o0+i*3,none⟩=some (.int .i64 9)) (c1:w.cell? ⟨b,1,none⟩=some (.slice (some ⟨be,0,none⟩) n n))
  (c5:w.cell? ⟨b,5,none⟩=some (.slice (some ⟨b0,o1,none⟩) (m+1) wc)) (f5:w.frozen? ⟨b,5,none⟩=false) (M:m+1<=wc) (x1:w.cell? ⟨b0,o1,none⟩=some (.int .i64 1)) (Q:Value->World->Prop)
  (H:Calls prog 70 #[.pointer (some ⟨b,0,none⟩),.int .i64 (j:Int),.int .i64 A] (w.setCell ⟨b,5,none⟩ (.slice (if wc=1 then some ⟨b0,o1,none⟩else some ⟨b0,o1+1,none⟩) m (wc-1))) fun e w'=>∃v,e=.returned v/\Q v w'):
  Calls prog 116 #[.pointer (some ⟨b,0,none⟩),.int .i64 i,.int .i64 A] w fun e w'=>∃v,e=.returned v/\Q v w':=by
 have K:(1:Int)<=(m:Int)+1:=by omega
 have J:((m:Int)+1==0)=false:=beq_eq_false_iff_ne.2 (by omega);by_cases D:wc=1
 ·rw[if_pos D]at H;obtain rfl:m=0:=by omega
  subst D;have B:Hid (Calls prog 70 #[.pointer (some ⟨b,0,none⟩),.int .i64 (j:Int),.int .i64 A] (w.setCell ⟨b,5,none⟩ (.slice (some ⟨b0,o1,none⟩) 0 0)) fun e w'=>∃v,e=.returned v/\Q v w'):=H;clear H;go_in;go_wp2_with fail;refine B.o.mono ?_;rintro e N⟨v,rfl,C⟩;go_wp2;go_ret;exact⟨_,rfl,C⟩
 ·rw[if_neg D]at H;have B:Hid (Calls prog 70 #[.pointer (some ⟨b,0,none⟩),.int .i64 (j:Int),.int .i64 A] (w.setCell ⟨b,5,none⟩ (.slice (some ⟨b0,o1+1,none⟩) m (wc-1))) fun e w'=>∃v,e=.returned v/\Q v w'):=H;clear H;go_in;go_wp2_with fail;refine B.o.mono ?_;rintro e N⟨v,rfl,C⟩;go_wp2;go_ret;exact⟨_,rfl,C⟩
theorem Calls.valued{P:Program}{fn:Nat}{args:Array Value}{w:World}{Q:Value->World->Prop}{R:Ending->World->Prop}(h:Calls P fn args w fun e w'=>∃v,e=.returned v/\Q v w')(hR:∀v w',Q v w'->R (.returned v) w'):Calls P fn args w R:=
 h.mono fun _ _⟨v,he,hq⟩=>by rw[he];exact hR v _ hq
theorem z5f{B b:Nat}{pl:List Value}{A:Except Int (List UInt8 × List Int)}{l:List UInt8}{e:Ending}{w':World}(h:k0c B b pl A l e w'):∃v,e=.returned v/\k0c B b pl A l (.returned v) w':=by
 cases A with
 | error er=>obtain⟨C,rfl⟩:=h;exact⟨_,rfl,C,rfl⟩
 | ok p=>obtain⟨rfl,C⟩:=h;exact⟨_,rfl,rfl,C⟩
theorem v0s(B b s be bf:Nat)(hb:s<B/\be<B/\bf<B)(hB:B<=b)(ds:List Nd)(a:Option Addr)(cap:Nat)(hl:ds.length<=400)(P:ds.length<=cap)(tx:ByteArray)(n:Int)(t:Tr)(ht:Tr.Wf (.one ⟨8,tx,n⟩ t))(f:Nat->List Int->Except Int (List UInt8 × List Int))(hA:q3k B b s be bf ds a cap t.N f):
  k2z 116 B b s be bf ds a cap (⟨8,tx,n⟩::t.N) (q4t f t.line t.isFlat):=by
 intro i r C G wa wc l w Y u y U I E M m;have R:ds.drop i=(Tr.one ⟨8,tx,n⟩ t).N++r:=Y;obtain⟨hi,e1,e2⟩:=q1w (x:=⟨8,tx,n⟩) (A:=t.N++r) Y;obtain⟨o0,ea,Z,d2,d3⟩:=u.nd i hi;subst ea;rw[e1]at Z;have Ac:=E.lt;have Ab:B<=w.heap.size:=by omega
 have H:∀v,Below B w (w.setCell ⟨b,5,none⟩ v):=fun v=> Zb.setCell (p:=⟨b,5,none⟩) hB _
 simp only[List.length_cons]at M m;cases G with
 | nil=>
  refine(k8j i C w E.c5).mono ?_;rintro e J⟨rfl,rfl⟩;exact⟨⟨by decide,rfl⟩,Below.refl _ _⟩
 | cons c G=>
  obtain⟨q,o1,g,Aa,o⟩:=y 0 (by simp);subst g;have z:=y.slid (by simpa using I);simp only[Nat.add_zero,List.getElem_cons_zero]at o;simp only[List.length_cons]at E I;have V:q2q G:=fun d Y=>U d (by simp[Y])
  have S:G.length<=wc-1:=by omega
  generalize X:(if wc=1 then some (⟨q,o1,none⟩:Addr)else some ⟨q,o1+1,none⟩)=wa' at z;have K:=u.W hb (H (.slice wa' G.length (wc-1)));have O:=z.W (H (.slice wa' G.length (wc-1)));have L:=E.stored (.slice wa' G.length (wc-1));rcases U c (by simp)with k|k
  ·subst k;refine Calls.valued (Q:=fun v J=>k0c B b (q6z be bf ds.length cap (some ⟨s,o0,none⟩)) (q4t f t.line t.isFlat C (0::G)) l (.returned v) J/\Below B w J) ?_ (fun v J h=>h);refine y6u (be:=be) i C G.length w (by omega) (by omega) (by omega) hl (by omega) E.c0 Z E.c1 E.c5 E.f5 I o _ ?_;rw[X];cases hf:t.isFlat with
   | false=>
    refine(v7a B b s be bf ds _ cap i (.one ⟨8,tx,n⟩ t) r l _ _ ht R K L hf).mono ?_;rintro e w2⟨rfl,D⟩;refine⟨_,rfl,⟨?_,rfl⟩,(H _).trans D⟩;decide
   | true=>
    refine(v0z B b s be bf hb hB ds _ cap P hl i (.one ⟨8,tx,n⟩ t) r l _ _ ht R K L hf (by omega)).mono ?_;rintro e w2⟨rfl,j,D⟩;exact⟨_,rfl,⟨rfl,wa',wc-1,j,O.W D,S⟩,(H _).trans D⟩
  ·subst k;refine Calls.valued (Q:=fun v J=>k0c B b (q6z be bf ds.length cap (some ⟨s,o0,none⟩)) (q4t f t.line t.isFlat C (1::G)) l (.returned v) J/\Below B w J) ?_ (fun v J h=>h);refine y6v (be:=be) i C G.length w (by omega) (by omega) (by omega) hl (by omega) E.c0 Z E.c1 E.c5 E.f5 I o _ ?_;rw[X];refine(hA (i+1) r C G wa' (wc-1) l _ e2 K O V S L (by omega) (by omega)).mono ?_;rintro e w2⟨j,D⟩;obtain⟨v,rfl,h3⟩:=z5f j;exact⟨v,rfl,h3,(H _).trans D⟩
theorem v0t(B b s be bf:Nat)(hb:s<B/\be<B/\bf<B)(hB:B<=b)(ds:List Nd)(a:Option Addr)(cap:Nat)(hl:ds.length<=400)(tx:ByteArray)(n:Int)(t t':Tr)(ht:t.Wf)(f g:Nat->List Int->Except Int (List UInt8 × List Int))(hA:q3k B b s be bf ds a cap t.N f)(hG:q3k B b s be bf ds a cap t'.N g):
  k2z 116 B b s be bf ds a cap (⟨9,tx,n⟩::(t.N++t'.N)) (q4h f g):=by
 intro i r C D wa wc l w o k z S H E L q;obtain⟨hi,e1,e0⟩:=q1w (x:=⟨9,tx,n⟩) (A:=t.N++t'.N++r) o;have V:ds.drop (i+1)=t.N++(t'.N++r):=by rw[e0,List.append_assoc]
 have Ac:=q9g V;obtain⟨o0,ea,X,d2,d3⟩:=k.nd i hi;subst ea;rw[e1]at X;have Ad:=E.lt;have Ab:B<=w.heap.size:=by omega
 have G:∀v,Below B w (w.setCell ⟨b,5,none⟩ v):=fun v=> Zb.setCell (p:=⟨b,5,none⟩) hB _
 have k1:=(k.kn (i+1) t _ (Nat.zero_le _) ht V).1;simp only[List.length_cons,List.length_append]at L q;cases D with
 | nil=>
  refine(k8j i C w E.c5).mono ?_;rintro e J⟨rfl,rfl⟩;exact⟨⟨by decide,rfl⟩,Below.refl _ _⟩
 | cons c D=>
  obtain⟨y,o1,Y,Aa,u⟩:=z 0 (by simp);subst Y;have hS:=z.slid (by simpa using H);simp only[Nat.add_zero,List.getElem_cons_zero]at u;simp only[List.length_cons]at E H;have I:q2q D:=fun d o=>S d (by simp[o])
  have R:D.length<=wc-1:=by omega
  generalize U:(if wc=1 then some (⟨y,o1,none⟩:Addr)else some ⟨y,o1+1,none⟩)=wa' at hS;have M:=k.W hb (G (.slice wa' D.length (wc-1)));have O:=hS.W (G (.slice wa' D.length (wc-1)));have P:=E.stored (.slice wa' D.length (wc-1));rcases S c (by simp)with m|m
  ·subst m;refine Calls.valued (Q:=fun v J=>k0c B b (q6z be bf ds.length cap (some ⟨s,o0,none⟩)) (q4h f g C (0::D)) l (.returned v) J/\Below B w J) ?_ (fun v J h=>h);refine y6w (be:=be) i C D.length w (by omega) (by omega) (by omega) hl (by omega) E.c0 X E.c1 E.c5 E.f5 H u _ ?_;rw[U];refine(hA (i+1) _ C D wa' (wc-1) l _ V M O I R P (by omega) (by omega)).mono ?_;rintro e w2⟨Z,K⟩;obtain⟨v,rfl,j⟩:=z5f Z;exact⟨v,rfl,j,(G _).trans K⟩
  ·subst m;refine Calls.valued (Q:=fun v J=>k0c B b (q6z be bf ds.length cap (some ⟨s,o0,none⟩)) (q4h f g C (1::D)) l (.returned v) J/\Below B w J) ?_ (fun v J h=>h);refine y6x (be:=be) i C D.length w (by omega) (by omega) (by omega) hl (by omega) (by omega) (i+1+t.N.length) k1 E.c0 X E.c1 E.c5 E.f5 H u _ ?_;rw[U];refine(hG (i+1+t.N.length) r C D wa' (wc-1) l _ (z8d V) M O I R P (by omega) (by omega)).mono ?_;rintro e w2⟨Z,K⟩;obtain⟨v,rfl,j⟩:=z5f Z;exact⟨v,rfl,j,(G _).trans K⟩
theorem y5f{t:Tr}{A:Nat}{ws:List Int}{u:List UInt8}{v:List Int}(h:q2q ws)(e:t.lay A ws=.ok (u,v)):q2q v:=by
 obtain⟨p,_,rfl⟩:=q5n t A ws v u h e;exact fun c hc=>h c (by simp[hc])
theorem q7g(B b s be bf:Nat)(hb:s<B/\be<B/\bf<B)(hB:B<=b)(ds:List Nd)(a:Option Addr)(cap:Nat)(hl:ds.length<=400)(hcap:ds.length<=cap):∀t:Tr,t.Wf->q3k B b s be bf ds a cap t.N t.lay
 | .leaf ⟨op,tx,n⟩,h=>by
  obtain⟨_,_,_,_,h5,_⟩:=q2c h.1;rcases q3y h.1 h.2 with e|e|e|e|e
  all_goals (simp only at e;subst e)
  ·exact y7a B b s be bf hb hB ds a cap hl tx n (q4d (h5 rfl)).2
  ·exact y7b B b s be bf hb hB ds a cap hl tx n
  ·exact y7c B b s be bf hb hB ds a cap hl tx n
  ·exact y7d B b s be bf hb hB ds a cap hl tx n
  ·exact y7e B b s be bf hb hB ds a cap hl tx n
 | .one ⟨op,tx,n⟩ a',h=>by
  obtain⟨_,_,_,_,_,h6⟩:=q2c h.1;rcases q7y h.2.1 with e|e
  all_goals (simp only at e;subst e)
  ·exact y7g B b s be bf hb hB ds a cap hl tx n (h6 rfl).1 (h6 rfl).2 _ _ (q7g B b s be bf hb hB ds a cap hl hcap a' h.2.2)
  ·rw[k0z (x:=⟨8,tx,n⟩) rfl];exact y7h B b s be bf hb hB ds a cap hl tx n _ _ (v0s B b s be bf hb hB ds a cap hl hcap tx n a' h _ (q7g B b s be bf hb hB ds a cap hl hcap a' h.2.2))
 | .two ⟨op,tx,n⟩ a' c,h=>by
  rcases q7k h.2.1 with e|e
  all_goals (simp only at e;subst e)
  ·rw[j5h (x:=⟨6,tx,n⟩) rfl];exact y7f B b s be bf hb hB ds a cap hl tx n _ _ _ _ (q7g B b s be bf hb hB ds a cap hl hcap a' h.2.2.1) (q7g B b s be bf hb hB ds a cap hl hcap c h.2.2.2) (fun _ _ _ _=>⟨a',h.2.2.1,rfl⟩) (List.length_pos_iff.1 c.pos) (fun deep ws u v he hd=>q5s a' deep ws u v h.2.2.1 he hd) (fun deep ws u v h0 he=>y5f h0 he)
  ·rw[z6j (x:=⟨9,tx,n⟩) rfl];exact y7i B b s be bf hb hB ds a cap hl tx n _ _ _ (v0t B b s be bf hb hB ds a cap hl tx n a' c h.2.2.1 _ _ (q7g B b s be bf hb hB ds a cap hl hcap a' h.2.2.1) (q7g B b s be bf hb hB ds a cap hl hcap c h.2.2.2))
theorem v1e(ds:List Nd)(ws:List Int)(a wa:Option Addr)(cap wc:Nat)(w:World)(hN:q1u w a ds)(h:q3d ds≠0):
  Calls prog 26 #[.slice a ds.length cap,.slice wa ws.length wc] w fun e w'=>e=.returned (.tuple #[.string ⟨#[]⟩,q1r (q3d ds)])/\Below w w w':=by
 have A:Hid (q1u w a ds):=hN;have H:Hid (q3d ds≠0):=h;rw[q0l h];clear hN h;go_in;go_wp2_with fail;refine(q3c ds a cap _ A.o).mono ?_;rintro e C⟨rfl,B⟩;rw[q0l H.o];go_wp2;go_ret2;exact⟨rfl,B⟩
theorem k5m(ds:List Nd)(ws:List Int)(a wa:Option Addr)(cap wc:Nat)(w:World)(hN:q1u w a ds)(hI:q8x w wa ws)(hl:ws.length<=9223372036854775807)(h:q3d ds=0)(h1:¬q2q ws):
  Calls prog 26 #[.slice a ds.length cap,.slice wa ws.length wc] w fun e w'=>e=.returned (.tuple #[.string ⟨#[]⟩,q1r 1])/\Below w w w':=by
 have E:Hid (q1u w a ds):=hN;have D:Hid (q8x w wa ws):=hI;have H:Hid (q3d ds=0):=h;have C:Hid (¬q2q ws):=h1;rw[z6c];clear hN hI h h1;go_in;go_wp2_with fail;refine(q3c ds a cap _ E.o).mono ?_;rintro e G⟨rfl,B⟩;rw[H.o,q0z];have A:Hid (q8x G wa ws):=D.o.W B;go_wp2_with fail;refine(y4p ws wa wc _ A.o hl C.o).mono ?_;rintro e I⟨rfl,rfl⟩;go_wp2;go_ret2;exact⟨rfl,B⟩
theorem v7b(ds:List Nd)(t:Tr)(hd:ds=t.N)(ht:t.Wf)(ws:List Int)(a wa:Option Addr)(cap wc:Nat)(hc:ds.length<=cap)(q:ws.length<=wc)(w:World)(hN:q1u w a ds)(hI:q8x w wa ws)(hl:ws.length<=9223372036854775807)(h:q3d ds=0)(h1:q2q ws):
  Calls prog 26 #[.slice a ds.length cap,.slice wa ws.length wc] w fun e w'=>e=.returned (.tuple #[.string (shS (t.show ws)),q1r (shE (t.show ws))])/\Below w w w':=by
 have HN:Hid (q1u w a ds):=hN;have HI:Hid (q8x w wa ws):=hI;have H:Hid (q3d ds=0):=h;have y:Hid (q2q ws):=h1;have HT:Hid (t.Wf):=ht;have g:Hid (ds=t.N):=hd;obtain⟨h4,_,_⟩:=q5c h;have HS:Hid (t.show ws=match t.lay 0 ws with| .error e=>.error e| .ok (s,[])=>.ok s| .ok (_,_::_)=>.error 2):=k7w h1;have H0:Hid (ds≠[]):=(show ds≠[] by have:=t.pos;rw[<-hd]at this;exact List.length_pos_iff.1 this);clear hN hI h h1 ht hd;go_in;go_wp2_with fail;refine(q3c ds a cap _ HN.o).mono ?_;rintro e d⟨rfl,f⟩;rw[H.o,q0z];have HB:Hid (Below w w d):=f;have Q:Hid (q8x d wa ws):=HI.o.W f;obtain⟨s,o,Z⟩:=(HN.o.W f).s H0.o;have R:Hid (q1k s d a ds):=Z;clear f Z;go_wp2_with fail;refine(y8j ws wa wc _ Q.o hl y.o).mono ?_;rintro e A⟨rfl,rfl⟩;go_wp2_with fail;refine(k4p ds a cap s _ H.o R.o o).mono ?_;rintro e A⟨⟨J,K,rfl,V,X,Y⟩,C⟩;have P:Hid (Below w w A):=q0e HB.o Zl C;have z:Hid (Below d d A):=C;have k:Hid (q1k s A a ds):=R.o.kept (C.block s o);have i:Hid (q8x A wa ws):=Q.o.W C;have j:Hid (q8v A J K ds 0):=Y;have b:s<A.heap.size:=Nat.lt_of_lt_of_le o C.size
 have HL:Hid (∀O,O=Obj.cells #[.slice a ds.length cap,.slice (some ⟨J,0,none⟩) ds.length ds.length,.slice (some ⟨K,0,none⟩) ds.length ds.length,.pointer none,.slice none 0 0,.slice wa ws.length wc] 136->
   Calls prog 70 #[.pointer (some ⟨A,0,none⟩),.int .i64 0,.int .i64 0] (A.alloc O) fun e w'=>k0c A.heap.size A.heap.size (q6z J K ds.length cap a) (t.lay 0 ws) [] e w'/\Below A A w'):=by
  intro O hO;have S:Below A A (A.alloc O):= Zb.alloc Zl _;refine(q7g A.heap.size A.heap.size s J K ⟨b,V,X⟩ Zl ds a cap h4 hc t HT.o 0 [] 0 ws wa wc [] (A.alloc O) (by rw[g.o];simp) ⟨k.o.kept (S.block s b),j.o.kept (S.block J V) (S.block K X)⟩ (q1j.W i.o S) y.o q ?_ (by rw[<-g.o];omega) (by rw[<-g.o];simp;omega)).mono ?_
  ·subst hO;exact IsO.unused 136 A.heap.size A.heap.size _ (q6z J K ds.length cap a) [.slice wa ws.length wc] (heap_alloc_new A _)
  ·rintro e w'⟨h1,h2⟩;exact⟨h1,S.trans h2⟩
 clear Y C;go_wp2_with fail;refine(HL.o _ rfl).mono ?_;rintro e w4⟨G,U⟩;have L:Hid (Below w w w4):=q0e P.o Zl U;clear U;cases B:t.lay 0 ws with
 | error er=>
  rw[B]at G;have E:=HS.o;rw[B]at E;have D:Hid (t.show ws=.error er):=E;obtain⟨M,rfl⟩:=G;have l:Hid (er≠0):=M;rw[q0l M];clear M B E;go_wp2;go_ret2;refine⟨?_,L.o⟩;rw[D.o];show _=Ending.returned (.tuple #[.string ⟨#[]⟩,q1r er]);rw[q0l l.o];rfl
 | ok p=>
  obtain⟨u,r⟩:=p;rw[B]at G;have E:=HS.o;rw[B]at E;obtain⟨rfl,v,x,I,_,_⟩:=G;have m:Hid (WS A.heap.size A.heap.size (q6z J K ds.length cap a) ([]++u) (.slice v r.length x) w4):=I;have g5:=I.c5;cases r with
  | nil=>
   have D:Hid (t.show ws=.ok u):=E;simp only[List.length_nil]at g5;clear B E I;go_wp2_with fail;refine(v5e 136 A.heap.size A.heap.size 3 (q6z J K ds.length cap a) ([]++u) _ _ rfl m.o).mono ?_;rintro e w5⟨rfl,n⟩;go_wp2;go_ret2;refine⟨?_,L.o.trans (n.mono P.o.size)⟩;rw[D.o];rfl
  | cons c r=>
   have D:Hid (t.show ws=.error 2):=E;simp only[List.length_cons]at g5;have g0:(0:Int)<(r.length:Int)+1:=by omega
   clear B E I;go_wp2;go_ret2;refine⟨?_,L.o⟩;rw[D.o];rfl
theorem v1d(ds:List Nd)(ws:List Int)(a wa:Option Addr)(cap wc:Nat)(hc:ds.length<=cap)(B:ws.length<=wc)(hl:ws.length<=9223372036854775807)(w:World)(hN:q1u w a ds)(hI:q8x w wa ws):
  Calls prog 26 #[.slice a ds.length cap,.slice wa ws.length wc] w fun e w'=>e=.returned (.tuple #[.string (shS (q5v ds ws)),q1r (shE (q5v ds ws))])/\Below w w w':=by
 by_cases h:q3d ds=0
 ·obtain⟨C,_,_⟩:=q5c h;rw[z2d (q9f h) (q3u h) C];by_cases A:q2q ws
  ·exact v7b ds _ (q3u h) (q9f h) ws a wa cap wc hc B w hN hI hl h A
  ·have e:(v7x ds h).show ws=.error 1:=by
    unfold Tr.show;rw[if_neg (fun hh=>A (k3b.1 hh))]
   rw[e];exact k5m ds ws a wa cap wc w hN hI hl h A
 ·rw[k2k h];exact v1e ds ws a wa cap wc w hN h
end Go.Proofs.YthcpdohdppkmkaaGreatDoor
