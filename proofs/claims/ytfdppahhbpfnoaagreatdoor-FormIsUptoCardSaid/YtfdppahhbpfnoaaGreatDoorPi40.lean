import Derived.Test.YtfdppahhbpfnoaaGreatDoorPi36
import Derived.Test.YtfdppahhbpfnoaaGreatDoorPi37
import Derived.Test.YtfdppahhbpfnoaaGreatDoorPi28
open Go.Proofs.Tryz
namespace Go.Proofs.YtfdppahhbpfnoaaGreatDoor
open Go Go.RowKit
set_option maxRecDepth 100000
set_option maxHeartbeats 16000000
abbrev Sev(W:World)(N:Nat)(w:World):Prop:=Six W w/\w.cell? ⟨W,2,none⟩=some (.int .i64 ((N:Nat):Int))
theorem q1d.sev{W:World}{o:Int}{t:ByteArray}{N:Nat}{w:World}(h:q1d W ⟨o,t,((N:Nat):Int)⟩ w):Sev W N w:=⟨h.six,h.n.2.2.2⟩
theorem y2k(t:ByteArray)(c:UInt8):t++(⟨#[c]⟩:ByteArray)=wbS (btL t++[c]):=by
 have e:wbS (btL t)++wbS [c]=wbS (btL t++[c]):=q1z _ _;exact e
theorem k1s(op cl:List UInt8):(q3j op cl []).N=[⟨1,wbS (op++cl),0⟩]:=rfl
theorem k1r{op cl:List UInt8}{ps:List (Td × Tr)}(h:ps.length≠0):(q3j op cl ps).N=⟨8,⟨#[]⟩,0⟩::(⟨6,⟨#[]⟩,0⟩::([⟨1,wbS op,0⟩]++(⟨6,⟨#[]⟩,0⟩::((⟨7,⟨#[]⟩,2⟩::(⟨6,⟨#[]⟩,0⟩::([⟨3,⟨#[]⟩,0⟩]++(kdD ps).N)))++(⟨6,⟨#[]⟩,0⟩::([⟨3,⟨#[]⟩,0⟩]++[⟨1,wbS cl,0⟩])))))):=by
 rw[q3j,if_neg h];rfl
theorem k6d(k:Nat){o:Int}{xu l:ByteArray}{rb:UInt8}{ds:List Td}{a:Option Addr}{cap i N:Nat}{xt:ByteArray}(hk:k=0/\o=3/\xt=xu/\l=xt++(⟨#[40]⟩:ByteArray)/\rb=41\/k=1/\o=4/\xu=⟨#[]⟩/\l=⟨#[91]⟩/\rb=93)(hl:ds.length<=40)(hi:i<ds.length)(Ax:N<=6)(A2:xt.size<=8)(W:World)(hN:Tds W a ds)(he:ds[i]=⟨o,xu,((N:Nat):Int)⟩)(ks:List Nd)(Az:ks.length<=900)
  (hK:N≠0->∀W':World,Below W W W'->Calls prog 62 #[.slice a ds.length cap,.int .i64 ((i:Int)+1),.int .i64 ((N:Nat):Int)] W' fun e w'=>NdR W' ks e w'):
  Calls prog 26 #[.slice a ds.length cap,.int .i64 (i:Int)] W fun e w'=>NdR W (if N=0 then [⟨1,(l)++(⟨#[rb]⟩:ByteArray),0⟩]else⟨8,⟨#[]⟩,0⟩::(⟨6,⟨#[]⟩,0⟩::([⟨1,l,0⟩]++(⟨6,⟨#[]⟩,0⟩::((⟨7,⟨#[]⟩,2⟩::(⟨6,⟨#[]⟩,0⟩::([⟨3,⟨#[]⟩,0⟩]++ks)))++(⟨6,⟨#[]⟩,0⟩::([⟨3,⟨#[]⟩,0⟩]++[⟨1,(⟨#[rb]⟩:ByteArray),0⟩]))))))) e w':=by
 have A:Tag k:=.mk;rcases hk with⟨rfl,rfl,rfl,rfl,rfl⟩|⟨rfl,rfl,rfl,rfl,rfl⟩
 all_goals
  obtain⟨b,o,rfl,hb,c1,c2,c3⟩:=hN i hi;have Ay:(i:Int)<(ds.length:Int):=by omega
  rw[he]at c1 c2 c3;simp only at c1 c2 c3;have Q:Hid (q1d W ⟨↑(sel A (3:Int) 4),↑(sel A xt ⟨#[]⟩),((N:Nat):Int)⟩ (dcW W ↑(sel A (3:Int) 4) ↑(sel A xt ⟨#[]⟩) ((N:Nat):Int))):=k0o W ⟨↑(sel A (3:Int) 4),↑(sel A xt ⟨#[]⟩),((N:Nat):Int)⟩;have A0:(xt++(⟨#[40]⟩:ByteArray)).size=xt.size+1:=by rw[ByteArray.size_append];rfl
  have g1:¬(9223372036854775807:Int)<(xt.size:Int)+1:=by omega
  have g2:¬(9223372036854775807:Int)<(xt.size:Int)+1+1:=by omega
  have A1:IntKind.i64.wrap ((i:Int)+1)=(i:Int)+1:=by rw[IntKind.wrap_i64];omega
  have d:Hid (N≠0->∀W':World,Below W W W'->Calls prog 62 #[.slice (some ⟨b,o,none⟩) ds.length cap,.int .i64 ((i:Int)+1),.int .i64 ((N:Nat):Int)] W' fun e w'=>NdR W' ks e w'):=hK;clear hN he hK;by_cases h0:N=0
  ·subst h0;rw[if_pos rfl];go_in;go_wp2_with fail;refine(q1q _ _).mono ?_;rintro e E h3;have HR:Hid (NdR W [⟨1,(↑(sel A (xt++(⟨#[40]⟩:ByteArray)) ⟨#[91]⟩))++(⟨#[↑(sel A (41:UInt8) 93)]⟩:ByteArray),0⟩] e E):=h3.from Q.o.b;obtain⟨v3,rfl,_,_⟩:=h3.val;clear h3;go_wp2;go_ret;exact HR.o
  ·rw[if_neg h0];have Av:(((N:Nat):Int)==0)=false:=beq_false_of_ne (by omega);have Aw:¬((N:Nat):Int)=0:=by omega
   have f:Hid (∀W':World,Below W W W'->Calls prog 62 #[.slice (some ⟨b,o,none⟩) ds.length cap,.int .i64 ((i:Int)+1),.int .i64 ((N:Nat):Int)] W' fun e w'=>NdR W' ks e w'):=d.o h0;clear d h0;go_in;go_wp2_with fail;generalize Aa:((((W.alloc (.cells #[.int .i64 ↑(sel A (3:Int) 4),.string ↑(sel A xt ⟨#[]⟩),.int .i64 ((N:Nat):Int)] 47)).alloc (.cells #[.int .i64 2,.string ⟨#[]⟩,.int .i64 0] 107)).alloc (.cells #[.int .i64 3,.string ⟨#[]⟩,.int .i64 0] 107)).alloc (.cells #[.int .i64 8,.string ⟨#[]⟩,.int .i64 0] 107)).alloc (.cells #[.int .i64 7,.string ⟨#[]⟩,.int .i64 2] 107)=E
   have C:Hid (q1d W ⟨↑(sel A (3:Int) 4),↑(sel A xt ⟨#[]⟩),((N:Nat):Int)⟩ E):=by
    show q1d _ _ _;rw[<-Aa];exact Q.o
   have s:Hid (Sev W N E):=C.o.sev;have I:Hid (Sev W N E.drew):=C.o.sev;have G:Hid (Below E E E.drew):= Zb.drew;have Y:Hid (Below W W E.drew):=C.o.b.drew;clear Aa Q c1 c2 c3
   go_region_held3 (fun w'=>Sev W N w') (first|with_reducible exact I.o|with_reducible exact s.o|with_reducible exact t.o|with_reducible exact u.o|with_reducible exact v.o)
    (first
      | (go_at_call 60;refine((q3i ⟨7,⟨#[]⟩,2⟩ (w5) Ad.o (by simp<;>omega))).mono ?_;rintro e L h6;obtain⟨v6,rfl,n6,b6⟩:=h6.val;have O:Hid (q1d W ⟨↑(sel A (3:Int) 4),↑(sel A xt ⟨#[]⟩),((N:Nat):Int)⟩ L):=M.o.W b6;have v:Hid (Sev W N L):=O.o.sev;have Ag:Hid (NdV L v6 (⟨7,⟨#[]⟩,2⟩::(⟨6,⟨#[]⟩,0⟩::([⟨3,⟨#[]⟩,0⟩]++ks)))):=n6;clear h6 n6 b6)
      | (go_at_call 61;refine((q0z (w4) H.o.sf Ak.o (by simp<;>omega))).mono ?_;rintro e w5 h5;obtain⟨v5,rfl,n5,b5⟩:=h5.val;have M:Hid (q1d W ⟨↑(sel A (3:Int) 4),↑(sel A xt ⟨#[]⟩),((N:Nat):Int)⟩ w5):=H.o.W b5;have u:Hid (Sev W N w5):=M.o.sev;have Ad:Hid (NdV w5 v5 (⟨6,⟨#[]⟩,0⟩::([⟨3,⟨#[]⟩,0⟩]++ks))):=n5;clear h5 n5 b5)
      | (go_at_call 62;refine((f.o (E.drew) Y.o).mono fun _ _ h=>h.from G.o).mono ?_;rintro e w4 h4;obtain⟨v4,rfl,n4,b4⟩:=h4.val;have H:Hid (q1d W ⟨↑(sel A (3:Int) 4),↑(sel A xt ⟨#[]⟩),((N:Nat):Int)⟩ w4):=C.o.W b4;have t:Hid (Sev W N w4):=H.o.sev;have Ak:Hid (NdV w4 v4 (ks)):=n4;clear h4 n4 b4))
   all_goals
    clear I G Y;have I:Hid (Sev W N L.drew):=O.o.sev;have G:Hid (Below L L L.drew):= Zb.drew;clear f s t u C H M;go_wp2_with fail
    go_region_held3 (fun w'=>Sev W N w') (first|with_reducible exact I.o|with_reducible exact v.o|with_reducible exact Ap.o|with_reducible exact Aq.o|with_reducible exact Ar.o|with_reducible exact p.o|with_reducible exact q.o|with_reducible exact r.o)
     (first
      | (go_at_call 60;refine((q3i ⟨8,⟨#[]⟩,0⟩ (J) c.o (by simp<;>omega))).mono ?_;rintro e U S;have Ao:Hid (NdR W (⟨8,⟨#[]⟩,0⟩::(⟨6,⟨#[]⟩,0⟩::([⟨1,↑(sel A (xt++(⟨#[40]⟩:ByteArray)) ⟨#[91]⟩),0⟩]++(⟨6,⟨#[]⟩,0⟩::((⟨7,⟨#[]⟩,2⟩::(⟨6,⟨#[]⟩,0⟩::([⟨3,⟨#[]⟩,0⟩]++ks)))++(⟨6,⟨#[]⟩,0⟩::([⟨3,⟨#[]⟩,0⟩]++[⟨1,(⟨#[↑(sel A (41:UInt8) 93)]⟩:ByteArray),0⟩]))))))) e U):=S.from B.o.b;obtain⟨A3,rfl,As,x⟩:=S.val;have j:Hid (q1d W ⟨↑(sel A (3:Int) 4),↑(sel A xt ⟨#[]⟩),((N:Nat):Int)⟩ U):=B.o.W x;have r:Hid (Sev W N U):=j.o.sev;clear S As x)
      | (go_at_call 61;refine((q0z (D) g.o Z.o (by simp<;>omega))).mono ?_;rintro e J z;obtain⟨Au,rfl,Ac,w⟩:=z.val;have B:Hid (q1d W ⟨↑(sel A (3:Int) 4),↑(sel A xt ⟨#[]⟩),((N:Nat):Int)⟩ J):=K.o.W w;have q:Hid (Sev W N J):=B.o.sev;have c:Hid (NdV J Au (⟨6,⟨#[]⟩,0⟩::([⟨1,↑(sel A (xt++(⟨#[40]⟩:ByteArray)) ⟨#[91]⟩),0⟩]++(⟨6,⟨#[]⟩,0⟩::((⟨7,⟨#[]⟩,2⟩::(⟨6,⟨#[]⟩,0⟩::([⟨3,⟨#[]⟩,0⟩]++ks)))++(⟨6,⟨#[]⟩,0⟩::([⟨3,⟨#[]⟩,0⟩]++[⟨1,(⟨#[↑(sel A (41:UInt8) 93)]⟩:ByteArray),0⟩]))))))):=Ac;clear z Ac w)
      | (go_at_call 61;refine((q0z (X) Aj.o Af.o (by simp<;>omega))).mono ?_;rintro e D y;obtain⟨At,rfl,Ab,R⟩:=y.val;have K:Hid (q1d W ⟨↑(sel A (3:Int) 4),↑(sel A xt ⟨#[]⟩),((N:Nat):Int)⟩ D):=n.o.W R;have p:Hid (Sev W N D):=K.o.sev;have g:Hid (NdV D v7 ([⟨1,↑(sel A (xt++(⟨#[40]⟩:ByteArray)) ⟨#[91]⟩),0⟩])):=An.o.W R;have Z:Hid (NdV D At (⟨6,⟨#[]⟩,0⟩::((⟨7,⟨#[]⟩,2⟩::(⟨6,⟨#[]⟩,0⟩::([⟨3,⟨#[]⟩,0⟩]++ks)))++(⟨6,⟨#[]⟩,0⟩::([⟨3,⟨#[]⟩,0⟩]++[⟨1,(⟨#[↑(sel A (41:UInt8) 93)]⟩:ByteArray),0⟩]))))):=Ab;clear y Ab R)
      | (go_at_call 61;refine((q0z (V) P.o.sf Ae.o (by simp<;>omega))).mono ?_;rintro e X h9;obtain⟨v9,rfl,n9,b9⟩:=h9.val;have n:Hid (q1d W ⟨↑(sel A (3:Int) 4),↑(sel A xt ⟨#[]⟩),((N:Nat):Int)⟩ X):=P.o.W b9;have Ar:Hid (Sev W N X):=n.o.sev;have Aj:Hid (NdV X v6 (⟨7,⟨#[]⟩,2⟩::(⟨6,⟨#[]⟩,0⟩::([⟨3,⟨#[]⟩,0⟩]++ks)))):=Ai.o.W b9;have An:Hid (NdV X v7 ([⟨1,↑(sel A (xt++(⟨#[40]⟩:ByteArray)) ⟨#[91]⟩),0⟩])):=Am.o.W b9;have Af:Hid (NdV X v9 (⟨6,⟨#[]⟩,0⟩::([⟨3,⟨#[]⟩,0⟩]++[⟨1,(⟨#[↑(sel A (41:UInt8) 93)]⟩:ByteArray),0⟩]))):=n9;clear h9 n9 b9)
      | (go_at_call 57;refine((q1q _ (w7))).mono ?_;rintro e V h8;obtain⟨v8,rfl,n8,b8⟩:=h8.val;have P:Hid (q1d W ⟨↑(sel A (3:Int) 4),↑(sel A xt ⟨#[]⟩),((N:Nat):Int)⟩ V):=m.o.W b8;have Aq:Hid (Sev W N V):=P.o.sev;have Ai:Hid (NdV V v6 (⟨7,⟨#[]⟩,2⟩::(⟨6,⟨#[]⟩,0⟩::([⟨3,⟨#[]⟩,0⟩]++ks)))):=Ah.o.W b8;have Am:Hid (NdV V v7 ([⟨1,↑(sel A (xt++(⟨#[40]⟩:ByteArray)) ⟨#[91]⟩),0⟩])):=Al.o.W b8;have Ae:Hid (NdV V v8 ([⟨1,(⟨#[↑(sel A (41:UInt8) 93)]⟩:ByteArray),0⟩])):=n8;clear h8 n8 b8)
      | (go_at_call 57;refine((q1q _ (L.drew)).mono fun _ _ h=>h.from G.o).mono ?_;rintro e w7 h7;obtain⟨v7,rfl,n7,b7⟩:=h7.val;have m:Hid (q1d W ⟨↑(sel A (3:Int) 4),↑(sel A xt ⟨#[]⟩),((N:Nat):Int)⟩ w7):=O.o.W b7;have Ap:Hid (Sev W N w7):=m.o.sev;have Ah:Hid (NdV w7 v6 (⟨7,⟨#[]⟩,2⟩::(⟨6,⟨#[]⟩,0⟩::([⟨3,⟨#[]⟩,0⟩]++ks)))):=Ag.o.W b7;have Al:Hid (NdV w7 v7 ([⟨1,↑(sel A (xt++(⟨#[40]⟩:ByteArray)) ⟨#[91]⟩),0⟩])):=n7;clear h7 n7 b7))
    all_goals
     go_wp2;go_ret;exact Ao.o
theorem Calls.valued{P:Program}{fn:Nat}{args:Array Value}{w:World}{Q:Value->World->Prop}{R:Ending->World->Prop}(h:Calls P fn args w fun e w'=>∃v,e=.returned v/\Q v w')(hR:∀v w',Q v w'->R (.returned v) w'):Calls P fn args w R:=
 h.mono fun _ _⟨v,he,hq⟩=>by rw[he];exact hR v _ hq
theorem z5i{B b:Nat}{pl:List Value}{A:Except Int (List UInt8 × List Int)}{l:List UInt8}{e:Ending}{w':World}(h:k0b B b pl A l e w'):∃v,e=.returned v/\k0b B b pl A l (.returned v) w':=by
 cases A with
 | error er=>obtain⟨C,rfl⟩:=h;exact⟨_,rfl,C,rfl⟩
 | ok p=>obtain⟨rfl,C⟩:=h;exact⟨_,rfl,rfl,C⟩
theorem v0f(B b s be bf:Nat)(hb:s<B/\be<B/\bf<B)(hB:B<=b)(ds:List Nd)(a:Option Addr)(cap:Nat)(hl:ds.length<=400)(P:ds.length<=cap)(tx:ByteArray)(n:Int)(t:Tr)(ht:Tr.Wf (.one ⟨8,tx,n⟩ t))(f:Nat->List Int->Except Int (List UInt8 × List Int))(hA:q3n B b s be bf ds a cap t.N f):
  k2y 92 B b s be bf ds a cap (⟨8,tx,n⟩::t.N) (q4r f t.line t.isFlat):=by
 intro i r C G wa wc l w Y u y U I E M m;have R:ds.drop i=(Tr.one ⟨8,tx,n⟩ t).N++r:=Y;obtain⟨hi,e1,e2⟩:=q1u (x:=⟨8,tx,n⟩) (A:=t.N++r) Y;obtain⟨o0,ea,Z,d2,d3⟩:=u.nd i hi;subst ea;rw[e1]at Z;have Ac:=E.lt;have Ab:B<=w.heap.size:=by omega
 have H:∀v,Below B w (w.setCell ⟨b,5,none⟩ v):=fun v=> Zb.setCell (p:=⟨b,5,none⟩) hB _
 simp only[List.length_cons]at M m;cases G with
 | nil=>
  refine(k8d i C w E.c5).mono ?_;rintro e J⟨rfl,rfl⟩;exact⟨⟨by decide,rfl⟩,Below.refl _ _⟩
 | cons c G=>
  obtain⟨q,o1,g,Aa,o⟩:=y 0 (by simp);subst g;have z:=y.slid (by simpa using I);simp only[Nat.add_zero,List.getElem_cons_zero]at o;simp only[List.length_cons]at E I;have V:q2q G:=fun d Y=>U d (by simp[Y])
  have S:G.length<=wc-1:=by omega
  generalize X:(if wc=1 then some (⟨q,o1,none⟩:Addr)else some ⟨q,o1+1,none⟩)=wa' at z;have K:=u.W hb (H (.slice wa' G.length (wc-1)));have O:=z.W (H (.slice wa' G.length (wc-1)));have L:=E.stored (.slice wa' G.length (wc-1));rcases U c (by simp)with k|k
  ·subst k;refine Calls.valued (Q:=fun v J=>k0b B b (q7d be bf ds.length cap (some ⟨s,o0,none⟩)) (q4r f t.line t.isFlat C (0::G)) l (.returned v) J/\Below B w J) ?_ (fun v J h=>h);refine y5r (be:=be) i C G.length w (by omega) (by omega) (by omega) hl (by omega) E.c0 Z E.c1 E.c5 E.f5 I o _ ?_;rw[X];cases hf:t.isFlat with
   | false=>
    refine(v6c B b s be bf ds _ cap i (.one ⟨8,tx,n⟩ t) r l _ _ ht R K L hf).mono ?_;rintro e w2⟨rfl,D⟩;refine⟨_,rfl,⟨?_,rfl⟩,(H _).trans D⟩;decide
   | true=>
    refine(v0m B b s be bf hb hB ds _ cap P hl i (.one ⟨8,tx,n⟩ t) r l _ _ ht R K L hf (by omega)).mono ?_;rintro e w2⟨rfl,j,D⟩;exact⟨_,rfl,⟨rfl,wa',wc-1,j,O.W D,S⟩,(H _).trans D⟩
  ·subst k;refine Calls.valued (Q:=fun v J=>k0b B b (q7d be bf ds.length cap (some ⟨s,o0,none⟩)) (q4r f t.line t.isFlat C (1::G)) l (.returned v) J/\Below B w J) ?_ (fun v J h=>h);refine y5s (be:=be) i C G.length w (by omega) (by omega) (by omega) hl (by omega) E.c0 Z E.c1 E.c5 E.f5 I o _ ?_;rw[X];refine(hA (i+1) r C G wa' (wc-1) l _ e2 K O V S L (by omega) (by omega)).mono ?_;rintro e w2⟨j,D⟩;obtain⟨v,rfl,h3⟩:=z5i j;exact⟨v,rfl,h3,(H _).trans D⟩
theorem v0g(B b s be bf:Nat)(hb:s<B/\be<B/\bf<B)(hB:B<=b)(ds:List Nd)(a:Option Addr)(cap:Nat)(hl:ds.length<=400)(tx:ByteArray)(n:Int)(t t':Tr)(ht:t.Wf)(f g:Nat->List Int->Except Int (List UInt8 × List Int))(hA:q3n B b s be bf ds a cap t.N f)(hG:q3n B b s be bf ds a cap t'.N g):
  k2y 92 B b s be bf ds a cap (⟨9,tx,n⟩::(t.N++t'.N)) (q4g f g):=by
 intro i r C D wa wc l w o k z S H E L q;obtain⟨hi,e1,e0⟩:=q1u (x:=⟨9,tx,n⟩) (A:=t.N++t'.N++r) o;have V:ds.drop (i+1)=t.N++(t'.N++r):=by rw[e0,List.append_assoc]
 have Ac:=q9i V;obtain⟨o0,ea,X,d2,d3⟩:=k.nd i hi;subst ea;rw[e1]at X;have Ad:=E.lt;have Ab:B<=w.heap.size:=by omega
 have G:∀v,Below B w (w.setCell ⟨b,5,none⟩ v):=fun v=> Zb.setCell (p:=⟨b,5,none⟩) hB _
 have k1:=(k.kn (i+1) t _ (Nat.zero_le _) ht V).1;simp only[List.length_cons,List.length_append]at L q;cases D with
 | nil=>
  refine(k8d i C w E.c5).mono ?_;rintro e J⟨rfl,rfl⟩;exact⟨⟨by decide,rfl⟩,Below.refl _ _⟩
 | cons c D=>
  obtain⟨y,o1,Y,Aa,u⟩:=z 0 (by simp);subst Y;have hS:=z.slid (by simpa using H);simp only[Nat.add_zero,List.getElem_cons_zero]at u;simp only[List.length_cons]at E H;have I:q2q D:=fun d o=>S d (by simp[o])
  have R:D.length<=wc-1:=by omega
  generalize U:(if wc=1 then some (⟨y,o1,none⟩:Addr)else some ⟨y,o1+1,none⟩)=wa' at hS;have M:=k.W hb (G (.slice wa' D.length (wc-1)));have O:=hS.W (G (.slice wa' D.length (wc-1)));have P:=E.stored (.slice wa' D.length (wc-1));rcases S c (by simp)with m|m
  ·subst m;refine Calls.valued (Q:=fun v J=>k0b B b (q7d be bf ds.length cap (some ⟨s,o0,none⟩)) (q4g f g C (0::D)) l (.returned v) J/\Below B w J) ?_ (fun v J h=>h);refine y5t (be:=be) i C D.length w (by omega) (by omega) (by omega) hl (by omega) E.c0 X E.c1 E.c5 E.f5 H u _ ?_;rw[U];refine(hA (i+1) _ C D wa' (wc-1) l _ V M O I R P (by omega) (by omega)).mono ?_;rintro e w2⟨Z,K⟩;obtain⟨v,rfl,j⟩:=z5i Z;exact⟨v,rfl,j,(G _).trans K⟩
  ·subst m;refine Calls.valued (Q:=fun v J=>k0b B b (q7d be bf ds.length cap (some ⟨s,o0,none⟩)) (q4g f g C (1::D)) l (.returned v) J/\Below B w J) ?_ (fun v J h=>h);refine y5u (be:=be) i C D.length w (by omega) (by omega) (by omega) hl (by omega) (by omega) (i+1+t.N.length) k1 E.c0 X E.c1 E.c5 E.f5 H u _ ?_;rw[U];refine(hG (i+1+t.N.length) r C D wa' (wc-1) l _ (z8e V) M O I R P (by omega) (by omega)).mono ?_;rintro e w2⟨Z,K⟩;obtain⟨v,rfl,j⟩:=z5i Z;exact⟨v,rfl,j,(G _).trans K⟩
theorem y4d{t:Tr}{A:Nat}{ws:List Int}{u:List UInt8}{v:List Int}(h:q2q ws)(e:t.lay A ws=.ok (u,v)):q2q v:=by
 obtain⟨p,_,rfl⟩:=q5p t A ws v u h e;exact fun c hc=>h c (by simp[hc])
theorem q7l(B b s be bf:Nat)(hb:s<B/\be<B/\bf<B)(hB:B<=b)(ds:List Nd)(a:Option Addr)(cap:Nat)(hl:ds.length<=400)(hcap:ds.length<=cap):∀t:Tr,t.Wf->q3n B b s be bf ds a cap t.N t.lay
 | .leaf ⟨op,tx,n⟩,h=>by
  obtain⟨_,_,_,_,h5,_⟩:=q2a h.1;rcases q3y h.1 h.2 with e|e|e|e|e
  all_goals (simp only at e;subst e)
  ·exact y5x B b s be bf hb hB ds a cap hl tx n (q4c (h5 rfl)).2
  ·exact y5y B b s be bf hb hB ds a cap hl tx n
  ·exact y5z B b s be bf hb hB ds a cap hl tx n
  ·exact y6a B b s be bf hb hB ds a cap hl tx n
  ·exact y6b B b s be bf hb hB ds a cap hl tx n
 | .one ⟨op,tx,n⟩ a',h=>by
  obtain⟨_,_,_,_,_,h6⟩:=q2a h.1;rcases q8d h.2.1 with e|e
  all_goals (simp only at e;subst e)
  ·exact y6d B b s be bf hb hB ds a cap hl tx n (h6 rfl).1 (h6 rfl).2 _ _ (q7l B b s be bf hb hB ds a cap hl hcap a' h.2.2)
  ·rw[k1a (x:=⟨8,tx,n⟩) rfl];exact y6e B b s be bf hb hB ds a cap hl tx n _ _ (v0f B b s be bf hb hB ds a cap hl hcap tx n a' h _ (q7l B b s be bf hb hB ds a cap hl hcap a' h.2.2))
 | .two ⟨op,tx,n⟩ a' c,h=>by
  rcases q7p h.2.1 with e|e
  all_goals (simp only at e;subst e)
  ·rw[j5n (x:=⟨6,tx,n⟩) rfl];exact y6c B b s be bf hb hB ds a cap hl tx n _ _ _ _ (q7l B b s be bf hb hB ds a cap hl hcap a' h.2.2.1) (q7l B b s be bf hb hB ds a cap hl hcap c h.2.2.2) (fun _ _ _ _=>⟨a',h.2.2.1,rfl⟩) (List.length_pos_iff.1 c.pos) (fun deep ws u v he hd=>q5t a' deep ws u v h.2.2.1 he hd) (fun deep ws u v h0 he=>y4d h0 he)
  ·rw[z6n (x:=⟨9,tx,n⟩) rfl];exact y6f B b s be bf hb hB ds a cap hl tx n _ _ _ (v0g B b s be bf hb hB ds a cap hl tx n a' c h.2.2.1 _ _ (q7l B b s be bf hb hB ds a cap hl hcap a' h.2.2.1) (q7l B b s be bf hb hB ds a cap hl hcap c h.2.2.2))
theorem v0r(ds:List Nd)(ws:List Int)(a wa:Option Addr)(cap wc:Nat)(w:World)(hN:q1p w a ds)(h:q3f ds≠0):
  Calls prog 19 #[.slice a ds.length cap,.slice wa ws.length wc] w fun e w'=>e=.returned (.tuple #[.string ⟨#[]⟩,q1v (q3f ds)])/\Below w w w':=by
 have A:Hid (q1p w a ds):=hN;have H:Hid (q3f ds≠0):=h;rw[q0t h];clear hN h;go_in;go_wp2_with fail;refine(q3e ds a cap _ A.o).mono ?_;rintro e C⟨rfl,B⟩;rw[q0t H.o];go_wp2;go_ret2;exact⟨rfl,B⟩
theorem k5l(ds:List Nd)(ws:List Int)(a wa:Option Addr)(cap wc:Nat)(w:World)(hN:q1p w a ds)(hI:q7r w wa ws)(hl:ws.length<=9223372036854775807)(h:q3f ds=0)(h1:¬q2q ws):
  Calls prog 19 #[.slice a ds.length cap,.slice wa ws.length wc] w fun e w'=>e=.returned (.tuple #[.string ⟨#[]⟩,q1v 1])/\Below w w w':=by
 have E:Hid (q1p w a ds):=hN;have D:Hid (q7r w wa ws):=hI;have H:Hid (q3f ds=0):=h;have C:Hid (¬q2q ws):=h1;rw[z6f];clear hN hI h h1;go_in;go_wp2_with fail;refine(q3e ds a cap _ E.o).mono ?_;rintro e G⟨rfl,B⟩;rw[H.o,q1l];have A:Hid (q7r G wa ws):=D.o.W B;go_wp2_with fail;refine(y3n ws wa wc _ A.o hl C.o).mono ?_;rintro e I⟨rfl,rfl⟩;go_wp2;go_ret2;exact⟨rfl,B⟩
theorem v6d(ds:List Nd)(t:Tr)(hd:ds=t.N)(ht:t.Wf)(ws:List Int)(a wa:Option Addr)(cap wc:Nat)(hc:ds.length<=cap)(q:ws.length<=wc)(w:World)(hN:q1p w a ds)(hI:q7r w wa ws)(hl:ws.length<=9223372036854775807)(h:q3f ds=0)(h1:q2q ws):
  Calls prog 19 #[.slice a ds.length cap,.slice wa ws.length wc] w fun e w'=>e=.returned (.tuple #[.string (shS (t.show ws)),q1v (shE (t.show ws))])/\Below w w w':=by
 have HN:Hid (q1p w a ds):=hN;have HI:Hid (q7r w wa ws):=hI;have H:Hid (q3f ds=0):=h;have y:Hid (q2q ws):=h1;have HT:Hid (t.Wf):=ht;have g:Hid (ds=t.N):=hd;obtain⟨h4,_,_⟩:=q5d h;have HS:Hid (t.show ws=match t.lay 0 ws with| .error e=>.error e| .ok (s,[])=>.ok s| .ok (_,_::_)=>.error 2):=k7q h1;have H0:Hid (ds≠[]):=(show ds≠[] by have:=t.pos;rw[<-hd]at this;exact List.length_pos_iff.1 this);clear hN hI h h1 ht hd;go_in;go_wp2_with fail;refine(q3e ds a cap _ HN.o).mono ?_;rintro e d⟨rfl,f⟩;rw[H.o,q1l];have HB:Hid (Below w w d):=f;have Q:Hid (q7r d wa ws):=HI.o.W f;obtain⟨s,o,Z⟩:=(HN.o.W f).s H0.o;have R:Hid (q1i s d a ds):=Z;clear f Z;go_wp2_with fail;refine(y7g ws wa wc _ Q.o hl y.o).mono ?_;rintro e A⟨rfl,rfl⟩;go_wp2_with fail;refine(k4l ds a cap s _ H.o R.o o).mono ?_;rintro e A⟨⟨J,K,rfl,V,X,Y⟩,C⟩;have P:Hid (Below w w A):=q0d HB.o Zl C;have z:Hid (Below d d A):=C;have k:Hid (q1i s A a ds):=R.o.kept (C.block s o);have i:Hid (q7r A wa ws):=Q.o.W C;have j:Hid (q9b A J K ds 0):=Y;have b:s<A.heap.size:=Nat.lt_of_lt_of_le o C.size
 have HL:Hid (∀O,O=Obj.cells #[.slice a ds.length cap,.slice (some ⟨J,0,none⟩) ds.length ds.length,.slice (some ⟨K,0,none⟩) ds.length ds.length,.pointer none,.slice none 0 0,.slice wa ws.length wc] 101->
   Calls prog 52 #[.pointer (some ⟨A,0,none⟩),.int .i64 0,.int .i64 0] (A.alloc O) fun e w'=>k0b A.heap.size A.heap.size (q7d J K ds.length cap a) (t.lay 0 ws) [] e w'/\Below A A w'):=by
  intro O hO;have S:Below A A (A.alloc O):= Zb.alloc Zl _;refine(q7l A.heap.size A.heap.size s J K ⟨b,V,X⟩ Zl ds a cap h4 hc t HT.o 0 [] 0 ws wa wc [] (A.alloc O) (by rw[g.o];simp) ⟨k.o.kept (S.block s b),j.o.kept (S.block J V) (S.block K X)⟩ (q1h.W i.o S) y.o q ?_ (by rw[<-g.o];omega) (by rw[<-g.o];simp;omega)).mono ?_
  ·subst hO;exact IsO.unused 101 A.heap.size A.heap.size _ (q7d J K ds.length cap a) [.slice wa ws.length wc] (heap_alloc_new A _)
  ·rintro e w'⟨h1,h2⟩;exact⟨h1,S.trans h2⟩
 clear Y C;go_wp2_with fail;refine(HL.o _ rfl).mono ?_;rintro e w4⟨G,U⟩;have L:Hid (Below w w w4):=q0d P.o Zl U;clear U;cases B:t.lay 0 ws with
 | error er=>
  rw[B]at G;have E:=HS.o;rw[B]at E;have D:Hid (t.show ws=.error er):=E;obtain⟨M,rfl⟩:=G;have l:Hid (er≠0):=M;rw[q0t M];clear M B E;go_wp2;go_ret2;refine⟨?_,L.o⟩;rw[D.o];show _=Ending.returned (.tuple #[.string ⟨#[]⟩,q1v er]);rw[q0t l.o];rfl
 | ok p=>
  obtain⟨u,r⟩:=p;rw[B]at G;have E:=HS.o;rw[B]at E;obtain⟨rfl,v,x,I,_,_⟩:=G;have m:Hid (WS A.heap.size A.heap.size (q7d J K ds.length cap a) ([]++u) (.slice v r.length x) w4):=I;have g5:=I.c5;cases r with
  | nil=>
   have D:Hid (t.show ws=.ok u):=E;simp only[List.length_nil]at g5;clear B E I;go_wp2_with fail;refine(v4h 101 A.heap.size A.heap.size 3 (q7d J K ds.length cap a) ([]++u) _ _ rfl m.o).mono ?_;rintro e w5⟨rfl,n⟩;go_wp2;go_ret2;refine⟨?_,L.o.trans (n.mono P.o.size)⟩;rw[D.o];rfl
  | cons c r=>
   have D:Hid (t.show ws=.error 2):=E;simp only[List.length_cons]at g5;have g0:(0:Int)<(r.length:Int)+1:=by omega
   clear B E I;go_wp2;go_ret2;refine⟨?_,L.o⟩;rw[D.o];rfl
theorem v0q(ds:List Nd)(ws:List Int)(a wa:Option Addr)(cap wc:Nat)(hc:ds.length<=cap)(B:ws.length<=wc)(hl:ws.length<=9223372036854775807)(w:World)(hN:q1p w a ds)(hI:q7r w wa ws):
  Calls prog 19 #[.slice a ds.length cap,.slice wa ws.length wc] w fun e w'=>e=.returned (.tuple #[.string (shS (q5y ds ws)),q1v (shE (q5y ds ws))])/\Below w w w':=by
 by_cases h:q3f ds=0
 ·obtain⟨C,_,_⟩:=q5d h;rw[z2g (q9h h) (q3u h) C];by_cases A:q2q ws
  ·exact v6d ds _ (q3u h) (q9h h) ws a wa cap wc hc B w hN hI hl h A
  ·have e:(v6x ds h).show ws=.error 1:=by
    unfold Tr.show;rw[if_neg (fun hh=>A (k3a.1 hh))]
   rw[e];exact k5l ds ws a wa cap wc w hN hI hl h A
 ·rw[k2i h];exact v0r ds ws a wa cap wc w hN h
theorem k3l{ds:List Td}{a:Option Addr}{cap:Nat}(hs:v8w ds):∀F:Fo,F.ok->F.exs->DcA ds a cap F
 | .nil,_,_=>trivial
 | .cons x k n,hok,hex=>by
  have hexk:k.exs:=fun y hy=>hex y (by simp[Fo.N,hy])
  have ihk:=k3l (a:=a) (cap:=cap) hs k hok.2.1 hexk;have ihn:=k3l (a:=a) (cap:=cap) hs n hok.2.2 fun y hy=>hex y (by simp[Fo.N,hy])
  have hx:=hex x (by simp[Fo.N]);refine⟨?_,ihn⟩
  have kids:∀(i:Nat)(r:List Td),ds.drop i=(Fo.cons x k n).N++r->∀W:World,Tds W a ds->∃hp:i<ds.length,ds[i]=x/\(kdD k.D).N.length<=900/\(k.len≠0->∀W':World,Below W W W'->Calls prog 62 #[.slice a ds.length cap,.int .i64 ((i:Int)+1),.int .i64 (k.len:Int)] W' fun e w'=>NdR W' (kdD k.D).N e w'):=fun i r hi W hN=>by
   obtain⟨hp,e1,e2,_,_⟩:=k9h hi hok;refine⟨hp,e1,?_,fun h0 W' hb=>?_⟩
   ·have h1:=z3c hs e2;have h2:=k9y k.D;omega
   ·have h:=z4e (cap:=cap) hs k (i+1) _ e2 hok.2.1 ihk h0 W' (hN.W hb);rw[show((i+1:Nat):Int)=(i:Int)+1 by omega]at h;exact h
  rcases q6f hx with⟨ho,_⟩|⟨ho,_⟩|⟨ho,hnm,h0,h6,hkd⟩|⟨ho,htx,h0,h6,hkd⟩|⟨ho,_⟩|⟨ho,_⟩
  ·exact k6c hs hok hx (.inl ho)
  ·exact k6c hs hok hx (.inr ho)
  ·intro i r hi W hN;obtain⟨hp,e1,hkl,hK⟩:=kids i r hi W hN;have hlen:k.len=x.n.toNat:=hok.1.trans hkd
   have e3:x=⟨3,x.tx,((k.len:Nat):Int)⟩:=by
    obtain⟨H,xt,G⟩:=x;simp only at ho h0 hlen⊢;rw[ho,hlen,Int.toNat_of_nonneg h0]
   have E:x.tx.size<=8:=by rw[<-q0c];exact q5q hnm
   have h:=k6d 0 (.inl ⟨rfl,rfl,rfl,rfl,rfl⟩) (cap:=cap) hs.l hp (N:=k.len) (xt:=x.tx) (by omega) E W hN (by rw[e1];exact e3) (kdD k.D).N hkl hK
   have B:(q0l x k.D).N=if k.len=0 then [⟨1,(x.tx++(⟨#[40]⟩:ByteArray))++(⟨#[41]⟩:ByteArray),0⟩]else⟨8,⟨#[]⟩,0⟩::(⟨6,⟨#[]⟩,0⟩::([⟨1,x.tx++(⟨#[40]⟩:ByteArray),0⟩]++(⟨6,⟨#[]⟩,0⟩::((⟨7,⟨#[]⟩,2⟩::(⟨6,⟨#[]⟩,0⟩::([⟨3,⟨#[]⟩,0⟩]++(kdD k.D).N)))++(⟨6,⟨#[]⟩,0⟩::([⟨3,⟨#[]⟩,0⟩]++[⟨1,(⟨#[41]⟩:ByteArray),0⟩])))))):=by
    rw[show q0l x k.D=q3j (btL x.tx++[40]) [41] k.D by simp[q0l,ho],y2k x.tx 40];by_cases A:k.len=0
    ·have:k.D=[]:=List.eq_nil_of_length_eq_zero (by rw[q6t];exact A)
     rw[if_pos A,this,k1s];have C:wbS (btL x.tx++[40])++(⟨#[41]⟩:ByteArray)=wbS (btL x.tx++[40]++[41]):=q1z _ _;rw[C]
    ·rw[if_neg A,k1r (by rw[q6t];exact A)];rfl
   show Calls _ _ _ _ _;rw[B];exact h
  ·intro i r hi W hN;obtain⟨hp,e1,hkl,hK⟩:=kids i r hi W hN;have hlen:k.len=x.n.toNat:=hok.1.trans hkd
   have e3:x=⟨4,⟨#[]⟩,((k.len:Nat):Int)⟩:=by
    obtain⟨H,xt,G⟩:=x;simp only at ho h0 hlen htx⊢;rw[ho,htx,hlen,Int.toNat_of_nonneg h0]
   have h:=k6d 1 (.inr ⟨rfl,rfl,rfl,rfl,rfl⟩) (cap:=cap) hs.l hp (N:=k.len) (xt:=⟨#[]⟩) (by omega) (by decide) W hN (by rw[e1];exact e3) (kdD k.D).N hkl hK
   have B:(q0l x k.D).N=if k.len=0 then [⟨1,(⟨#[91]⟩:ByteArray)++(⟨#[93]⟩:ByteArray),0⟩]else⟨8,⟨#[]⟩,0⟩::(⟨6,⟨#[]⟩,0⟩::([⟨1,(⟨#[91]⟩:ByteArray),0⟩]++(⟨6,⟨#[]⟩,0⟩::((⟨7,⟨#[]⟩,2⟩::(⟨6,⟨#[]⟩,0⟩::([⟨3,⟨#[]⟩,0⟩]++(kdD k.D).N)))++(⟨6,⟨#[]⟩,0⟩::([⟨3,⟨#[]⟩,0⟩]++[⟨1,(⟨#[93]⟩:ByteArray),0⟩])))))):=by
    rw[show q0l x k.D=q3j [91] [93] k.D by simp[q0l,ho]];by_cases A:k.len=0
    ·have:k.D=[]:=List.eq_nil_of_length_eq_zero (by rw[q6t];exact A)
     rw[if_pos A,this,k1s];rfl
    ·rw[if_neg A,k1r (by rw[q6t];exact A)];rfl
   show Calls _ _ _ _ _;rw[B];exact h
  ·exact j3p hs hok hex (.inl ho) ihk
  ·exact j3p hs hok hex (.inr ho) ihk
abbrev Eig(W:World)(xt:ByteArray)(w:World):Prop:=Six W w/\w.cell? ⟨W,1,none⟩=some (.string xt)
theorem q1d.eig{W:World}{o n:Int}{t:ByteArray}{w:World}(h:q1d W ⟨o,t,n⟩ w):Eig W t w:=⟨h.six,h.n.2.2.1⟩
theorem v9x{ds:List Td}{a:Option Addr}{cap:Nat}{xt:ByteArray}(hl:ds.length<=40)(hi:0<ds.length)(Ac:xt.size<=8)(W:World)(hN:Tds W a ds)(he:ds[0]=⟨7,xt,0⟩)(xs:List Nd)(Ab:xs.length<=900)
  (hD:∀W':World,Below W W W'->Calls prog 26 #[.slice a ds.length cap,.int .i64 1] W' fun e w'=>NdR W' xs e w'):
  Calls prog 26 #[.slice a ds.length cap,.int .i64 0] W fun e w'=>NdR W (⟨8,⟨#[]⟩,0⟩::(⟨6,⟨#[]⟩,0⟩::([⟨1,(⟨#[108,101,116,32]⟩:ByteArray)++xt++(⟨#[32,61]⟩:ByteArray),0⟩]++(⟨7,⟨#[]⟩,2⟩::(⟨6,⟨#[]⟩,0⟩::([⟨2,⟨#[]⟩,0⟩]++(⟨6,⟨#[]⟩,0⟩::(xs++[⟨1,⟨#[59]⟩,0⟩])))))))) e w':=by
 obtain⟨b,o,rfl,hb,u,v,w⟩:=hN 0 hi;have Aa:(0:Int)<(ds.length:Int):=by omega
 rw[he]at u v w;simp only[Nat.zero_mul,Nat.add_zero]at u v w;have E:Hid (q1d W ⟨7,xt,0⟩ (dcW W 7 xt 0)):=k0o W ⟨7,xt,0⟩;have HD:Hid (∀W':World,Below W W W'->Calls prog 26 #[.slice (some ⟨b,o,none⟩) ds.length cap,.int .i64 1] W' fun e w'=>NdR W' xs e w'):=hD;have g1:¬9223372036854775807<4+xt.size:=by omega
 have g2:¬9223372036854775807<4+xt.size+2:=by omega
 clear hN he hD;go_in;go_wp2_with fail;refine(HD.o _ E.o.b).mono ?_;rintro e w1 h1;obtain⟨v1,rfl,n1,b1⟩:=h1.val;have G:Hid (q1d W ⟨7,xt,0⟩ w1):=E.o.W b1;have L:Hid (NdV w1 v1 xs):=n1;clear h1 n1 b1 E;go_wp2_with fail;refine(q1q _ _).mono ?_;rintro e z h2;obtain⟨v2,rfl,n2,q⟩:=h2.val;have H:Hid (q1d W ⟨7,xt,0⟩ z):=G.o.W q;have M:Hid (NdV z v1 xs):=L.o.W q;have K:Hid (NdV z v2 [⟨1,⟨#[59]⟩,0⟩]):=n2;clear h2 n2 q G L;go_wp2_with fail;refine(q0z _ M.o K.o (by simp<;>omega)).mono ?_;rintro e A h3;obtain⟨v3,rfl,n3,b3⟩:=h3.val;have B:Hid (q1d W ⟨7,xt,0⟩ A):=H.o.W b3;have f:Hid (NdV A v3 (⟨6,⟨#[]⟩,0⟩::(xs++[⟨1,⟨#[59]⟩,0⟩]))):=n3;have i:Hid (Eig W xt A):=B.o.eig;have p:Hid (Eig W xt A.drew):=B.o.eig;have S:Hid (Below A A A.drew):= Zb.drew;clear h3 n3 b3 H M K HD u v w;go_wp2_with fail
 go_region_held3 (fun w'=>Eig W xt w') (first|with_reducible exact p.o|with_reducible exact i.o|with_reducible exact j.o|with_reducible exact k.o|with_reducible exact l.o|with_reducible exact m.o|with_reducible exact n.o)
  (first
     | (go_at_call 60;refine((q3i ⟨8,⟨#[]⟩,0⟩ (Q) V.o (by simp<;>omega))).mono ?_;rintro e w8 x;have Y:Hid (NdR W (⟨8,⟨#[]⟩,0⟩::(⟨6,⟨#[]⟩,0⟩::([⟨1,(⟨#[108,101,116,32]⟩:ByteArray)++xt++(⟨#[32,61]⟩:ByteArray),0⟩]++(⟨7,⟨#[]⟩,2⟩::(⟨6,⟨#[]⟩,0⟩::([⟨2,⟨#[]⟩,0⟩]++(⟨6,⟨#[]⟩,0⟩::(xs++[⟨1,⟨#[59]⟩,0⟩])))))))) e w8):=x.from D.o.b;obtain⟨v8,rfl,n8,b8⟩:=x.val;have X:Hid (q1d W ⟨7,xt,0⟩ w8):=D.o.W b8;have n:Hid (Eig W xt w8):=X.o.eig;clear x n8 b8)
     | (go_at_call 61;refine((q0z (P) d.o U.o (by simp<;>omega))).mono ?_;rintro e Q h7;obtain⟨v7,rfl,n7,b7⟩:=h7.val;have D:Hid (q1d W ⟨7,xt,0⟩ Q):=J.o.W b7;have m:Hid (Eig W xt Q):=D.o.eig;have V:Hid (NdV Q v7 (⟨6,⟨#[]⟩,0⟩::([⟨1,(⟨#[108,101,116,32]⟩:ByteArray)++xt++(⟨#[32,61]⟩:ByteArray),0⟩]++(⟨7,⟨#[]⟩,2⟩::(⟨6,⟨#[]⟩,0⟩::([⟨2,⟨#[]⟩,0⟩]++(⟨6,⟨#[]⟩,0⟩::(xs++[⟨1,⟨#[59]⟩,0⟩])))))))):=n7;clear h7 n7 b7)
     | (go_at_call 60;refine((q3i ⟨7,⟨#[]⟩,2⟩ (O) R.o (by simp<;>omega))).mono ?_;rintro e P h6;obtain⟨v6,rfl,n6,t⟩:=h6.val;have J:Hid (q1d W ⟨7,xt,0⟩ P):=I.o.W t;have l:Hid (Eig W xt P):=J.o.eig;have d:Hid (NdV P y ([⟨1,(⟨#[108,101,116,32]⟩:ByteArray)++xt++(⟨#[32,61]⟩:ByteArray),0⟩])):=c.o.W t;have U:Hid (NdV P v6 (⟨7,⟨#[]⟩,2⟩::(⟨6,⟨#[]⟩,0⟩::([⟨2,⟨#[]⟩,0⟩]++(⟨6,⟨#[]⟩,0⟩::(xs++[⟨1,⟨#[59]⟩,0⟩])))))):=n6;clear h6 n6 t)
     | (go_at_call 61;refine((q0z (N) C.o.bl g.o (by simp<;>omega))).mono ?_;rintro e O h5;obtain⟨v5,rfl,n5,s⟩:=h5.val;have I:Hid (q1d W ⟨7,xt,0⟩ O):=C.o.W s;have k:Hid (Eig W xt O):=I.o.eig;have c:Hid (NdV O y ([⟨1,(⟨#[108,101,116,32]⟩:ByteArray)++xt++(⟨#[32,61]⟩:ByteArray),0⟩])):=Z.o.W s;have R:Hid (NdV O v5 (⟨6,⟨#[]⟩,0⟩::([⟨2,⟨#[]⟩,0⟩]++(⟨6,⟨#[]⟩,0⟩::(xs++[⟨1,⟨#[59]⟩,0⟩]))))):=n5;clear h5 n5 s)
     | (go_at_call 57;refine((q1q _ (A.drew)).mono fun _ _ h=>h.from S.o).mono ?_;rintro e N h4;obtain⟨y,rfl,n4,r⟩:=h4.val;have C:Hid (q1d W ⟨7,xt,0⟩ N):=B.o.W r;have j:Hid (Eig W xt N):=C.o.eig;have g:Hid (NdV N v3 (⟨6,⟨#[]⟩,0⟩::(xs++[⟨1,⟨#[59]⟩,0⟩]))):=f.o.W r;have Z:Hid (NdV N y ([⟨1,(⟨#[108,101,116,32]⟩:ByteArray)++xt++(⟨#[32,61]⟩:ByteArray),0⟩])):=n4;clear h4 n4 r))
 all_goals
  go_wp2;go_ret;exact Y.o
theorem y3p{ds:List Td}{a:Option Addr}{cap:Nat}(hl:ds.length<=40)(hi:0<ds.length)(W:World)(hN:Tds W a ds)(he:ds[0]=⟨8,⟨#[]⟩,0⟩)(xs:List Nd)(Z:xs.length<=900)
  (hD:∀W':World,Below W W W'->Calls prog 26 #[.slice a ds.length cap,.int .i64 1] W' fun e w'=>NdR W' xs e w'):
  Calls prog 26 #[.slice a ds.length cap,.int .i64 0] W fun e w'=>NdR W (⟨6,⟨#[]⟩,0⟩::(xs++[⟨1,⟨#[59]⟩,0⟩])) e w':=by
 obtain⟨b,o,rfl,f,M,N,O⟩:=hN 0 hi;have Y:(0:Int)<(ds.length:Int):=by omega
 rw[he]at M N O;simp only[Nat.zero_mul,Nat.add_zero]at M N O;have A:Hid (q1d W ⟨8,⟨#[]⟩,0⟩ (dcW W 8 ⟨#[]⟩ 0)):=k0o W ⟨8,⟨#[]⟩,0⟩;have X:Hid (∀W':World,Below W W W'->Calls prog 26 #[.slice (some ⟨b,o,none⟩) ds.length cap,.int .i64 1] W' fun e w'=>NdR W' xs e w'):=hD;clear hN he hD;go_in;go_wp2_with fail;refine(X.o _ A.o.b).mono ?_;rintro e V P;obtain⟨U,rfl,R,L⟩:=P.val;have B:Hid (q1d W ⟨8,⟨#[]⟩,0⟩ V):=A.o.W L;have C:Hid (NdV V U xs):=R;clear P R L A;go_wp2_with fail;refine(q1q _ _).mono ?_;rintro e K Q;obtain⟨c,rfl,S,I⟩:=Q.val;have D:Hid (q1d W ⟨8,⟨#[]⟩,0⟩ K):=B.o.W I;have H:Hid (NdV K U xs):=C.o.W I;have G:Hid (NdV K c [⟨1,⟨#[59]⟩,0⟩]):=S;clear Q S I B C;go_wp2_with fail;refine(q0z _ H.o G.o (by simp<;>omega)).mono ?_;rintro e d J;have E:Hid (NdR W (⟨6,⟨#[]⟩,0⟩::(xs++[⟨1,⟨#[59]⟩,0⟩])) e d):=J.from D.o.b;obtain⟨g,rfl,_,_⟩:=J.val;clear J;go_wp2;go_ret;exact E.o
theorem y5g{t:List Td}{a:Option Addr}{cap:Nat}(h:q0b t=0)(h9:opT t≠9)(W:World)(hN:Tds W a t):Calls prog 26 #[.slice a t.length cap,.int .i64 0] W fun e w'=>NdR W (q0q t).N e w':=by
 obtain⟨K,V,_,_⟩:=q4y h;have R:v8w t:=⟨K,V⟩;obtain⟨x,y,k,rfl,H,L,Y,Z⟩:=z9k h h9;have B:0<(x::(Fo.cons y k .nil).N).length:=by simp
 have E:=k3l (a:=a) (cap:=cap) R (.cons y k .nil) H L;have Q:(x::(Fo.cons y k .nil).N).drop 1=(Fo.cons y k .nil).N++[]:=by simp
 have P:∀W':World,Below W W W'->Calls prog 26 #[.slice a (x::(Fo.cons y k .nil).N).length cap,.int .i64 1] W' fun e w'=>NdR W' (q0l y k.D).N e w':=fun W' hb=>E.1 1 [] Q W' (hN.W hb)
 have G:(q0l y k.D).N.length<=900:=by
  have O:=z3c R Q;rw[Fo.D,q2l]at O;simp only at O;omega
 have S:q0q (x::(Fo.cons y k .nil).N)=stD x (q0l y k.D):=z9i H Y;rw[S];rcases Z with⟨C,M,A⟩|⟨C,I,A⟩
 ·have X:x.tx.size<=8:=by rw[<-q0c];exact q5q M
  have J:=v9x (cap:=cap) K B X W hN (by obtain⟨f,g,d⟩:=x;simp only at C A;subst C A;rfl) _ G P
  have U:(⟨#[108,101,116,32]⟩:ByteArray)++x.tx++(⟨#[32,61]⟩:ByteArray)=wbS ([108,101,116,32]++btL x.tx++[32,61]):=by
   have b:wbS [108,101,116,32]++wbS (btL x.tx)=wbS ([108,101,116,32]++btL x.tx):=q1z _ _;have c:wbS ([108,101,116,32]++btL x.tx)++wbS [32,61]=wbS ([108,101,116,32]++btL x.tx++[32,61]):=q1z _ _;rw[<-c,<-b];rfl
  rw[U]at J;rw[stD,if_pos C];exact J
 ·have J:=y3p (cap:=cap) K B W hN (by obtain⟨f,g,d⟩:=x;simp only at C A I;subst C A I;rfl) _ G P;rw[stD,if_neg (by omega)];exact J
end Go.Proofs.YtfdppahhbpfnoaaGreatDoor
