import Derived.Test.YtfdppahhbpfnoaaGreatDoorPb31
import Derived.Test.YtfdppahhbpfnoaaGreatDoorPb32
import Derived.Test.YtfdppahhbpfnoaaGreatDoorPb30
open Go.Proofs.Tryz
namespace Go.Proofs.YtfdppahhbpfnoaaGreatDoor
open Go Go.RowKit
set_option maxRecDepth 100000
set_option maxHeartbeats 4000000
theorem q9p{R:List Pl}{L M i nx dp wd c:Nat}{ks:List (Nat × Tr)}{t:Tr}(sb g mb:Nat)(Am:Sp R L M i t nx dp ks)(Av:((q2 (q1e R i)).lg==-1)=false)(Ar:z1m (q2 (q1e R i)).op=true)(Ai:z5j sb g mb wd R i c 0)(Aj:z5j sb g mb wd R i c 1)(Ak:(tkC R wd i c 0).o<=1000000/\(tkC R wd i c 0).l<=1000000)(Al:(tkC R wd i c 1).o<=1000000/\(tkC R wd i c 1).l<=1000000)(k:Nat)(hk:k=0/\decide (q3f ((tkC R wd i c 1).o,(tkC R wd i c 1).l) ((tkC R wd i c 0).o,(tkC R wd i c 0).l))=false\/k=1/\decide (q3f ((tkC R wd i c 1).o,(tkC R wd i c 1).l) ((tkC R wd i c 0).o,(tkC R wd i c 0).l))=true)(w:World)(S:Nat->Nat->Bool)(h:Inv sb g mb wd R w S):
  Calls prog 163 #[.pointer (some ⟨sb,0,none⟩),.agg #[.int .i64 i,.int .i64 c]] w fun e w'=>e=.returned (cvV (tkC R wd i c k))/\Left sb g mb wd R S (i+1) (tkC R wd i c k).np (tkC R wd i c k).nc w w':=by
 have H:Hid (Inv sb g mb wd R w S):=h;have P:=h.lt;have hi:i<R.length:=Am.lt;have Au:(i:Int)<(R.length:Int):=by omega
 have Aw:(0:Int)<=(i:Int):=by omega
 have HQ:Hid (∀W,q4i W sb g wd R->z3f W g i (q2 (q1e R i))):=fun W hW=>hW.pr.get i hi
 have Ap:Hid (z5j sb g mb wd R i c 0):=Ai;have Aq:Hid (z5j sb g mb wd R i c 1):=Aj;clear Ai Aj;rw[cvV];clear h Am;generalize q2 (q1e R i)=q at *;go_in;go_wp2_with fail;have z:Sk1 sb g mb wd i c R S w ((w.alloc (.cells #[.int .i64 i,.int .i64 c] 172)).alloc (.cells #[.int .i64 0,.int .i64 0,.int .i64 0,.int .i64 0,.int .i64 0] 174)):=z6u (nq:=0) H.o
 generalize(w.alloc (.cells #[.int .i64 i,.int .i64 c] 172)).alloc (.cells #[.int .i64 0,.int .i64 0,.int .i64 0,.int .i64 0,.int .i64 0] 174)=w1 at *
 have m:Hid (Sk1 sb g mb wd i c R S w w1):=z;have As:=z.sz
 have y:∀W:World,W=w1.drew\/(∃O,W=(w1.alloc O).drew)->W.cell? ⟨sb,0,none⟩=some (.slice (some ⟨g,0,none⟩) R.length R.length)/\W.cell? ⟨w,0,none⟩=some (.int .i64 i)/\W.cell? ⟨g,i*7,none⟩=some (.int .i64 q.op)/\W.cell? ⟨g,i*7+1,none⟩=some (.string q.tx)/\W.cell? ⟨g,i*7+2,none⟩=some (.int .i64 q.n)/\W.cell? ⟨g,i*7+3,none⟩=some (.int .i64 q.en)/\W.cell? ⟨g,i*7+4,none⟩=some (.int .i64 q.nx)/\W.cell? ⟨g,i*7+5,none⟩=some (.int .i64 q.dp)/\W.cell? ⟨g,i*7+6,none⟩=some (.int .i64 q.lg):=by
  intro W hW
  have x:q4i W sb g wd R/\W.cell? ⟨w,0,none⟩=some (.int .i64 i):=by
   rcases hW with rfl|⟨O,rfl⟩
   ·exact⟨m.o.inv.pl.kept rfl rfl,m.o.a0⟩
   ·exact⟨(m.o.inv.pl.alloc O).kept rfl rfl,ka m.o.a0 O⟩
  obtain⟨d0,d1,d2,d3,d4,d5,d6⟩:=HQ.o W x.1;exact⟨x.1.c0,x.2,d0,d1,d2,d3,d4,d5,d6⟩
 have Ag:=y w1.drew (.inl rfl);have Ah:=fun O=>y (w1.alloc O).drew (.inr ⟨O,rfl⟩)
 have j:Hid (ChB w (w1.alloc (q5e q)).drew i c q):=j3o m.o q;have An:Hid (Inv sb g mb wd R (w1.alloc (q5e q)).drew S):=(m.o.inv.alloc _).kept fun _ _=>rfl
 have Aa:Hid (q0p w mb w (w1.alloc (q5e q)).drew):=(q0p.of (m.o.bw.alloc m.o.bw.size _)).drew;clear z y
 go_region_held3 (fun w'=>w'.cell? ⟨sb,0,none⟩=some (.slice (some ⟨g,0,none⟩) R.length R.length)/\w'.cell? ⟨w,0,none⟩=some (.int .i64 i)/\w'.cell? ⟨g,i*7,none⟩=some (.int .i64 q.op)/\w'.cell? ⟨g,i*7+1,none⟩=some (.string q.tx)/\w'.cell? ⟨g,i*7+2,none⟩=some (.int .i64 q.n)/\w'.cell? ⟨g,i*7+3,none⟩=some (.int .i64 q.en)/\w'.cell? ⟨g,i*7+4,none⟩=some (.int .i64 q.nx)/\w'.cell? ⟨g,i*7+5,none⟩=some (.int .i64 q.dp)/\w'.cell? ⟨g,i*7+6,none⟩=some (.int .i64 q.lg))
  (first|with_reducible exact Ag|with_reducible exact Ah _) (fail)
 all_goals
  generalize(w1.alloc (.cells #[.int .i64 q.op,.string q.tx,.int .i64 q.n,.int .i64 q.en,.int .i64 q.nx,.int .i64 q.dp,.int .i64 q.lg] 222)).drew=w2 at *
  have a0:=j.o.a0;have a1:=j.o.a1;have q6:=j.o.q6;clear Ag Ah As;go_wp2_with fail;refine(Ap.o w2 S An.o).mono ?_;rintro e B⟨rfl,D,r,hI,Y,X,V⟩;rw[cvV];have I:=j.o.kept D P.2.2;have f:Hid (q0p w mb w B):=Aa.o.trans (D.mono Aa.o.size);have HR:Hid (Inv sb g mb wd R B r/\(∀a b,S a b=true->r a b=true)/\(∀a b,r a b=true->S a b=true\/i+1<=a)/\((tkC R wd i c 0).np<R.length->r (tkC R wd i c 0).np (tkC R wd i c 0).nc=true)):=⟨hI,Y,X,V⟩;have u0:=fun O=>ka I.q0 O
  have u1:=fun O=>ka I.q1 O
  have u2:=fun O=>ka I.q2 O
  have u3:=fun O=>ka I.q3 O
  have u4:=fun O=>ka I.q4 O
  have u5:=fun O=>ka I.q5 O
  have u6:=fun O=>ka I.q6 O
  have Ad:Hid (ChB w B i c q):=I;clear D hI Y X V I a0 a1 q6;go_wp2_with fail;refine(q9m q.op q.tx q.n q.en q.nx q.dp q.lg _).mono ?_;rintro e d⟨rfl,E⟩;rw[Ar];have Q:B.heap.size<d.heap.size:=by have:=E.size;simp at this;omega
  have U:Hid (ChB w d i c q):=(Ad.o.kept (mb:=mb) (q0p.of ((Below.refl _ B).alloc Zl _)) P.2.2).kept (q0p.of E) P.2.2;have Ao:Hid (Inv sb g mb wd R d r):=(HR.o.1.alloc _).W E;have Ab:Hid (q0p w mb w d):=(f.o.alloc (by have:=f.o.size;omega) _).trans (q0p.of (E.mono (by have:=f.o.size;simp;omega)));have s0:d.cell? ⟨B,0,none⟩=some (.int .i64 (tkC R wd i c 0).o):=(E.cell (p:=⟨B,0,none⟩) (by simp)).trans (by simp[go_sem]);have s1:d.cell? ⟨B,1,none⟩=some (.int .i64 (tkC R wd i c 0).l):=(E.cell (p:=⟨B,1,none⟩) (by simp)).trans (by simp[go_sem]);have s2:d.cell? ⟨B,2,none⟩=some (.int .i64 (tkC R wd i c 0).ch):=(E.cell (p:=⟨B,2,none⟩) (by simp)).trans (by simp[go_sem]);have s3:d.cell? ⟨B,3,none⟩=some (.int .i64 (tkC R wd i c 0).np):=(E.cell (p:=⟨B,3,none⟩) (by simp)).trans (by simp[go_sem]);have s4:d.cell? ⟨B,4,none⟩=some (.int .i64 (tkC R wd i c 0).nc):=(E.cell (p:=⟨B,4,none⟩) (by simp)).trans (by simp[go_sem]);have a0:=U.o.a0;have a1:=U.o.a1;clear u0 u1 u2 u3 u4 u5 u6 E;go_wp2_with fail;refine(Aq.o d r Ao.o).mono ?_;rintro e G⟨rfl,D,u,hI,Y,X,V⟩;rw[cvV];have Ae:Hid (ChB w G i c q):=U.o.kept D P.2.2;have s:Hid (q0p w mb w G):=Ab.o.trans (D.mono Ab.o.size);have Z:B.heap.size≠mb:=by have:=f.o.size;omega
  have z0:G.cell? ⟨B,0,none⟩=some (.int .i64 (tkC R wd i c 0).o):=(D.cell (p:=⟨B,0,none⟩) Q Z).trans s0;have z1:G.cell? ⟨B,1,none⟩=some (.int .i64 (tkC R wd i c 0).l):=(D.cell (p:=⟨B,1,none⟩) Q Z).trans s1;have z2:G.cell? ⟨B,2,none⟩=some (.int .i64 (tkC R wd i c 0).ch):=(D.cell (p:=⟨B,2,none⟩) Q Z).trans s2;have z3:G.cell? ⟨B,3,none⟩=some (.int .i64 (tkC R wd i c 0).np):=(D.cell (p:=⟨B,3,none⟩) Q Z).trans s3;have z4:G.cell? ⟨B,4,none⟩=some (.int .i64 (tkC R wd i c 0).nc):=(D.cell (p:=⟨B,4,none⟩) Q Z).trans s4;have v0:=fun O=>ka z0 O
  have v1:=fun O=>ka z1 O
  have K:Hid (Inv sb g mb wd R G u/\(∀a b,r a b=true->u a b=true)/\(∀a b,u a b=true->r a b=true\/i+1<=a)/\((tkC R wd i c 1).np<R.length->u (tkC R wd i c 1).np (tkC R wd i c 1).nc=true)):=⟨hI,Y,X,V⟩;have At:B.heap.size<G.heap.size:=Nat.lt_of_lt_of_le Q D.size;clear D hI Y X V a0 a1;go_wp2_with fail;refine(j3a (tkC R wd i c 1).o (tkC R wd i c 1).l (tkC R wd i c 0).o (tkC R wd i c 0).l Al.1 Al.2 Ak.1 Ak.2 _).mono ?_;rintro e J⟨rfl,C⟩;have A:=(Ae.o.kept (mb:=mb) (q0p.of ((Below.refl _ G).alloc Zl _)) P.2.2).kept (q0p.of C) P.2.2;have Af:Hid (Inv sb g mb wd R J u):=(K.o.1.alloc _).W C;have Ac:Hid (q0p w mb w J):=(s.o.alloc (by have:=s.o.size;omega) _).trans (q0p.of (C.mono (by have:=s.o.size;simp;omega)));have r0:=A.r0;have r1:=A.r1;have r2:=A.r2;have r3:=A.r3;have r4:=A.r4;have y0:J.frozen? ⟨w.heap.size+1,0,none⟩=false:=A.fr.frozen;have y1:J.frozen? ⟨w.heap.size+1,1,none⟩=false:=A.fr.frozen;have y2:J.frozen? ⟨w.heap.size+1,2,none⟩=false:=A.fr.frozen;have y3:J.frozen? ⟨w.heap.size+1,3,none⟩=false:=A.fr.frozen;have y4:J.frozen? ⟨w.heap.size+1,4,none⟩=false:=A.fr.frozen;rcases hk with⟨rfl,N⟩|⟨rfl,N⟩
  ·rw[N];have x0:J.cell? ⟨B,0,none⟩=some (.int .i64 (tkC R wd i c 0).o):=(C.cell (p:=⟨B,0,none⟩) (by simp;omega)).trans (ka z0 _);have x1:J.cell? ⟨B,1,none⟩=some (.int .i64 (tkC R wd i c 0).l):=(C.cell (p:=⟨B,1,none⟩) (by simp;omega)).trans (ka z1 _);have x2:J.cell? ⟨B,2,none⟩=some (.int .i64 (tkC R wd i c 0).ch):=(C.cell (p:=⟨B,2,none⟩) (by simp;omega)).trans (ka z2 _);have x3:J.cell? ⟨B,3,none⟩=some (.int .i64 (tkC R wd i c 0).np):=(C.cell (p:=⟨B,3,none⟩) (by simp;omega)).trans (ka z3 _);have x4:J.cell? ⟨B,4,none⟩=some (.int .i64 (tkC R wd i c 0).nc):=(C.cell (p:=⟨B,4,none⟩) (by simp;omega)).trans (ka z4 _);clear z0 z1 z2 z3 z4 s0 s1 s2 s3 s4 v0 v1 C A;go_wp2;refine bodyPost_ret (v:=.agg #[.int .i64 (tkC R wd i c 0).o,.int .i64 (tkC R wd i c 0).l,.int .i64 (tkC R wd i c 0).ch,.int .i64 (tkC R wd i c 0).np,.int .i64 (tkC R wd i c 0).nc]) (by simp[results,Tryz.results163,go_sem,r0,r1,r2,r3,r4]) rfl ⟨rfl,k4e Ac.o (by omega) _ _ _ _ _,u,Af.o.set5 (by omega) (by omega) (by omega) _ _ _ _ _,fun a b hab=>K.o.2.1 a b (HR.o.2.1 a b hab),fun a b hab=>?_,fun h=>K.o.2.1 _ _ (HR.o.2.2.2 h)⟩;rcases K.o.2.2.1 a b hab with h|h
   ·exact HR.o.2.2.1 a b h
   ·exact .inr h
  ·rw[N];have x0:J.cell? ⟨G,0,none⟩=some (.int .i64 (tkC R wd i c 1).o):=(C.cell (p:=⟨G,0,none⟩) (by simp)).trans (by simp[go_sem]);have x1:J.cell? ⟨G,1,none⟩=some (.int .i64 (tkC R wd i c 1).l):=(C.cell (p:=⟨G,1,none⟩) (by simp)).trans (by simp[go_sem]);have x2:J.cell? ⟨G,2,none⟩=some (.int .i64 (tkC R wd i c 1).ch):=(C.cell (p:=⟨G,2,none⟩) (by simp)).trans (by simp[go_sem]);have x3:J.cell? ⟨G,3,none⟩=some (.int .i64 (tkC R wd i c 1).np):=(C.cell (p:=⟨G,3,none⟩) (by simp)).trans (by simp[go_sem]);have x4:J.cell? ⟨G,4,none⟩=some (.int .i64 (tkC R wd i c 1).nc):=(C.cell (p:=⟨G,4,none⟩) (by simp)).trans (by simp[go_sem]);clear z0 z1 z2 z3 z4 s0 s1 s2 s3 s4 v0 v1 C A;go_wp2;refine bodyPost_ret (v:=.agg #[.int .i64 (tkC R wd i c 1).o,.int .i64 (tkC R wd i c 1).l,.int .i64 (tkC R wd i c 1).ch,.int .i64 (tkC R wd i c 1).np,.int .i64 (tkC R wd i c 1).nc]) (by simp[results,Tryz.results163,go_sem,r0,r1,r2,r3,r4]) rfl ⟨rfl,k4e Ac.o (by omega) _ _ _ _ _,u,Af.o.set5 (by omega) (by omega) (by omega) _ _ _ _ _,fun a b hab=>K.o.2.1 a b (HR.o.2.1 a b hab),fun a b hab=>?_,fun h=>K.o.2.2.2 h⟩;rcases K.o.2.2.1 a b hab with h|h
   ·exact HR.o.2.2.1 a b h
   ·exact .inr h
theorem Calls.valued{P:Program}{fn:Nat}{args:Array Value}{w:World}{Q:Value->World->Prop}{R:Ending->World->Prop}(h:Calls P fn args w fun e w'=>∃v,e=.returned v/\Q v w')(hR:∀v w',Q v w'->R (.returned v) w'):Calls P fn args w R:=
 h.mono fun _ _⟨v,he,hq⟩=>by rw[he];exact hR v _ hq
theorem z5b{B b:Nat}{pl:List Value}{A:Except Int (List UInt8 × List Int)}{l:List UInt8}{e:Ending}{w':World}(h:k0o B b pl A l e w'):∃v,e=.returned v/\k0o B b pl A l (.returned v) w':=by
 cases A with
 | error er=>obtain⟨C,rfl⟩:=h;exact⟨_,rfl,C,rfl⟩
 | ok p=>obtain⟨rfl,C⟩:=h;exact⟨_,rfl,rfl,C⟩
theorem v0p(B b s be bf:Nat)(hb:s<B/\be<B/\bf<B)(hB:B<=b)(ds:List Nd)(a:Option Addr)(cap:Nat)(hl:ds.length<=400)(P:ds.length<=cap)(tx:ByteArray)(n:Int)(t:Tr)(ht:Tr.Wf (.one ⟨8,tx,n⟩ t))(f:Nat->List Int->Except Int (List UInt8 × List Int))(hA:q3a B b s be bf ds a cap t.N f):
  k4b 92 B b s be bf ds a cap (⟨8,tx,n⟩::t.N) (q9y f t.line t.isFlat):=by
 intro i r C G wa wc l w Y u y U I E M m;have R:ds.drop i=(Tr.one ⟨8,tx,n⟩ t).N++r:=Y;obtain⟨hi,e1,e2⟩:=q1k (x:=⟨8,tx,n⟩) (A:=t.N++r) Y;obtain⟨o0,ea,Z,d2,d3⟩:=u.nd i hi;subst ea;rw[e1]at Z;have Ac:=E.lt;have Ab:B<=w.heap.size:=by omega
 have H:∀v,Below B w (w.setCell ⟨b,5,none⟩ v):=fun v=> Zb.setCell (p:=⟨b,5,none⟩) hB _
 simp only[List.length_cons]at M m;cases G with
 | nil=>
  refine(k9n i C w E.c5).mono ?_;rintro e J⟨rfl,rfl⟩;exact⟨⟨by decide,rfl⟩,Below.refl _ _⟩
 | cons c G=>
  obtain⟨q,o1,g,Aa,o⟩:=y 0 (by simp);subst g;have z:=y.slid (by simpa using I);simp only[Nat.add_zero,List.getElem_cons_zero]at o;simp only[List.length_cons]at E I;have V:q2g G:=fun d Y=>U d (by simp[Y])
  have S:G.length<=wc-1:=by omega
  generalize X:(if wc=1 then some (⟨q,o1,none⟩:Addr)else some ⟨q,o1+1,none⟩)=wa' at z;have K:=u.W hb (H (.slice wa' G.length (wc-1)));have O:=z.W (H (.slice wa' G.length (wc-1)));have L:=E.stored (.slice wa' G.length (wc-1));rcases U c (by simp)with k|k
  ·subst k;refine Calls.valued (Q:=fun v J=>k0o B b (q6i be bf ds.length cap (some ⟨s,o0,none⟩)) (q9y f t.line t.isFlat C (0::G)) l (.returned v) J/\Below B w J) ?_ (fun v J h=>h);refine y8e (be:=be) i C G.length w (by omega) (by omega) (by omega) hl (by omega) E.c0 Z E.c1 E.c5 E.f5 I o _ ?_;rw[X];cases hf:t.isFlat with
   | false=>
    refine(v6o B b s be bf ds _ cap i (.one ⟨8,tx,n⟩ t) r l _ _ ht R K L hf).mono ?_;rintro e w2⟨rfl,D⟩;refine⟨_,rfl,⟨?_,rfl⟩,(H _).trans D⟩;decide
   | true=>
    refine(v0x B b s be bf hb hB ds _ cap P hl i (.one ⟨8,tx,n⟩ t) r l _ _ ht R K L hf (by omega)).mono ?_;rintro e w2⟨rfl,j,D⟩;exact⟨_,rfl,⟨rfl,wa',wc-1,j,O.W D,S⟩,(H _).trans D⟩
  ·subst k;refine Calls.valued (Q:=fun v J=>k0o B b (q6i be bf ds.length cap (some ⟨s,o0,none⟩)) (q9y f t.line t.isFlat C (1::G)) l (.returned v) J/\Below B w J) ?_ (fun v J h=>h);refine y8f (be:=be) i C G.length w (by omega) (by omega) (by omega) hl (by omega) E.c0 Z E.c1 E.c5 E.f5 I o _ ?_;rw[X];refine(hA (i+1) r C G wa' (wc-1) l _ e2 K O V S L (by omega) (by omega)).mono ?_;rintro e w2⟨j,D⟩;obtain⟨v,rfl,h3⟩:=z5b j;exact⟨v,rfl,h3,(H _).trans D⟩
theorem v0q(B b s be bf:Nat)(hb:s<B/\be<B/\bf<B)(hB:B<=b)(ds:List Nd)(a:Option Addr)(cap:Nat)(hl:ds.length<=400)(tx:ByteArray)(n:Int)(t t':Tr)(ht:t.Wf)(f g:Nat->List Int->Except Int (List UInt8 × List Int))(hA:q3a B b s be bf ds a cap t.N f)(hG:q3a B b s be bf ds a cap t'.N g):
  k4b 92 B b s be bf ds a cap (⟨9,tx,n⟩::(t.N++t'.N)) (q7j f g):=by
 intro i r C D wa wc l w o k z S H E L q;obtain⟨hi,e1,e0⟩:=q1k (x:=⟨9,tx,n⟩) (A:=t.N++t'.N++r) o;have V:ds.drop (i+1)=t.N++(t'.N++r):=by rw[e0,List.append_assoc]
 have Ac:=q8v V;obtain⟨o0,ea,X,d2,d3⟩:=k.nd i hi;subst ea;rw[e1]at X;have Ad:=E.lt;have Ab:B<=w.heap.size:=by omega
 have G:∀v,Below B w (w.setCell ⟨b,5,none⟩ v):=fun v=> Zb.setCell (p:=⟨b,5,none⟩) hB _
 have k1:=(k.kn (i+1) t _ (Nat.zero_le _) ht V).1;simp only[List.length_cons,List.length_append]at L q;cases D with
 | nil=>
  refine(k9n i C w E.c5).mono ?_;rintro e J⟨rfl,rfl⟩;exact⟨⟨by decide,rfl⟩,Below.refl _ _⟩
 | cons c D=>
  obtain⟨y,o1,Y,Aa,u⟩:=z 0 (by simp);subst Y;have hS:=z.slid (by simpa using H);simp only[Nat.add_zero,List.getElem_cons_zero]at u;simp only[List.length_cons]at E H;have I:q2g D:=fun d o=>S d (by simp[o])
  have R:D.length<=wc-1:=by omega
  generalize U:(if wc=1 then some (⟨y,o1,none⟩:Addr)else some ⟨y,o1+1,none⟩)=wa' at hS;have M:=k.W hb (G (.slice wa' D.length (wc-1)));have O:=hS.W (G (.slice wa' D.length (wc-1)));have P:=E.stored (.slice wa' D.length (wc-1));rcases S c (by simp)with m|m
  ·subst m;refine Calls.valued (Q:=fun v J=>k0o B b (q6i be bf ds.length cap (some ⟨s,o0,none⟩)) (q7j f g C (0::D)) l (.returned v) J/\Below B w J) ?_ (fun v J h=>h);refine y8g (be:=be) i C D.length w (by omega) (by omega) (by omega) hl (by omega) E.c0 X E.c1 E.c5 E.f5 H u _ ?_;rw[U];refine(hA (i+1) _ C D wa' (wc-1) l _ V M O I R P (by omega) (by omega)).mono ?_;rintro e w2⟨Z,K⟩;obtain⟨v,rfl,j⟩:=z5b Z;exact⟨v,rfl,j,(G _).trans K⟩
  ·subst m;refine Calls.valued (Q:=fun v J=>k0o B b (q6i be bf ds.length cap (some ⟨s,o0,none⟩)) (q7j f g C (1::D)) l (.returned v) J/\Below B w J) ?_ (fun v J h=>h);refine y8h (be:=be) i C D.length w (by omega) (by omega) (by omega) hl (by omega) (by omega) (i+1+t.N.length) k1 E.c0 X E.c1 E.c5 E.f5 H u _ ?_;rw[U];refine(hG (i+1+t.N.length) r C D wa' (wc-1) l _ (z8a V) M O I R P (by omega) (by omega)).mono ?_;rintro e w2⟨Z,K⟩;obtain⟨v,rfl,j⟩:=z5b Z;exact⟨v,rfl,j,(G _).trans K⟩
theorem y6k{t:Tr}{A:Nat}{ws:List Int}{u:List UInt8}{v:List Int}(h:q2g ws)(e:t.lay A ws=.ok (u,v)):q2g v:=by
 obtain⟨p,_,rfl⟩:=q4w t A ws v u h e;exact fun c hc=>h c (by simp[hc])
theorem q6u(B b s be bf:Nat)(hb:s<B/\be<B/\bf<B)(hB:B<=b)(ds:List Nd)(a:Option Addr)(cap:Nat)(hl:ds.length<=400)(hcap:ds.length<=cap):∀t:Tr,t.Wf->q3a B b s be bf ds a cap t.N t.lay
 | .leaf ⟨op,tx,n⟩,h=>by
  obtain⟨_,_,_,_,h5,_⟩:=q2a h.1;rcases q5d h.1 h.2 with e|e|e|e|e
  all_goals (simp only at e;subst e)
  ·exact y8k B b s be bf hb hB ds a cap hl tx n (q4d (h5 rfl)).2
  ·exact y8l B b s be bf hb hB ds a cap hl tx n
  ·exact y8m B b s be bf hb hB ds a cap hl tx n
  ·exact y8n B b s be bf hb hB ds a cap hl tx n
  ·exact y8o B b s be bf hb hB ds a cap hl tx n
 | .one ⟨op,tx,n⟩ a',h=>by
  obtain⟨_,_,_,_,_,h6⟩:=q2a h.1;rcases z2f h.2.1 with e|e
  all_goals (simp only at e;subst e)
  ·exact y8q B b s be bf hb hB ds a cap hl tx n (h6 rfl).1 (h6 rfl).2 _ _ (q6u B b s be bf hb hB ds a cap hl hcap a' h.2.2)
  ·rw[j5w (x:=⟨8,tx,n⟩) rfl];exact y8r B b s be bf hb hB ds a cap hl tx n _ _ (v0p B b s be bf hb hB ds a cap hl hcap tx n a' h _ (q6u B b s be bf hb hB ds a cap hl hcap a' h.2.2))
 | .two ⟨op,tx,n⟩ a' c,h=>by
  rcases z0s h.2.1 with e|e
  all_goals (simp only at e;subst e)
  ·rw[y2f (x:=⟨6,tx,n⟩) rfl];exact y8p B b s be bf hb hB ds a cap hl tx n _ _ _ _ (q6u B b s be bf hb hB ds a cap hl hcap a' h.2.2.1) (q6u B b s be bf hb hB ds a cap hl hcap c h.2.2.2) (fun _ _ _ _=>⟨a',h.2.2.1,rfl⟩) (List.length_pos_iff.1 c.pos) (fun deep ws u v he hd=>q6e a' deep ws u v h.2.2.1 he hd) (fun deep ws u v h0 he=>y6k h0 he)
  ·rw[j0u (x:=⟨9,tx,n⟩) rfl];exact y8s B b s be bf hb hB ds a cap hl tx n _ _ _ (v0q B b s be bf hb hB ds a cap hl tx n a' c h.2.2.1 _ _ (q6u B b s be bf hb hB ds a cap hl hcap a' h.2.2.1) (q6u B b s be bf hb hB ds a cap hl hcap c h.2.2.2))
theorem v1d(ds:List Nd)(ws:List Int)(a wa:Option Addr)(cap wc:Nat)(w:World)(hN:q2e w a ds)(h:q2x ds≠0):
  Calls prog 19 #[.slice a ds.length cap,.slice wa ws.length wc] w fun e w'=>e=.returned (.tuple #[.string ⟨#[]⟩,q1m (q2x ds)])/\Below w w w':=by
 have A:Hid (q2e w a ds):=hN;have H:Hid (q2x ds≠0):=h;rw[q0k h];clear hN h;go_in;go_wp2_with fail;refine(q2u ds a cap _ A.o).mono ?_;rintro e C⟨rfl,B⟩;rw[q0k H.o];go_wp2;go_ret2;exact⟨rfl,B⟩
theorem k6u(ds:List Nd)(ws:List Int)(a wa:Option Addr)(cap wc:Nat)(w:World)(hN:q2e w a ds)(hI:q7w w wa ws)(hl:ws.length<=9223372036854775807)(h:q2x ds=0)(h1:¬q2g ws):
  Calls prog 19 #[.slice a ds.length cap,.slice wa ws.length wc] w fun e w'=>e=.returned (.tuple #[.string ⟨#[]⟩,q1m 1])/\Below w w w':=by
 have E:Hid (q2e w a ds):=hN;have D:Hid (q7w w wa ws):=hI;have H:Hid (q2x ds=0):=h;have C:Hid (¬q2g ws):=h1;rw[z5x];clear hN hI h h1;go_in;go_wp2_with fail;refine(q2u ds a cap _ E.o).mono ?_;rintro e G⟨rfl,B⟩;rw[H.o,q0n];have A:Hid (q7w G wa ws):=D.o.W B;go_wp2_with fail;refine(y5f ws wa wc _ A.o hl C.o).mono ?_;rintro e I⟨rfl,rfl⟩;go_wp2;go_ret2;exact⟨rfl,B⟩
theorem v6p(ds:List Nd)(t:Tr)(hd:ds=t.N)(ht:t.Wf)(ws:List Int)(a wa:Option Addr)(cap wc:Nat)(hc:ds.length<=cap)(q:ws.length<=wc)(w:World)(hN:q2e w a ds)(hI:q7w w wa ws)(hl:ws.length<=9223372036854775807)(h:q2x ds=0)(h1:q2g ws):
  Calls prog 19 #[.slice a ds.length cap,.slice wa ws.length wc] w fun e w'=>e=.returned (.tuple #[.string (shS (t.show ws)),q1m (shE (t.show ws))])/\Below w w w':=by
 have HN:Hid (q2e w a ds):=hN;have HI:Hid (q7w w wa ws):=hI;have H:Hid (q2x ds=0):=h;have y:Hid (q2g ws):=h1;have HT:Hid (t.Wf):=ht;have g:Hid (ds=t.N):=hd;obtain⟨h4,_,_⟩:=q5l h;have HS:Hid (t.show ws=match t.lay 0 ws with| .error e=>.error e| .ok (s,[])=>.ok s| .ok (_,_::_)=>.error 2):=v5q h1;have H0:Hid (ds≠[]):=(show ds≠[] by have:=t.pos;rw[<-hd]at this;exact List.length_pos_iff.1 this);clear hN hI h h1 ht hd;go_in;go_wp2_with fail;refine(q2u ds a cap _ HN.o).mono ?_;rintro e d⟨rfl,f⟩;rw[H.o,q0n];have HB:Hid (Below w w d):=f;have Q:Hid (q7w d wa ws):=HI.o.W f;obtain⟨s,o,Z⟩:=(HN.o.W f).s H0.o;have R:Hid (q0z s d a ds):=Z;clear f Z;go_wp2_with fail;refine(y9x ws wa wc _ Q.o hl y.o).mono ?_;rintro e A⟨rfl,rfl⟩;go_wp2_with fail;refine(k6b ds a cap s _ H.o R.o o).mono ?_;rintro e A⟨⟨J,K,rfl,V,X,Y⟩,C⟩;have P:Hid (Below w w A):=q0d HB.o Zl C;have z:Hid (Below d d A):=C;have k:Hid (q0z s A a ds):=R.o.kept (C.block s o);have i:Hid (q7w A wa ws):=Q.o.W C;have j:Hid (q8n A J K ds 0):=Y;have b:s<A.heap.size:=Nat.lt_of_lt_of_le o C.size
 have HL:Hid (∀O,O=Obj.cells #[.slice a ds.length cap,.slice (some ⟨J,0,none⟩) ds.length ds.length,.slice (some ⟨K,0,none⟩) ds.length ds.length,.pointer none,.slice none 0 0,.slice wa ws.length wc] 101->
   Calls prog 52 #[.pointer (some ⟨A,0,none⟩),.int .i64 0,.int .i64 0] (A.alloc O) fun e w'=>k0o A.heap.size A.heap.size (q6i J K ds.length cap a) (t.lay 0 ws) [] e w'/\Below A A w'):=by
  intro O hO;have S:Below A A (A.alloc O):= Zb.alloc Zl _;refine(q6u A.heap.size A.heap.size s J K ⟨b,V,X⟩ Zl ds a cap h4 hc t HT.o 0 [] 0 ws wa wc [] (A.alloc O) (by rw[g.o];simp) ⟨k.o.kept (S.block s b),j.o.kept (S.block J V) (S.block K X)⟩ (q2q.W i.o S) y.o q ?_ (by rw[<-g.o];omega) (by rw[<-g.o];simp;omega)).mono ?_
  ·subst hO;exact IsO.unused 101 A.heap.size A.heap.size _ (q6i J K ds.length cap a) [.slice wa ws.length wc] (heap_alloc_new A _)
  ·rintro e w'⟨h1,h2⟩;exact⟨h1,S.trans h2⟩
 clear Y C;go_wp2_with fail;refine(HL.o _ rfl).mono ?_;rintro e w4⟨G,U⟩;have L:Hid (Below w w w4):=q0d P.o Zl U;clear U;cases B:t.lay 0 ws with
 | error er=>
  rw[B]at G;have E:=HS.o;rw[B]at E;have D:Hid (t.show ws=.error er):=E;obtain⟨M,rfl⟩:=G;have l:Hid (er≠0):=M;rw[q0k M];clear M B E;go_wp2;go_ret2;refine⟨?_,L.o⟩;rw[D.o];show _=Ending.returned (.tuple #[.string ⟨#[]⟩,q1m er]);rw[q0k l.o];rfl
 | ok p=>
  obtain⟨u,r⟩:=p;rw[B]at G;have E:=HS.o;rw[B]at E;obtain⟨rfl,v,x,I,_,_⟩:=G;have m:Hid (WS A.heap.size A.heap.size (q6i J K ds.length cap a) ([]++u) (.slice v r.length x) w4):=I;have g5:=I.c5;cases r with
  | nil=>
   have D:Hid (t.show ws=.ok u):=E;simp only[List.length_nil]at g5;clear B E I;go_wp2_with fail;refine(v4y 101 A.heap.size A.heap.size 3 (q6i J K ds.length cap a) ([]++u) _ _ rfl m.o).mono ?_;rintro e w5⟨rfl,n⟩;go_wp2;go_ret2;refine⟨?_,L.o.trans (n.mono P.o.size)⟩;rw[D.o];rfl
  | cons c r=>
   have D:Hid (t.show ws=.error 2):=E;simp only[List.length_cons]at g5;have g0:(0:Int)<(r.length:Int)+1:=by omega
   clear B E I;go_wp2;go_ret2;refine⟨?_,L.o⟩;rw[D.o];rfl
theorem k3o(ds:List Nd)(ws:List Int)(a wa:Option Addr)(cap wc:Nat)(hc:ds.length<=cap)(B:ws.length<=wc)(hl:ws.length<=9223372036854775807)(w:World)(hN:q2e w a ds)(hI:q7w w wa ws):
  Calls prog 19 #[.slice a ds.length cap,.slice wa ws.length wc] w fun e w'=>e=.returned (.tuple #[.string (shS (q6l ds ws)),q1m (shE (q6l ds ws))])/\Below w w w':=by
 by_cases h:q2x ds=0
 ·obtain⟨C,_,_⟩:=q5l h;rw[z6t (z1g h) (q4e h) C];by_cases A:q2g ws
  ·exact v6p ds _ (q4e h) (z1g h) ws a wa cap wc hc B w hN hI hl h A
  ·have e:(v7m ds h).show ws=.error 1:=by
    unfold Tr.show;rw[if_neg (fun hh=>A (k9r.1 hh))]
   rw[e];exact k6u ds ws a wa cap wc w hN hI hl h A
 ·rw[k3a h];exact v1d ds ws a wa cap wc w hN h
set_option maxHeartbeats 8000000
theorem k4o{ds:List Td}{a:Option Addr}{cap:Nat}(hs:v9z ds):∀F:Fo,F.ok->F.exs->DcA ds a cap F
 | .nil,_,_=>trivial
 | .cons x k n,hok,hex=>by
  have hexk:k.exs:=fun y hy=>hex y (by simp[Fo.N,hy])
  have ihk:=k4o (a:=a) (cap:=cap) hs k hok.2.1 hexk;have ihn:=k4o (a:=a) (cap:=cap) hs n hok.2.2 fun y hy=>hex y (by simp[Fo.N,hy])
  have hx:=hex x (by simp[Fo.N]);refine⟨?_,ihn⟩
  have kids:∀(i:Nat)(r:List Td),ds.drop i=(Fo.cons x k n).N++r->∀W:World,Tds W a ds->∃hp:i<ds.length,ds[i]=x/\(kdD k.D).N.length<=900/\(k.len≠0->∀W':World,Below W W W'->Calls prog 62 #[.slice a ds.length cap,.int .i64 ((i:Int)+1),.int .i64 (k.len:Int)] W' fun e w'=>NdR W' (kdD k.D).N e w'):=fun i r hi W hN=>by
   obtain⟨hp,e1,e2,_,_⟩:=j0o hi hok;refine⟨hp,e1,?_,fun h0 W' hb=>?_⟩
   ·have h1:=z2v hs e2;have h2:=j0z k.D;omega
   ·have h:=z4a (cap:=cap) hs k (i+1) _ e2 hok.2.1 ihk h0 W' (hN.W hb);rw[show((i+1:Nat):Int)=(i:Int)+1 by omega]at h;exact h
  rcases q1l hx with⟨ho,_⟩|⟨ho,_⟩|⟨ho,hnm,h0,h6,hkd⟩|⟨ho,htx,h0,h6,hkd⟩|⟨ho,_⟩|⟨ho,_⟩
  ·exact k7o hs hok hx (.inl ho)
  ·exact k7o hs hok hx (.inr ho)
  ·intro i r hi W hN;obtain⟨hp,e1,hkl,hK⟩:=kids i r hi W hN;have hlen:k.len=x.n.toNat:=hok.1.trans hkd
   have e3:x=⟨3,x.tx,((k.len:Nat):Int)⟩:=by
    obtain⟨H,xt,G⟩:=x;simp only at ho h0 hlen⊢;rw[ho,hlen,Int.toNat_of_nonneg h0]
   have E:x.tx.size<=8:=by rw[<-q0c];exact q1q hnm
   have h:=k7p 0 (.inl ⟨rfl,rfl,rfl,rfl,rfl⟩) (cap:=cap) hs.l hp (N:=k.len) (xt:=x.tx) (by omega) E W hN (by rw[e1];exact e3) (kdD k.D).N hkl hK
   have B:(q0g x k.D).N=if k.len=0 then [⟨1,(x.tx++(⟨#[40]⟩:ByteArray))++(⟨#[41]⟩:ByteArray),0⟩]else⟨8,⟨#[]⟩,0⟩::(⟨6,⟨#[]⟩,0⟩::([⟨1,x.tx++(⟨#[40]⟩:ByteArray),0⟩]++(⟨6,⟨#[]⟩,0⟩::((⟨7,⟨#[]⟩,2⟩::(⟨6,⟨#[]⟩,0⟩::([⟨3,⟨#[]⟩,0⟩]++(kdD k.D).N)))++(⟨6,⟨#[]⟩,0⟩::([⟨3,⟨#[]⟩,0⟩]++[⟨1,(⟨#[41]⟩:ByteArray),0⟩])))))):=by
    rw[show q0g x k.D=q1g (btL x.tx++[40]) [41] k.D by simp[q0g,ho],y4h x.tx 40];by_cases A:k.len=0
    ·have:k.D=[]:=List.eq_nil_of_length_eq_zero (by rw[q3i];exact A)
     rw[if_pos A,this,k2m];have C:wbS (btL x.tx++[40])++(⟨#[41]⟩:ByteArray)=wbS (btL x.tx++[40]++[41]):=q2l _ _;rw[C]
    ·rw[if_neg A,k2l (by rw[q3i];exact A)];rfl
   show Calls _ _ _ _ _;rw[B];exact h
  ·intro i r hi W hN;obtain⟨hp,e1,hkl,hK⟩:=kids i r hi W hN;have hlen:k.len=x.n.toNat:=hok.1.trans hkd
   have e3:x=⟨4,⟨#[]⟩,((k.len:Nat):Int)⟩:=by
    obtain⟨H,xt,G⟩:=x;simp only at ho h0 hlen htx⊢;rw[ho,htx,hlen,Int.toNat_of_nonneg h0]
   have h:=k7p 1 (.inr ⟨rfl,rfl,rfl,rfl,rfl⟩) (cap:=cap) hs.l hp (N:=k.len) (xt:=⟨#[]⟩) (by omega) (by decide) W hN (by rw[e1];exact e3) (kdD k.D).N hkl hK
   have B:(q0g x k.D).N=if k.len=0 then [⟨1,(⟨#[91]⟩:ByteArray)++(⟨#[93]⟩:ByteArray),0⟩]else⟨8,⟨#[]⟩,0⟩::(⟨6,⟨#[]⟩,0⟩::([⟨1,(⟨#[91]⟩:ByteArray),0⟩]++(⟨6,⟨#[]⟩,0⟩::((⟨7,⟨#[]⟩,2⟩::(⟨6,⟨#[]⟩,0⟩::([⟨3,⟨#[]⟩,0⟩]++(kdD k.D).N)))++(⟨6,⟨#[]⟩,0⟩::([⟨3,⟨#[]⟩,0⟩]++[⟨1,(⟨#[93]⟩:ByteArray),0⟩])))))):=by
    rw[show q0g x k.D=q1g [91] [93] k.D by simp[q0g,ho]];by_cases A:k.len=0
    ·have:k.D=[]:=List.eq_nil_of_length_eq_zero (by rw[q3i];exact A)
     rw[if_pos A,this,k2m];rfl
    ·rw[if_neg A,k2l (by rw[q3i];exact A)];rfl
   show Calls _ _ _ _ _;rw[B];exact h
  ·exact j4i hs hok hex (.inl ho) ihk
  ·exact j4i hs hok hex (.inr ho) ihk
abbrev Eig(W:World)(xt:ByteArray)(w:World):Prop:=Six W w/\w.cell? ⟨W,1,none⟩=some (.string xt)
theorem q0w.eig{W:World}{o n:Int}{t:ByteArray}{w:World}(h:q0w W ⟨o,t,n⟩ w):Eig W t w:=⟨h.six,h.n.2.2.1⟩
theorem y1f{ds:List Td}{a:Option Addr}{cap:Nat}{xt:ByteArray}(hl:ds.length<=40)(hi:0<ds.length)(Ac:xt.size<=8)(W:World)(hN:Tds W a ds)(he:ds[0]=⟨7,xt,0⟩)(xs:List Nd)(Ab:xs.length<=900)
  (hD:∀W':World,Below W W W'->Calls prog 26 #[.slice a ds.length cap,.int .i64 1] W' fun e w'=>NdR W' xs e w'):
  Calls prog 26 #[.slice a ds.length cap,.int .i64 0] W fun e w'=>NdR W (⟨8,⟨#[]⟩,0⟩::(⟨6,⟨#[]⟩,0⟩::([⟨1,(⟨#[108,101,116,32]⟩:ByteArray)++xt++(⟨#[32,61]⟩:ByteArray),0⟩]++(⟨7,⟨#[]⟩,2⟩::(⟨6,⟨#[]⟩,0⟩::([⟨2,⟨#[]⟩,0⟩]++(⟨6,⟨#[]⟩,0⟩::(xs++[⟨1,⟨#[59]⟩,0⟩])))))))) e w':=by
 obtain⟨b,o,rfl,hb,u,v,w⟩:=hN 0 hi;have Aa:(0:Int)<(ds.length:Int):=by omega
 rw[he]at u v w;simp only[Nat.zero_mul,Nat.add_zero]at u v w;have E:Hid (q0w W ⟨7,xt,0⟩ (dcW W 7 xt 0)):=k1b W ⟨7,xt,0⟩;have HD:Hid (∀W':World,Below W W W'->Calls prog 26 #[.slice (some ⟨b,o,none⟩) ds.length cap,.int .i64 1] W' fun e w'=>NdR W' xs e w'):=hD;have g1:¬9223372036854775807<4+xt.size:=by omega
 have g2:¬9223372036854775807<4+xt.size+2:=by omega
 clear hN he hD;go_in;go_wp2_with fail;refine(HD.o _ E.o.b).mono ?_;rintro e w1 h1;obtain⟨v1,rfl,n1,b1⟩:=h1.val;have G:Hid (q0w W ⟨7,xt,0⟩ w1):=E.o.W b1;have L:Hid (NdV w1 v1 xs):=n1;clear h1 n1 b1 E;go_wp2_with fail;refine(q1f _ _).mono ?_;rintro e z h2;obtain⟨v2,rfl,n2,q⟩:=h2.val;have H:Hid (q0w W ⟨7,xt,0⟩ z):=G.o.W q;have M:Hid (NdV z v1 xs):=L.o.W q;have K:Hid (NdV z v2 [⟨1,⟨#[59]⟩,0⟩]):=n2;clear h2 n2 q G L;go_wp2_with fail;refine(q0u _ M.o K.o (by simp<;>omega)).mono ?_;rintro e A h3;obtain⟨v3,rfl,n3,b3⟩:=h3.val;have B:Hid (q0w W ⟨7,xt,0⟩ A):=H.o.W b3;have f:Hid (NdV A v3 (⟨6,⟨#[]⟩,0⟩::(xs++[⟨1,⟨#[59]⟩,0⟩]))):=n3;have i:Hid (Eig W xt A):=B.o.eig;have p:Hid (Eig W xt A.drew):=B.o.eig;have S:Hid (Below A A A.drew):= Zb.drew;clear h3 n3 b3 H M K HD u v w;go_wp2_with fail
 go_region_held3 (fun w'=>Eig W xt w') (first|with_reducible exact p.o|with_reducible exact i.o|with_reducible exact j.o|with_reducible exact k.o|with_reducible exact l.o|with_reducible exact m.o|with_reducible exact n.o)
  (first
     | (go_at_call 60;refine((q2w ⟨8,⟨#[]⟩,0⟩ (Q) V.o (by simp<;>omega))).mono ?_;rintro e w8 x;have Y:Hid (NdR W (⟨8,⟨#[]⟩,0⟩::(⟨6,⟨#[]⟩,0⟩::([⟨1,(⟨#[108,101,116,32]⟩:ByteArray)++xt++(⟨#[32,61]⟩:ByteArray),0⟩]++(⟨7,⟨#[]⟩,2⟩::(⟨6,⟨#[]⟩,0⟩::([⟨2,⟨#[]⟩,0⟩]++(⟨6,⟨#[]⟩,0⟩::(xs++[⟨1,⟨#[59]⟩,0⟩])))))))) e w8):=x.from D.o.b;obtain⟨v8,rfl,n8,b8⟩:=x.val;have X:Hid (q0w W ⟨7,xt,0⟩ w8):=D.o.W b8;have n:Hid (Eig W xt w8):=X.o.eig;clear x n8 b8)
     | (go_at_call 61;refine((q0u (P) d.o U.o (by simp<;>omega))).mono ?_;rintro e Q h7;obtain⟨v7,rfl,n7,b7⟩:=h7.val;have D:Hid (q0w W ⟨7,xt,0⟩ Q):=J.o.W b7;have m:Hid (Eig W xt Q):=D.o.eig;have V:Hid (NdV Q v7 (⟨6,⟨#[]⟩,0⟩::([⟨1,(⟨#[108,101,116,32]⟩:ByteArray)++xt++(⟨#[32,61]⟩:ByteArray),0⟩]++(⟨7,⟨#[]⟩,2⟩::(⟨6,⟨#[]⟩,0⟩::([⟨2,⟨#[]⟩,0⟩]++(⟨6,⟨#[]⟩,0⟩::(xs++[⟨1,⟨#[59]⟩,0⟩])))))))):=n7;clear h7 n7 b7)
     | (go_at_call 60;refine((q2w ⟨7,⟨#[]⟩,2⟩ (O) R.o (by simp<;>omega))).mono ?_;rintro e P h6;obtain⟨v6,rfl,n6,t⟩:=h6.val;have J:Hid (q0w W ⟨7,xt,0⟩ P):=I.o.W t;have l:Hid (Eig W xt P):=J.o.eig;have d:Hid (NdV P y ([⟨1,(⟨#[108,101,116,32]⟩:ByteArray)++xt++(⟨#[32,61]⟩:ByteArray),0⟩])):=c.o.W t;have U:Hid (NdV P v6 (⟨7,⟨#[]⟩,2⟩::(⟨6,⟨#[]⟩,0⟩::([⟨2,⟨#[]⟩,0⟩]++(⟨6,⟨#[]⟩,0⟩::(xs++[⟨1,⟨#[59]⟩,0⟩])))))):=n6;clear h6 n6 t)
     | (go_at_call 61;refine((q0u (N) C.o.bl g.o (by simp<;>omega))).mono ?_;rintro e O h5;obtain⟨v5,rfl,n5,s⟩:=h5.val;have I:Hid (q0w W ⟨7,xt,0⟩ O):=C.o.W s;have k:Hid (Eig W xt O):=I.o.eig;have c:Hid (NdV O y ([⟨1,(⟨#[108,101,116,32]⟩:ByteArray)++xt++(⟨#[32,61]⟩:ByteArray),0⟩])):=Z.o.W s;have R:Hid (NdV O v5 (⟨6,⟨#[]⟩,0⟩::([⟨2,⟨#[]⟩,0⟩]++(⟨6,⟨#[]⟩,0⟩::(xs++[⟨1,⟨#[59]⟩,0⟩]))))):=n5;clear h5 n5 s)
     | (go_at_call 57;refine((q1f _ (A.drew)).mono fun _ _ h=>h.from S.o).mono ?_;rintro e N h4;obtain⟨y,rfl,n4,r⟩:=h4.val;have C:Hid (q0w W ⟨7,xt,0⟩ N):=B.o.W r;have j:Hid (Eig W xt N):=C.o.eig;have g:Hid (NdV N v3 (⟨6,⟨#[]⟩,0⟩::(xs++[⟨1,⟨#[59]⟩,0⟩]))):=f.o.W r;have Z:Hid (NdV N y ([⟨1,(⟨#[108,101,116,32]⟩:ByteArray)++xt++(⟨#[32,61]⟩:ByteArray),0⟩])):=n4;clear h4 n4 r))
 all_goals
  go_wp2;go_ret;exact Y.o
theorem y5h{ds:List Td}{a:Option Addr}{cap:Nat}(hl:ds.length<=40)(hi:0<ds.length)(W:World)(hN:Tds W a ds)(he:ds[0]=⟨8,⟨#[]⟩,0⟩)(xs:List Nd)(Z:xs.length<=900)
  (hD:∀W':World,Below W W W'->Calls prog 26 #[.slice a ds.length cap,.int .i64 1] W' fun e w'=>NdR W' xs e w'):
  Calls prog 26 #[.slice a ds.length cap,.int .i64 0] W fun e w'=>NdR W (⟨6,⟨#[]⟩,0⟩::(xs++[⟨1,⟨#[59]⟩,0⟩])) e w':=by
 obtain⟨b,o,rfl,f,M,N,O⟩:=hN 0 hi;have Y:(0:Int)<(ds.length:Int):=by omega
 rw[he]at M N O;simp only[Nat.zero_mul,Nat.add_zero]at M N O;have A:Hid (q0w W ⟨8,⟨#[]⟩,0⟩ (dcW W 8 ⟨#[]⟩ 0)):=k1b W ⟨8,⟨#[]⟩,0⟩;have X:Hid (∀W':World,Below W W W'->Calls prog 26 #[.slice (some ⟨b,o,none⟩) ds.length cap,.int .i64 1] W' fun e w'=>NdR W' xs e w'):=hD;clear hN he hD;go_in;go_wp2_with fail;refine(X.o _ A.o.b).mono ?_;rintro e V P;obtain⟨U,rfl,R,L⟩:=P.val;have B:Hid (q0w W ⟨8,⟨#[]⟩,0⟩ V):=A.o.W L;have C:Hid (NdV V U xs):=R;clear P R L A;go_wp2_with fail;refine(q1f _ _).mono ?_;rintro e K Q;obtain⟨c,rfl,S,I⟩:=Q.val;have D:Hid (q0w W ⟨8,⟨#[]⟩,0⟩ K):=B.o.W I;have H:Hid (NdV K U xs):=C.o.W I;have G:Hid (NdV K c [⟨1,⟨#[59]⟩,0⟩]):=S;clear Q S I B C;go_wp2_with fail;refine(q0u _ H.o G.o (by simp<;>omega)).mono ?_;rintro e d J;have E:Hid (NdR W (⟨6,⟨#[]⟩,0⟩::(xs++[⟨1,⟨#[59]⟩,0⟩])) e d):=J.from D.o.b;obtain⟨g,rfl,_,_⟩:=J.val;clear J;go_wp2;go_ret;exact E.o
theorem y7u{t:List Td}{a:Option Addr}{cap:Nat}(h:q0b t=0)(h9:opT t≠9)(W:World)(hN:Tds W a t):Calls prog 26 #[.slice a t.length cap,.int .i64 0] W fun e w'=>NdR W (q0j t).N e w':=by
 obtain⟨K,V,_,_⟩:=q2j h;have R:v9z t:=⟨K,V⟩;obtain⟨x,y,k,rfl,H,L,Y,Z⟩:=q5a h h9;have B:0<(x::(Fo.cons y k .nil).N).length:=by simp
 have E:=k4o (a:=a) (cap:=cap) R (.cons y k .nil) H L;have Q:(x::(Fo.cons y k .nil).N).drop 1=(Fo.cons y k .nil).N++[]:=by simp
 have P:∀W':World,Below W W W'->Calls prog 26 #[.slice a (x::(Fo.cons y k .nil).N).length cap,.int .i64 1] W' fun e w'=>NdR W' (q0g y k.D).N e w':=fun W' hb=>E.1 1 [] Q W' (hN.W hb)
 have G:(q0g y k.D).N.length<=900:=by
  have O:=z2v R Q;rw[Fo.D,q1y]at O;simp only at O;omega
 have S:q0j (x::(Fo.cons y k .nil).N)=stD x (q0g y k.D):=q6p H Y;rw[S];rcases Z with⟨C,M,A⟩|⟨C,I,A⟩
 ·have X:x.tx.size<=8:=by rw[<-q0c];exact q1q M
  have J:=y1f (cap:=cap) K B X W hN (by obtain⟨f,g,d⟩:=x;simp only at C A;subst C A;rfl) _ G P
  have U:(⟨#[108,101,116,32]⟩:ByteArray)++x.tx++(⟨#[32,61]⟩:ByteArray)=wbS ([108,101,116,32]++btL x.tx++[32,61]):=by
   have b:wbS [108,101,116,32]++wbS (btL x.tx)=wbS ([108,101,116,32]++btL x.tx):=q2l _ _;have c:wbS ([108,101,116,32]++btL x.tx)++wbS [32,61]=wbS ([108,101,116,32]++btL x.tx++[32,61]):=q2l _ _;rw[<-c,<-b];rfl
  rw[U]at J;rw[stD,if_pos C];exact J
 ·have J:=y5h (cap:=cap) K B W hN (by obtain⟨f,g,d⟩:=x;simp only at C A I;subst C A I;rfl) _ G P;rw[stD,if_neg (by omega)];exact J
end Go.Proofs.YtfdppahhbpfnoaaGreatDoor
