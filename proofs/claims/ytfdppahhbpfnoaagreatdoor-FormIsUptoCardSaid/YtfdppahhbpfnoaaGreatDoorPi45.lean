import Derived.Test.YtfdppahhbpfnoaaGreatDoorPi44
import Derived.Test.YtfdppahhbpfnoaaGreatDoorPi25
open Go.Proofs.Tryz
namespace Go.Proofs.YtfdppahhbpfnoaaGreatDoor
open Go Go.RowKit
set_option maxRecDepth 100000
set_option maxHeartbeats 8000000
theorem z8k(hO:y3d)(hF:y2z)(t:List Td)(a:Option Addr)(cap:Nat)(s:ByteArray)(wd:Int)(w:World)(hc:t.length<=cap)(hN:Tds w a t)(E:v6n t)(hg:Hnd w)(ht:z2u w)(h:wd<10\/100<wd):
  Calls prog 3 #[.slice a t.length cap,.string s,.int .i64 wd] w fun e w'=>e=.returned (.bool true)/\Below w w w':=by
 have M:Hid (Hnd w):=hg;have J:Hid (∀W:World,Below w w W->Calls prog 13 #[.string s,.int .i64 wd] W fun e w'=>∃T k f,e=.returned (.tuple #[.string T,.int .i64 k,q1v f])/\z5t s wd T k f/\Below W W w'):=fun W h=>hF s _ W (ht.W h)
 have D:Hid (∀W:World,Below w w W->Calls prog 9 #[.slice a t.length cap,.int .i64 wd] W fun e w'=>e=.returned (.tuple #[.string (k4r t wd),q1v (z2v t wd)])/\Below W W w'):=fun W h=>hO t a cap _ W hc (hN.W h) E.nine (ht.W h)
 have K:Hid (Calls prog 6 #[.int .i64 wd] w fun e w'=>e=.returned (.bool false)/\w=w'):=by
  have R:=z4s wd w;rw[show decide (¬(wd<10\/100<wd))=false by simp;omega]at R;exact R
 have L:z2v t wd=1:=by rw[z2v,if_pos h]
 rw[z2b (by rw[L];decide),L]at D;have I:Hid (∀T k f,z5t s wd T k f->T=⟨#[]⟩/\k=0/\f=1):=fun T k f G=>q6w G (.range h)
 clear hN E hg ht L hO hF;go_in;go_wp2_with fail;refine K.o.mono ?_;rintro e Y⟨rfl,rfl⟩;go_wp2_with fail;refine(D.o _ Zb).mono ?_;rintro e S⟨rfl,N⟩;have A:Hid (Below w w S):=N;clear N;go_wp2_with fail;refine(q2o 1 1 _ (M.o.W A.o)).mono ?_;rintro e U⟨rfl,O⟩;have B:Hid (Below w w U):=q0d A.o Zl O;clear O;go_wp2_with fail;refine(J.o _ B.o).mono ?_;rintro e V⟨T,k,f,rfl,G,P⟩;obtain⟨rfl,rfl,rfl⟩:=I.o T k f G;have C:Hid (Below w w V):=q0d B.o Zl P;clear P G;go_wp2_with fail;refine(q2o 1 1 _ (M.o.W C.o)).mono ?_;rintro e X⟨rfl,Q⟩;have H:Hid (Below w w X):=q0d C.o Zl Q;clear Q;go_wp2;go_ret;exact⟨rfl,H.o⟩
theorem k9j(hO:y3d)(hF:y2z)(t:List Td)(a:Option Addr)(cap:Nat)(s:ByteArray)(n:Nat)(w:World)(hc:t.length<=cap)(hN:Tds w a t)(d:v6n t)(hg:Hnd w)(ht:z2u w)(o:10<=n)(p:n<=100)(h:q0b t≠0):
  Calls prog 3 #[.slice a t.length cap,.string s,.int .i64 (n:Int)] w fun e w'=>e=.returned (.bool true)/\Below w w w':=by
 have u:Hid (Hnd w):=hg;have V:Hid (∀W:World,Below w w W->Calls prog 13 #[.string s,.int .i64 (n:Int)] W fun e w'=>∃T k f,e=.returned (.tuple #[.string T,.int .i64 k,q1v f])/\z5t s (n:Int) T k f/\Below W W w'):=fun W h=>hF s _ W (ht.W h)
 have b:Hid (∀W:World,Below w w W->Calls prog 9 #[.slice a t.length cap,.int .i64 (n:Int)] W fun e w'=>e=.returned (.tuple #[.string (k4r t (n:Int)),q1v (z2v t (n:Int))])/\Below W W w'):=fun W h=>hO t a cap _ W hc (hN.W h) d.nine (ht.W h)
 have Q:=k7d o p
 have x:Hid (Calls prog 6 #[.int .i64 (n:Int)] w fun e w'=>e=.returned (.bool true)/\w=w'):=by
  have h1:=z4s (n:Int) w;rw[show decide (¬((n:Int)<10\/100<(n:Int)))=true by simp;omega]at h1;exact h1
 have l:Hid (Calls prog 7 #[.slice a t.length cap] w fun e w'=>e=.returned (.int .i64 (q0b t))/\Below w w w'):=q5x t a cap w hN d;have Z:Hid (∀W:World,Calls prog 11 #[.string s] W fun e w'=>k5q s W e w'):=fun W=>z4q s W
 have Y:Hid (∀(W:World)(A:Option Addr)(c:Nat)(B:List (List Td)),q6r s B 0 0->Prg W A B->Calls prog 12 #[.slice A B.length c,.int .i64 (n:Int)] W fun e w'=>k8i B n e/\Below W W w'):=fun W A c B C m=>z4i (q4s C).2.2.2 (q4s C).2.2.1 n o p A c W m
 have N:Hid (∀B k f,q6r s B k f->f≠0->∀T I H,z5t s (n:Int) T I H->T=⟨#[]⟩/\I=k/\H=f):=fun B k f hp L T I H C=>q6w C (.bad Q hp L)
 have O:Hid (∀B,q6r s B 0 0->fmE B≠0->∀T I H,z5t s (n:Int) T I H->T=⟨#[]⟩/\I=0/\H=fmE B):=fun B hp L T I H C=>q6w C (.full Q hp L)
 have P:Hid (∀B,q6r s B 0 0->fmE B=0->∀T I H,z5t s (n:Int) T I H->T=wbS (q9k n B)/\I=0/\H=0):=fun B hp L T I H C=>q6w C (.ok Q hp L)
 have y:z2v t (n:Int)=q0b t:=by rw[z2v,if_neg Q,if_pos h]
 rw[z2b (by rw[y];exact h),y]at b;have Aa:(q0b t==q0b t)=true:=by simp
 have z:(q0b t==0)=false:=by simp[h]
 clear hN d hg ht y hO hF;generalize q0b t=E at l b Aa z h;clear h;go_in;go_wp2_with fail;refine x.o.mono ?_;rintro e w1⟨rfl,rfl⟩;go_wp2_with fail;refine l.o.mono ?_;rintro e w2⟨rfl,b2⟩;have g:Hid (Below w w w2):=b2;clear b2;go_wp2_with fail;refine(b.o _ g.o).mono ?_;rintro e w3⟨rfl,b3⟩;have i:Hid (Below w w w3):=q0d g.o Zl b3;clear b3;go_wp2_with fail;refine(q2o E E _ (u.o.W i.o)).mono ?_;rintro e w4⟨rfl,b4⟩;have v:Hid (Below w w w4):=q0d i.o Zl b4;clear b4;go_wp2_with fail;refine(Z.o _).mono ?_;rintro e q⟨B,k,f,A,c,rfl,C,m,_,_,ba⟩;have M:Hid (Below w w q):=q0d v.o Zl ba;clear ba;by_cases L:f=0
 ·subst L;obtain⟨rfl,_,_,_⟩:=q4s C;have X:Hid (Calls prog 12 #[.slice A B.length c,.int .i64 (n:Int)] q fun e w'=>k8i B n e/\Below q q w'):=Y.o q A c B C m;have j:Hid (q6r s B 0 0):=C;clear C m Y Z;generalize B.length=np at X⊢;go_wp2_with fail;refine X.o.mono ?_;rintro e wb⟨hL,bb⟩;have J:Hid (Below w w wb):=q0d M.o Zl bb;clear bb X M;cases hL with
  | ok hz=>
   have D:=hid (P.o B j.o hz);clear N O P hz;generalize wbS (q9k n B)=S at D⊢;have Ag:(S.toList==S.toList)=true:=by simp
   go_wp2_with fail;refine(V.o _ J.o).mono ?_;rintro e wc⟨T,I,H,rfl,C,R⟩;obtain⟨rfl,rfl,rfl⟩:=D.o T I H C;have G:Hid (Below w w wc):=q0d J.o Zl R;clear R C D;go_wp2_with fail;refine(q2o 0 0 _ (u.o.W G.o)).mono ?_;rintro e r⟨rfl,U⟩;have K:Hid (Below w w r):=q0d G.o Zl U;clear U;go_wp2;go_ret;exact⟨rfl,K.o⟩
  | full hz=>
   have D:=hid (O.o B j.o hz);have Ac:(fmE B==fmE B)=true:=by simp
   have Ab:(fmE B==0)=false:=by simp[hz]
   clear N O P hz;generalize fmE B=E at D Ac Ab⊢;go_wp2_with fail;refine(V.o _ J.o).mono ?_;rintro e wc⟨T,I,H,rfl,C,R⟩;obtain⟨rfl,rfl,rfl⟩:=D.o T I H C;have G:Hid (Below w w wc):=q0d J.o Zl R;clear R C D;go_wp2_with fail;refine(q2o _ _ _ (u.o.W G.o)).mono ?_;rintro e r⟨rfl,U⟩;have K:Hid (Below w w r):=q0d G.o Zl U;clear U;go_wp2;go_ret;exact⟨rfl,K.o⟩
  | many=>
   go_wp2;go_ret;exact⟨rfl,J.o⟩
 ·have D:=hid (N.o B k f C L);have Ae:(f==f)=true:=by simp
  have Af:(k==k)=true:=by simp
  have Ad:(f==0)=false:=by simp[L]
  clear C m Y Z N O P L;generalize B.length=np;go_wp2_with fail;refine(V.o _ M.o).mono ?_;rintro e wc⟨T,I,H,rfl,C,R⟩;obtain⟨rfl,rfl,rfl⟩:=D.o T I H C;have G:Hid (Below w w wc):=q0d M.o Zl R;clear R C D;go_wp2_with fail;refine(q2o _ _ _ (u.o.W G.o)).mono ?_;rintro e r⟨rfl,U⟩;have K:Hid (Below w w r):=q0d G.o Zl U;clear U;go_wp2;go_ret;exact⟨rfl,K.o⟩
theorem k9k(hO:y3d)(hF:y2z)(t:List Td)(a:Option Addr)(cap:Nat)(s:ByteArray)(n:Nat)(w:World)(hc:t.length<=cap)(hN:Tds w a t)(u:v6n t)(hg:Hnd w)(ht:z2u w)(v:10<=n)(x:n<=100)(h:q0b t=0):
  Calls prog 3 #[.slice a t.length cap,.string s,.int .i64 (n:Int)] w fun e w'=>e=.returned (.bool true)/\Below w w w':=by
 have o:Hid (Hnd w):=hg;have V:Hid (∀W:World,Below w w W->Calls prog 13 #[.string s,.int .i64 (n:Int)] W fun e w'=>∃T k f,e=.returned (.tuple #[.string T,.int .i64 k,q1v f])/\z5t s (n:Int) T k f/\Below W W w'):=fun W h=>hF s _ W (ht.W h)
 have Z:Hid (∀W:World,Below w w W->Calls prog 9 #[.slice a t.length cap,.int .i64 (n:Int)] W fun e w'=>e=.returned (.tuple #[.string (k4r t (n:Int)),q1v (z2v t (n:Int))])/\Below W W w'):=fun W h=>hO t a cap _ W hc (hN.W h) u.nine (ht.W h)
 have m:=k7d v x
 have Ad:Hid (Calls prog 6 #[.int .i64 (n:Int)] w fun e w'=>e=.returned (.bool true)/\w=w'):=by
  have h1:=z4s (n:Int) w;rw[show decide (¬((n:Int)<10\/100<(n:Int)))=true by simp;omega]at h1;exact h1
 have Ac:Hid (Calls prog 7 #[.slice a t.length cap] w fun e w'=>e=.returned (.int .i64 (q0b t))/\Below w w w'):=q5x t a cap w hN u;have Y:Hid (∀W:World,Calls prog 11 #[.string s] W fun e w'=>k5q s W e w'):=fun W=>z4q s W
 have X:Hid (∀(W:World)(A:Option Addr)(c:Nat)(B:List (List Td)),q6r s B 0 0->Prg W A B->Calls prog 12 #[.slice A B.length c,.int .i64 (n:Int)] W fun e w'=>k8i B n e/\Below W W w'):=fun W A c B D l=>z4i (q4s D).2.2.2 (q4s D).2.2.1 n v x A c W l
 have M:Hid (∀B k f,q6r s B k f->f≠0->∀T K J,z5t s (n:Int) T K J->T=⟨#[]⟩/\K=k/\J=f):=fun B k f hp U T K J D=>q6w D (.bad m hp U)
 have N:Hid (∀B,q6r s B 0 0->fmE B≠0->∀T K J,z5t s (n:Int) T K J->T=⟨#[]⟩/\K=0/\J=fmE B):=fun B hp U T K J D=>q6w D (.full m hp U)
 have O:Hid (∀B,q6r s B 0 0->fmE B=0->∀T K J,z5t s (n:Int) T K J->T=wbS (q9k n B)/\K=0/\J=0):=fun B hp U T K J D=>q6w D (.ok m hp U)
 have e1:z2v t (n:Int)=pgE t:=k4q m h;have Ab:Hid (∀W:World,Below w w W->Calls prog 8 #[.slice a t.length cap,.int .i64 (n:Int)] W fun e w'=>j1l t n e/\Below W W w'):=fun W hb=>z6w h n v x a cap W (hN.W hb)
 have q:Hid (pgE t=0->k4r t (n:Int)=wbS (z3g n t)/\z2v t (n:Int)=0):=fun h0=>⟨k4s (by rw[e1];exact h0),by rw[e1];exact h0⟩
 have r:Hid (pgE t≠0->k4r t (n:Int)=⟨#[]⟩/\z2v t (n:Int)=pgE t):=fun h0=>⟨z2b (by rw[e1];exact h0),e1⟩
 rw[h]at Ac;clear hN u hg ht e1 hO hF h;go_in;go_wp2_with fail;refine Ad.o.mono ?_;rintro e w1⟨rfl,rfl⟩;go_wp2_with fail;refine Ac.o.mono ?_;rintro e w2⟨rfl,b2⟩;have Aa:Hid (Below w w w2):=b2;clear b2;go_wp2_with fail;refine(Ab.o _ Aa.o).mono ?_;rintro e w3⟨Ae,b3⟩;have b:Hid (Below w w w3):=q0d Aa.o Zl b3;clear b3 Ab;cases Ae with
 | ok hz=>
  obtain⟨e2,e3⟩:=q.o hz;rw[e2,e3]at Z;clear e2 e3 q r hz;generalize wbS (z3g n t)=S1 at Z⊢;have Al:(S1.toList==S1.toList)=true:=by simp
  have Am:(S1.toList != S1.toList)=false:=by simp
  go_wp2_with fail;refine(Z.o _ b.o).mono ?_;rintro e w4⟨rfl,b4⟩;have d:Hid (Below w w w4):=q0d b.o Zl b4;clear b4;go_wp2_with fail;refine(q2o 0 0 _ (o.o.W d.o)).mono ?_;rintro e w5⟨rfl,b5⟩;have p:Hid (Below w w w5):=q0d d.o Zl b5;clear b5;go_wp2_with fail;refine(Y.o _).mono ?_;rintro e i⟨B,k,f,A,c,rfl,D,l,_,_,ba⟩;have L:Hid (Below w w i):=q0d p.o Zl ba;clear ba;by_cases U:f=0
  ·subst U;obtain⟨rfl,_,_,_⟩:=q4s D;have R:Hid (Calls prog 12 #[.slice A B.length c,.int .i64 (n:Int)] i fun e w'=>k8i B n e/\Below i i w'):=X.o i A c B D l;have g:Hid (q6r s B 0 0):=D;clear D l X Y;generalize B.length=np at R⊢;go_wp2_with fail;refine R.o.mono ?_;rintro e wb⟨hL,bb⟩;have H:Hid (Below w w wb):=q0d L.o Zl bb;clear bb R L;cases hL with
   | ok hz=>
    have C:=hid (O.o B g.o hz);clear M N O hz;generalize wbS (q9k n B)=S at C⊢;have Ak:(S.toList==S.toList)=true:=by simp
    go_wp2_with fail;refine(V.o _ H.o).mono ?_;rintro e wc⟨T,K,J,rfl,D,P⟩;obtain⟨rfl,rfl,rfl⟩:=C.o T K J D;have G:Hid (Below w w wc):=q0d H.o Zl P;clear P D C;go_wp2_with fail;refine(q2o 0 0 _ (o.o.W G.o)).mono ?_;rintro e j⟨rfl,Q⟩;have I:Hid (Below w w j):=q0d G.o Zl Q;clear Q;go_wp2;go_ret;exact⟨rfl,I.o⟩
   | full hz=>
    have C:=hid (N.o B g.o hz);have z:(fmE B==fmE B)=true:=by simp
    have y:(fmE B==0)=false:=by simp[hz]
    clear M N O hz;generalize fmE B=E at C z y⊢;go_wp2_with fail;refine(V.o _ H.o).mono ?_;rintro e wc⟨T,K,J,rfl,D,P⟩;obtain⟨rfl,rfl,rfl⟩:=C.o T K J D;have G:Hid (Below w w wc):=q0d H.o Zl P;clear P D C;go_wp2_with fail;refine(q2o _ _ _ (o.o.W G.o)).mono ?_;rintro e j⟨rfl,Q⟩;have I:Hid (Below w w j):=q0d G.o Zl Q;clear Q;go_wp2;go_ret;exact⟨rfl,I.o⟩
   | many=>
    go_wp2;go_ret;exact⟨rfl,H.o⟩
  ·have C:=hid (M.o B k f D U);have Ai:(f==f)=true:=by simp
   have Aj:(k==k)=true:=by simp
   have Ah:(f==0)=false:=by simp[U]
   clear D l X Y M N O U;generalize B.length=np;go_wp2_with fail;refine(V.o _ L.o).mono ?_;rintro e wc⟨T,K,J,rfl,D,P⟩;obtain⟨rfl,rfl,rfl⟩:=C.o T K J D;have G:Hid (Below w w wc):=q0d L.o Zl P;clear P D C;go_wp2_with fail;refine(q2o _ _ _ (o.o.W G.o)).mono ?_;rintro e j⟨rfl,Q⟩;have I:Hid (Below w w j):=q0d G.o Zl Q;clear Q;go_wp2;go_ret;exact⟨rfl,I.o⟩
 | full hz=>
  obtain⟨e2,e3⟩:=r.o hz;rw[e2,e3]at Z;have Ag:(pgE t==pgE t)=true:=by simp
  have Af:(pgE t==0)=false:=by simp[hz]
  clear e2 e3 q r hz;generalize pgE t=E at Z Ag Af⊢;go_wp2_with fail;refine(Z.o _ b.o).mono ?_;rintro e w4⟨rfl,b4⟩;have d:Hid (Below w w w4):=q0d b.o Zl b4;clear b4;go_wp2_with fail;refine(q2o E E _ (o.o.W d.o)).mono ?_;rintro e w5⟨rfl,b5⟩;have p:Hid (Below w w w5):=q0d d.o Zl b5;clear b5;go_wp2_with fail;refine(Y.o _).mono ?_;rintro e i⟨B,k,f,A,c,rfl,D,l,_,_,ba⟩;have L:Hid (Below w w i):=q0d p.o Zl ba;clear ba;by_cases U:f=0
  ·subst U;obtain⟨rfl,_,_,_⟩:=q4s D;have R:Hid (Calls prog 12 #[.slice A B.length c,.int .i64 (n:Int)] i fun e w'=>k8i B n e/\Below i i w'):=X.o i A c B D l;have g:Hid (q6r s B 0 0):=D;clear D l X Y;generalize B.length=np at R⊢;go_wp2_with fail;refine R.o.mono ?_;rintro e wb⟨hL,bb⟩;have H:Hid (Below w w wb):=q0d L.o Zl bb;clear bb R L;cases hL with
   | ok hz=>
    have C:=hid (O.o B g.o hz);clear M N O hz;generalize wbS (q9k n B)=S at C⊢;have Ak:(S.toList==S.toList)=true:=by simp
    go_wp2_with fail;refine(V.o _ H.o).mono ?_;rintro e wc⟨T,K,J,rfl,D,P⟩;obtain⟨rfl,rfl,rfl⟩:=C.o T K J D;have G:Hid (Below w w wc):=q0d H.o Zl P;clear P D C;go_wp2_with fail;refine(q2o 0 0 _ (o.o.W G.o)).mono ?_;rintro e j⟨rfl,Q⟩;have I:Hid (Below w w j):=q0d G.o Zl Q;clear Q;go_wp2;go_ret;exact⟨rfl,I.o⟩
   | full hz=>
    have C:=hid (N.o B g.o hz);have z:(fmE B==fmE B)=true:=by simp
    have y:(fmE B==0)=false:=by simp[hz]
    clear M N O hz;generalize fmE B=E at C z y⊢;go_wp2_with fail;refine(V.o _ H.o).mono ?_;rintro e wc⟨T,K,J,rfl,D,P⟩;obtain⟨rfl,rfl,rfl⟩:=C.o T K J D;have G:Hid (Below w w wc):=q0d H.o Zl P;clear P D C;go_wp2_with fail;refine(q2o _ _ _ (o.o.W G.o)).mono ?_;rintro e j⟨rfl,Q⟩;have I:Hid (Below w w j):=q0d G.o Zl Q;clear Q;go_wp2;go_ret;exact⟨rfl,I.o⟩
   | many=>
    go_wp2;go_ret;exact⟨rfl,H.o⟩
  ·have C:=hid (M.o B k f D U);have Ai:(f==f)=true:=by simp
   have Aj:(k==k)=true:=by simp
   have Ah:(f==0)=false:=by simp[U]
   clear D l X Y M N O U;generalize B.length=np;go_wp2_with fail;refine(V.o _ L.o).mono ?_;rintro e wc⟨T,K,J,rfl,D,P⟩;obtain⟨rfl,rfl,rfl⟩:=C.o T K J D;have G:Hid (Below w w wc):=q0d L.o Zl P;clear P D C;go_wp2_with fail;refine(q2o _ _ _ (o.o.W G.o)).mono ?_;rintro e j⟨rfl,Q⟩;have I:Hid (Below w w j):=q0d G.o Zl Q;clear Q;go_wp2;go_ret;exact⟨rfl,I.o⟩
 | many s1=>
  go_wp2;go_ret;exact⟨rfl,b.o⟩
theorem k9i(hO:y3d)(hF:y2z)(t:List Td)(a:Option Addr)(cap:Nat)(s:ByteArray)(wd:Int)(w:World)(hc:t.length<=cap)(hN:Tds w a t)(A:v6n t)(hg:Hnd w)(ht:z2u w):
  Calls prog 3 #[.slice a t.length cap,.string s,.int .i64 wd] w fun e w'=>e=.returned (.bool true)/\Below w w w':=by
 by_cases B:wd<10\/100<wd
 ·exact z8k hO hF t a cap s wd w hc hN A hg ht B
 ·obtain⟨n,rfl⟩:∃n:Nat,wd=(n:Int):=⟨wd.toNat,by omega⟩;by_cases h:q0b t=0
  ·exact k9k hO hF t a cap s n w hc hN A hg ht (by omega) (by omega) h
  ·exact k9j hO hF t a cap s n w hc hN A hg ht (by omega) (by omega) h
end Go.Proofs.YtfdppahhbpfnoaaGreatDoor
