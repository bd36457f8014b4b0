import Derived.Test.YthcpdohdppkmkaaGreatDoorPl38
open Go.Proofs.Tryz
namespace Go.Proofs.YthcpdohdppkmkaaGreatDoor
open Go Go.RowKit
set_option maxRecDepth 100000
set_option maxHeartbeats 4000000
def z7n(ds:List Nd)(a:Option Addr)(cap:Nat)(A:List Nd)(f:List (List Int)->List (List Int)):Prop:=
 ∀(i:Nat)(r:List Nd)(bs:List (List Int))(ba:Option Addr)(bc m:Nat)(w:World),ds.drop i=A++r->q1u w a ds->q2b none w ba bs->bs.length<=bc->bs.length<=301->(∀x∈bs,x.length<=m)->m+A.length<=900->
  Calls prog 188 #[.slice a ds.length cap,.int .i64 i,.slice ba bs.length bc,.int .i64 300] w fun e w'=>∃a' c',e=.returned (.slice a' (f bs).length c')/\(f bs).length<=c'/\(∀g:Option Nat,(∀k,g=some k->k<w.heap.size)->q2b g w ba bs->q2b g w' a' (f bs))/\Below w w w'
def y3v(A:List Nd)(f:List (List Int)->List (List Int)):Prop:=
 (∀bs,bs.length<=301->(f bs).length<=301)/\∀bs m,(∀x∈bs,x.length<=m)->∀x∈f bs,x.length<=m+A.length
theorem q2b.take{g:Option Nat}{w:World}{a:Option Addr}{ls:List (List Int)}(h:q2b g w a ls)(n:Nat):q2b g w a (ls.take n):=by
 intro i B;have A:i<ls.length:=by simp at B;omega
 have e:(ls.take n)[i]=ls[i]:=List.getElem_take;rw[e];exact h i A
theorem q8w.o{B:Nat}{v:Value}{ls:List (List Int)}{w:World}(h:q8w B v ls none w):∃a c,v=.slice a ls.length c/\ls.length<=c/\(ls.length=0\/∃k,a=some ⟨k,0,none⟩)/\(∀g:Option Nat,(∀k,g=some k->k<B)->q2b g w a ls)/\(∀k,v.ownBlock=some k->B<=k/\k<w.heap.size):=by
 have G:=h;obtain⟨L,I,_⟩:=G;rcases I.2 with⟨rfl,H⟩|⟨K,D,E,rfl,J,A,C,_⟩
 ·rw[H]at *;exact⟨none,0,rfl,Nat.le_refl _,.inl rfl,fun g hg=>(h.waysN hg).2,fun k hk=>by cases hk⟩
 ·exact⟨_,D,rfl,C,.inr ⟨_,rfl⟩,fun g hg=>(h.waysN hg).2,fun k hk=>by
   cases hk
   exact⟨J,(Array.getElem?_eq_some_iff.1 A).1⟩⟩
theorem q5d{w w':World}{g:Option Nat}{B:Nat}(h:w.grownBy w' g)(hB:B<=w.heap.size)(hg:∀k,g=some k->B<=k):Below B w w':=(Below.refl B w).grown h hB hg
theorem q2b.apart{w w':World}{a:Option Addr}{ls:List (List Int)}{g:Option Nat}(h:q2b none w a ls)(hb:Below w w w')(hg:∀k,g=some k->w.heap.size<=k):q2b g w' a ls:=(h.new hg).W hb
theorem j0z(ds:List Nd)(a:Option Addr)(cap:Nat)(op:Int)(ho:op=1\/op=2\/op=3\/op=4\/op=5)(tx:ByteArray)(n:Int):z7n ds a cap [⟨op,tx,n⟩] (fun bs=>bs):=by
 intro i r bs Q R m w H G K A L O S;obtain⟨M,E,I⟩:=q0t (x:=⟨op,tx,n⟩) (r:=r) H;obtain⟨P,U,J,N,B,C,D⟩:=G i M;subst J;rw[E]at B C D;dsimp only at B C D;clear H E I G K O;rcases ho with rfl|rfl|rfl|rfl|rfl
 all_goals
  go_in;go_wp2;go_ret;exact⟨_,_,rfl,A,fun g _ h=>h,Below.refl _ _⟩
theorem y3a(ds:List Nd)(a:Option Addr)(cap:Nat)(hl:ds.length<=400)(tx:ByteArray)(n:Int)(A:List Nd)(f:List (List Int)->List (List Int))(hA:z7n ds a cap A f):z7n ds a cap (⟨7,tx,n⟩::A) f:=by
 intro i r B C H m w P D O E G Q d;obtain⟨b,L,M⟩:=q0t (x:=⟨7,tx,n⟩) (r:=A++r) P;obtain⟨W,h,X,c,I,J,K⟩:=D i b;subst X;rw[L]at I J K;dsimp only at I J K;simp only[List.length_cons]at d;have U:Hid (((i+1:Nat):Int)=(i:Int)+1):=(show _=_ by omega);have S:Hid (Calls prog 188 #[.slice (some ⟨W,h,none⟩) ds.length cap,.int .i64 (i+1:Nat),.slice C B.length H,.int .i64 300] w _):=hA (i+1) r B C H m w M D O E G Q (by omega);clear P L M D O Q hA;go_in;go_wp2_with fail;rw[<-U.o];refine S.o.mono ?_;rintro e j⟨V,l,rfl,Y,N,Z⟩;have R:Hid (∀g:Option Nat,(∀k,g=some k->k<w.heap.size)->q2b g w C B->q2b g j V (f B)):=N;clear N;go_wp2;go_ret;exact⟨_,_,rfl,Y,R.o,Z⟩
theorem y2z(ds:List Nd)(a:Option Addr)(cap:Nat)(hl:ds.length<=400)(tx:ByteArray)(n:Int)(A C:List Nd)(f g:List (List Int)->List (List Int))(hA:z7n ds a cap A f)(hC:z7n ds a cap C g)(hg:y3v C g)(hE:∀i r,ds.drop i=A++r->q0o ds i 1=some (i+A.length)):z7n ds a cap (⟨6,tx,n⟩::(A++C)) (fun bs=>f (g bs)):=by
 intro i r bs E Y m w s H O P B Q hm;obtain⟨hi,d,l⟩:=q0t (x:=⟨6,tx,n⟩) (r:=(A++C)++r) s;obtain⟨N,R,ea,Aa,Z,b,c⟩:=H i hi;subst ea;rw[d]at Z b c;dsimp only at Z b c;simp only[List.length_cons,List.length_append]at hm;have X:Hid (((i+1:Nat):Int)=(i:Int)+1):=(show _=_ by omega);have D:Hid (ds.drop (i+1)=(A++C)++r):=l;rw[List.append_assoc]at D;have V:Hid (q1u w (some ⟨N,R,none⟩) ds):=H;have y:Hid (q0o ds (i+1) 1=some (i+1+A.length)):=hE (i+1) (C++r) D.o;have J:Hid (ds.drop (i+1+A.length)=C++r):=q7p D.o;have U:Hid (Calls prog 188 #[.slice (some ⟨N,R,none⟩) ds.length cap,.int .i64 (i+1+A.length:Nat),.slice E bs.length Y,.int .i64 300] w _):=hC (i+1+A.length) r bs E Y m w J.o H O P B Q (by omega);have v:Hid (z7n ds (some ⟨N,R,none⟩) cap A f):=hA;have z:Hid (q2b none w E bs):=O;have K:Hid ((g bs).length<=301):=hg.1 bs B;have L:Hid (∀x∈g bs,x.length<=m+C.length):=hg.2 bs m Q;clear s d l H O Q hA hC hE;go_in;go_wp2_with fail;rw[<-X.o];refine(q4x ds _ cap hl (ds.length+1) (i+1) w V.o (by omega) (by omega)).mono ?_;rintro e w3⟨rfl,rfl⟩;rw[y.o];have t:v7y (some (i+1+A.length))=((i+1+A.length:Nat):Int):=rfl;rw[t];generalize hj:i+1+A.length=j at U⊢;clear t hj;go_wp2_with fail;refine U.o.mono ?_;rintro e I⟨M,k2,rfl,h2,o,G⟩;have S:Hid (∀g_1:Option Nat,(∀k,g_1=some k->k<w.heap.size)->q2b g_1 w E bs->q2b g_1 I M (g bs)):=o;clear o;go_wp2_with fail;rw[<-X.o];refine(v.o (i+1) (C++r) (g bs) M k2 (m+C.length) I D.o (V.o.W G) (S.o none (fun _ h=>by cases h) z.o) h2 K.o L.o (by omega)).mono ?_;rintro e w5⟨a5,k5,rfl,h5,p,h7⟩;have u:Hid (∀g_1:Option Nat,(∀k,g_1=some k->k<I.heap.size)->q2b g_1 I M (g bs)->q2b g_1 w5 a5 (f (g bs))):=p;clear p;go_wp2;go_ret;refine⟨_,_,rfl,h5,fun q hq hw=>u.o q (fun k hk=>?_) (S.o q hq hw),G.trans (h7.mono G.size)⟩
 have:=hq k hk
 have:=G.size
 omega
theorem v6l(ds:List Nd)(a:Option Addr)(cap:Nat)(hl:ds.length<=400)(tx:ByteArray)(n:Int)(A:List Nd)(f:List (List Int)->List (List Int))(sA:ByteArray)(hA:z7n ds a cap A f)(hf:y3v A f)(hF:q2d ds a cap A sA true)(F:List (List Int)->List (List Int))(HF:Hid (∀bs,F bs=(bs.map (0::·)++(f bs).map (1::·)).take 301)):z7n ds a cap (⟨8,tx,n⟩::A) F:=by
 intro i r bs ba bc m w hd hN hM Ac L hx hm;obtain⟨hi,e1,e2⟩:=q0t (x:=⟨8,tx,n⟩) (r:=A++r) hd;obtain⟨b0,o0,ea,Ag,c1,c2,c3⟩:=hN i hi;subst ea;rw[e1]at c1 c2 c3;dsimp only at c1 c2 c3;simp only[List.length_cons]at hm;have HX:Hid (((i+1:Nat):Int)=(i:Int)+1):=(show _=_ by omega);have HN:Hid (q1u w (some ⟨b0,o0,none⟩) ds):=hN;have HM:Hid (q2b none w ba bs):=hM;have Y:Hid (∀x∈bs,x.length<=m):=hx;have HA:Hid (z7n ds (some ⟨b0,o0,none⟩) cap A f):=hA;have u:Hid ((f bs).length<=301):=hf.1 bs L;have v:Hid (∀x∈f bs,x.length<=m+A.length):=hf.2 bs m hx;have y:Hid (q2d ds (some ⟨b0,o0,none⟩) cap A sA true):=hF;have HD:Hid (ds.drop (i+1)=A++r):=e2;clear hd e1 e2 hN hM hx hA hF hf;go_in;go_wp2_with fail;rw[<-HX.o];refine(y.o (i+1) _ _ HD.o HN.o).mono ?_;rintro e w1⟨rfl,J⟩;have Q:Hid (Below w w w1):=J;have j:=J.size;clear J;go_wp2_with fail;refine(q6g w.heap.size (.slice none 0 0) [] bs 0 ba bc w1 (q8w.nil _ _ _) (HM.o.W Q.o) j (by simp;omega) (fun x h=>by have:=Y.o x h;omega)).mono ?_;rintro e p⟨v2,rfl,B,G,Z⟩;rw[List.nil_append]at B;have D:(bs.map (0::·)).length<=301:=by rw[List.length_map];exact L
 generalize b:bs.map (0::·)=l1 at B D;have t:Hid (bs.map (0::·)=l1):=b;have X:Hid (l1.length<=301):=D;clear b D;have C:Hid (Below w w p):=Q.o.trans (q5d G j (fun k h=>by cases h));have Af:=C.o.size;obtain⟨O,P,rfl,_,_,_,N⟩:=B.o;have D:l1.length<=301:=X.o;generalize Ae:l1.length=n1 at B N D;have z:Hid (q8w w.heap.size (.slice O n1 P) l1 none p):=B;have I:Hid (∀k,(Value.slice O n1 P).ownBlock=some k->w.heap.size<=k/\k<p.heap.size):=N;clear B G Z N Ae;go_wp2_with fail;rw[<-HX.o];refine(HA.o (i+1) r bs ba bc m p HD.o (HN.o.W C.o) (HM.o.W C.o) Ac L Y.o (by omega)).mono ?_;rintro e s⟨a3,k3,rfl,h3,h4,K⟩;have Ab:Hid (q2b (Value.slice O n1 P).ownBlock s a3 (f bs)):=h4 (Value.slice O n1 P).ownBlock (fun k h=>(I.o k h).2) (HM.o.apart C.o fun k h=>(I.o k h).1);have Aa:Hid (q8w w.heap.size (.slice O n1 P) l1 none s):=z.o.W K;have R:Hid (Below w w s):=C.o.trans (K.mono Af);have l:=R.o.size;clear h4 K;go_wp2_with fail;refine(q6g w.heap.size (.slice O n1 P) l1 (f bs) 1 a3 k3 s Aa.o Ab.o l (by have:=u.o;have:=X.o;omega) (fun x h=>by have:=v.o x h;omega)).mono ?_;rintro e w5⟨v5,rfl,M,H,_⟩;generalize c:l1++(f bs).map (1::·)=l5 at M;have V:Hid (q8w w.heap.size v5 l5 none w5):=M;have U:Hid (F bs=l5.take 301):=(show _=_ by rw[HF.o,t.o,c]);clear c;have S:Hid (Below w w w5):=R.o.trans (q5d H l (fun k h=>(I.o k h).1));clear M H;obtain⟨a5,k5,rfl,h5,o,h7,_⟩:=V.o.o;have H7:Hid (∀g:Option Nat,(∀k,g=some k->k<w.heap.size)->q2b g w5 a5 l5):=h7;generalize d:l5.length=n5 at h5 o;have E:Hid (l5.length=n5):=d;clear h7 d V;by_cases hcut:301<n5
 ·obtain⟨q5,rfl⟩:∃q5,a5=some ⟨q5,0,none⟩:=o.resolve_left (by omega);have Ad:(301:Int)<(n5:Int):=by omega
  clear o;go_wp2;go_ret;rw[U.o];refine⟨some ⟨q5,0,none⟩,k5,?_,?_,fun q hq _=>(H7.o q hq).take 301,S.o⟩
  ·have e:(l5.take 301).length=301:=by rw[List.length_take,E.o];omega
   rw[e];rfl
  ·rw[List.length_take,E.o];omega
 ·have Ad:¬(301:Int)<(n5:Int):=by omega
  clear o;go_wp2;go_ret;rw[U.o];refine⟨a5,k5,?_,?_,fun q hq _=>(H7.o q hq).take 301,S.o⟩
  ·have e:(l5.take 301).length=n5:=by rw[List.length_take,E.o];omega
   rw[e];rfl
  ·rw[List.length_take,E.o];omega
theorem v6k(ds:List Nd)(a:Option Addr)(cap:Nat)(hl:ds.length<=400)(tx:ByteArray)(n:Int)(A:List Nd)(f:List (List Int)->List (List Int))(sA:ByteArray)(hA:z7n ds a cap A f)(hf:y3v A f)(hF:q2d ds a cap A sA false)(F:List (List Int)->List (List Int))(HF:Hid (∀bs,F bs=(([]:List (List Int))++(f bs).map (1::·)).take 301)):z7n ds a cap (⟨8,tx,n⟩::A) F:=by
 intro i r bs ba bc m w hd b hM c M l hm;obtain⟨hi,e1,e2⟩:=q0t (x:=⟨8,tx,n⟩) (r:=A++r) hd;obtain⟨Z,o,ea,Aa,c1,c2,c3⟩:=b i hi;subst ea;rw[e1]at c1 c2 c3;dsimp only at c1 c2 c3;simp only[List.length_cons]at hm;have HX:Hid (((i+1:Nat):Int)=(i:Int)+1):=(show _=_ by omega);have z:Hid (q1u w (some ⟨Z,o,none⟩) ds):=b;have y:Hid (q2b none w ba bs):=hM;have X:Hid (∀x∈bs,x.length<=m):=l;have HA:Hid (z7n ds (some ⟨Z,o,none⟩) cap A f):=hA;have R:Hid ((f bs).length<=301):=hf.1 bs M;have S:Hid (∀x∈f bs,x.length<=m+A.length):=hf.2 bs m l;have U:Hid (q2d ds (some ⟨Z,o,none⟩) cap A sA false):=hF;have v:Hid (ds.drop (i+1)=A++r):=e2;clear hd e1 e2 b hM l hA hF hf;go_in;go_wp2_with fail;rw[<-HX.o];refine(U.o (i+1) _ _ v.o z.o).mono ?_;rintro e w1⟨rfl,E⟩;have B:Hid (Below w w w1):=E;have j:=E.size;clear E;go_wp2_with fail;rw[<-HX.o];refine(HA.o (i+1) r bs ba bc m w1 v.o (z.o.W B.o) (y.o.W B.o) c M X.o (by omega)).mono ?_;rintro e s⟨a3,k3,rfl,h3,h4,L⟩;have V:Hid (q2b none s a3 (f bs)):=h4 none (fun k h=>by cases h) (y.o.W B.o);have H:Hid (Below w w s):=B.o.trans (L.mono j);have P:=H.o.size;clear h4 L;go_wp2_with fail;refine(q6g w.heap.size (.slice none 0 0) [] (f bs) 1 a3 k3 s (q8w.nil _ _ _) V.o P (by have:=R.o;simp;omega) (fun x h=>by have:=S.o x h;omega)).mono ?_;rintro e t⟨v5,rfl,G,D,_⟩;generalize N:([]:List (List Int))++(f bs).map (1::·)=l5 at G;have K:Hid (q8w w.heap.size v5 l5 none t):=G;have J:Hid (F bs=l5.take 301):=(show _=_ by rw[HF.o,N]);clear N;have I:Hid (Below w w t):=H.o.trans (q5d D P (fun k h=>by cases h));clear G D;obtain⟨Y,k5,rfl,h5,Q,h7,_⟩:=K.o.o;have u:Hid (∀g:Option Nat,(∀k,g=some k->k<w.heap.size)->q2b g t Y l5):=h7;generalize O:l5.length=n5 at h5 Q;have C:Hid (l5.length=n5):=O;clear h7 O K;by_cases hcut:301<n5
 ·obtain⟨p,rfl⟩:∃p,Y=some ⟨p,0,none⟩:=Q.resolve_left (by omega);have d:(301:Int)<(n5:Int):=by omega
  clear Q;go_wp2;go_ret;rw[J.o];refine⟨some ⟨p,0,none⟩,k5,?_,?_,fun q hq _=>(u.o q hq).take 301,I.o⟩
  ·have e:(l5.take 301).length=301:=by rw[List.length_take,C.o];omega
   rw[e];rfl
  ·rw[List.length_take,C.o];omega
 ·have d:¬(301:Int)<(n5:Int):=by omega
  clear Q;go_wp2;go_ret;rw[J.o];refine⟨Y,k5,?_,?_,fun q hq _=>(u.o q hq).take 301,I.o⟩
  ·have e:(l5.take 301).length=n5:=by rw[List.length_take,C.o];omega
   rw[e];rfl
  ·rw[List.length_take,C.o];omega
theorem y3b(ds:List Nd)(a:Option Addr)(cap:Nat)(hl:ds.length<=400)(tx:ByteArray)(n:Int)(A C:List Nd)(f g:List (List Int)->List (List Int))(hA:z7n ds a cap A f)(hf:y3v A f)(hC:z7n ds a cap C g)(hg:y3v C g)(hE:∀i r,ds.drop i=A++r->q0o ds i 1=some (i+A.length))(F:List (List Int)->List (List Int))(HF:Hid (∀bs,F bs=((f bs).map (0::·)++(g bs).map (1::·)).take 301)):z7n ds a cap (⟨9,tx,n⟩::(A++C)) F:=by
 intro i r bs ba bc m w hd hN hM l H hx hm;obtain⟨hi,e1,e2⟩:=q0t (x:=⟨9,tx,n⟩) (r:=(A++C)++r) hd;obtain⟨b0,o0,ea,Am,c1,c2,c3⟩:=hN i hi;subst ea;rw[e1]at c1 c2 c3;dsimp only at c1 c2 c3;simp only[List.length_cons,List.length_append]at hm;have HX:Hid (((i+1:Nat):Int)=(i:Int)+1):=(show _=_ by omega);have HN:Hid (q1u w (some ⟨b0,o0,none⟩) ds):=hN;have z:Hid (q2b none w ba bs):=hM;have b:Hid (∀x∈bs,x.length<=m):=hx;have HA:Hid (z7n ds (some ⟨b0,o0,none⟩) cap A f):=hA;have K:Hid ((f bs).length<=301):=hf.1 bs H;have Ae:Hid (∀x∈f bs,x.length<=m+A.length):=hf.2 bs m hx;have HC:Hid (z7n ds (some ⟨b0,o0,none⟩) cap C g):=hC;have Ab:Hid ((g bs).length<=301):=hg.1 bs H;have Ac:Hid (∀x∈g bs,x.length<=m+C.length):=hg.2 bs m hx;have y:Hid (ds.drop (i+1)=(A++C)++r):=e2;rw[List.append_assoc]at y;have HE:Hid (q0o ds (i+1) 1=some (i+1+A.length)):=hE (i+1) (C++r) y.o;have V:Hid (ds.drop (i+1+A.length)=C++r):=q7p y.o;clear hd e1 e2 hN hM hx hA hC hE hf hg;go_in;go_wp2_with fail;rw[<-HX.o];refine(HA.o (i+1) (C++r) bs ba bc m w y.o HN.o z.o l H b.o (by omega)).mono ?_;rintro e w1⟨a1,k1,rfl,h1,c,M⟩;have Ah:Hid (q2b none w1 a1 (f bs)):=c none (fun k h=>by cases h) z.o;have Aa:Hid (Below w w w1):=M;have t:=M.size;clear c M;go_wp2_with fail;refine(q6g w.heap.size (.slice none 0 0) [] (f bs) 0 a1 k1 w1 (q8w.nil _ _ _) Ah.o t (by have:=K.o;simp;omega) (fun x h=>by have:=Ae.o x h;omega)).mono ?_;rintro e v⟨v2,rfl,D,I,d⟩;rw[List.nil_append]at D;have E:((f bs).map (0::·)).length<=301:=by rw[List.length_map];exact K.o
 generalize o:(f bs).map (0::·)=l1 at D E;have Ad:Hid ((f bs).map (0::·)=l1):=o;have Z:Hid (l1.length<=301):=E;clear o E;have B:Hid (Below w w v):=Aa.o.trans (q5d I t (fun k h=>by cases h));have Al:=B.o.size;obtain⟨Q,R,rfl,_,_,_,P⟩:=D.o;have E:l1.length<=301:=Z.o;generalize Ak:l1.length=n1 at D P E;have Af:Hid (q8w w.heap.size (.slice Q n1 R) l1 none v):=D;have L:Hid (∀k,(Value.slice Q n1 R).ownBlock=some k->w.heap.size<=k/\k<v.heap.size):=P;clear D I d P Ak;go_wp2_with fail;rw[<-HX.o];refine(q4x ds _ cap hl (ds.length+1) (i+1) v (HN.o.W B.o) (by omega) (by omega)).mono ?_;rintro e w4⟨rfl,rfl⟩;rw[HE.o];have hz:v7y (some (i+1+A.length))=((i+1+A.length:Nat):Int):=rfl;rw[hz];generalize hj:i+1+A.length=j at V⊢;clear hz hj;go_wp2_with fail;refine(HC.o j r bs ba bc m v V.o (HN.o.W B.o) (z.o.W B.o) l H b.o (by omega)).mono ?_;rintro e w3⟨a3,k3,rfl,h3,c,N⟩;have Ai:Hid (q2b (Value.slice Q n1 R).ownBlock w3 a3 (g bs)):=c (Value.slice Q n1 R).ownBlock (fun k h=>(L.o k h).2) (z.o.apart B.o fun k h=>(L.o k h).1);have Ag:Hid (q8w w.heap.size (.slice Q n1 R) l1 none w3):=Af.o.W N;have S:Hid (Below w w w3):=B.o.trans (N.mono Al);have u:=S.o.size;clear c N;go_wp2_with fail;refine(q6g w.heap.size (.slice Q n1 R) l1 (g bs) 1 a3 k3 w3 Ag.o Ai.o u (by have:=K.o;have:=Ab.o;have:=Z.o;omega) (fun x h=>by have:=Ac.o x h;omega)).mono ?_;rintro e w5⟨v5,rfl,O,J,_⟩;generalize p:l1++(g bs).map (1::·)=l5 at O;have Y:Hid (q8w w.heap.size v5 l5 none w5):=O;have X:Hid (F bs=l5.take 301):=(show _=_ by rw[HF.o,Ad.o,p]);clear p;have U:Hid (Below w w w5):=S.o.trans (q5d J u (fun k h=>(L.o k h).1));clear O J;obtain⟨a5,k5,rfl,h5,h6,h7,_⟩:=Y.o.o;have H7:Hid (∀g:Option Nat,(∀k,g=some k->k<w.heap.size)->q2b g w5 a5 l5):=h7;generalize s:l5.length=n5 at h5 h6;have G:Hid (l5.length=n5):=s;clear h7 s Y;by_cases hcut:301<n5
 ·obtain⟨q5,rfl⟩:∃q5,a5=some ⟨q5,0,none⟩:=h6.resolve_left (by omega);have Aj:(301:Int)<(n5:Int):=by omega
  clear h6;go_wp2;go_ret;rw[X.o];refine⟨some ⟨q5,0,none⟩,k5,?_,?_,fun q hq _=>(H7.o q hq).take 301,U.o⟩
  ·have e:(l5.take 301).length=301:=by rw[List.length_take,G.o];omega
   rw[e];rfl
  ·rw[List.length_take,G.o];omega
 ·have Aj:¬(301:Int)<(n5:Int):=by omega
  clear h6;go_wp2;go_ret;rw[X.o];refine⟨a5,k5,?_,?_,fun q hq _=>(H7.o q hq).take 301,U.o⟩
  ·have e:(l5.take 301).length=n5:=by rw[List.length_take,G.o];omega
   rw[e];rfl
  ·rw[List.length_take,G.o];omega
theorem v0f(t:Tr):y3v t.N t.tl:=⟨k8d t,v0g t⟩
theorem z0t(ds:List Nd)(a:Option Addr)(cap:Nat)(hl:ds.length<=400):∀t:Tr,t.Wf->t.N.length<=400->z7n ds a cap t.N t.tl
 | .leaf ⟨op,tx,n⟩,h,hn=>j0z ds a cap op (q3y h.1 h.2) tx n
 | .one ⟨op,tx,n⟩ a',h,hn=>by
  have hn':a'.N.length<=400:=by simp[Tr.N]at hn;omega
  have D:=z0t ds a cap hl a' h.2.2 hn';rcases q7y h.2.1 with e|e
  all_goals (simp only at e;subst e)
  ·exact y3a ds a cap hl tx n _ _ D
  ·have A:=q3w ds a cap hl a' h.2.2 hn'
   have J:Tr.tl (.one ⟨8,tx,n⟩ a')=fun bs=>((if a'.isFlat=true then bs.map (0::·)else [])++(a'.tl bs).map (1::·)).take 301:=by
    funext bs
    simp[Tr.tl]
   rw[J];cases E:a'.isFlat with
   | true=>rw[E]at A;exact v6l ds a cap hl tx n _ _ _ D (v0f a') A _ (show ∀_,_ from fun bs=>by simp)
   | false=>rw[E]at A;exact v6k ds a cap hl tx n _ _ _ D (v0f a') A _ (show ∀_,_ from fun bs=>by simp)
 | .two ⟨op,tx,n⟩ a' c,h,hn=>by
  have B:a'.N.length<=400:=by simp[Tr.N]at hn;omega
  have C:c.N.length<=400:=by simp[Tr.N]at hn;omega
  have G:=z0t ds a cap hl a' h.2.2.1 B;have H:=z0t ds a cap hl c h.2.2.2 C;rcases q7k h.2.1 with e|e
  all_goals (simp only at e;subst e)
  ·have I:Tr.tl (.two ⟨6,tx,n⟩ a' c)=fun bs=>a'.tl (c.tl bs):=by
    funext bs
    simp[Tr.tl]
   rw[I];exact y2z ds a cap hl tx n _ _ _ _ G H (v0f c) fun i r hd=>q4u h.2.2.1 hd
  ·exact y3b ds a cap hl tx n _ _ _ _ G (v0f a') H (v0f c) (fun i r hd=>q4u h.2.2.1 hd) _ (show ∀_,_ from fun bs=>by simp[Tr.tl])
def q9e(B:Nat)(w:World)(a:Option Addr)(ds:List Nd):Prop:=
 ∀i(h:i<ds.length),∃b o,a=some ⟨b,o,none⟩/\b<B/\w.cell? ⟨b,o+i*3,none⟩=some (.int .i64 ds[i].op)/\w.cell? ⟨b,o+i*3+1,none⟩=some (.string ds[i].tx)/\w.cell? ⟨b,o+i*3+2,none⟩=some (.int .i64 ds[i].n)
theorem q9e.W{B:Nat}{w w':World}{a:Option Addr}{ds:List Nd}(h:q9e B w a ds)(hb:Below B w w'):q9e B w' a ds:=by
 intro i G;obtain⟨b,o,e,A,C,D,E⟩:=h i G;exact⟨b,o,e,A,(hb.cell (p:=⟨b,_,none⟩) A).trans C,(hb.cell (p:=⟨b,_,none⟩) A).trans D,(hb.cell (p:=⟨b,_,none⟩) A).trans E⟩
theorem q9e.nods{B:Nat}{w:World}{a:Option Addr}{ds:List Nd}(h:q9e B w a ds)(hB:B<=w.heap.size):q1u w a ds:=by
 intro i E;obtain⟨b,o,e,G,A,C,D⟩:=h i E;exact⟨b,o,e,by omega,A,C,D⟩
def q3r(B b:Nat)(d:Value)(v:Value)(s:ByteArray)(e:Int)(w:World):Prop:=
 B<=b/\b<w.heap.size/\w.cell? ⟨b,0,none⟩=some d/\w.cell? ⟨b,1,none⟩=some v/\w.cell? ⟨b,2,none⟩=some (.string s)/\w.cell? ⟨b,3,none⟩=some (.int .i64 e)
  /\w.frozen? ⟨b,1,none⟩=false/\w.frozen? ⟨b,2,none⟩=false/\w.frozen? ⟨b,3,none⟩=false
theorem q3r.W{B b:Nat}{d v:Value}{s:ByteArray}{e:Int}{w w':World}(h:q3r B b d v s e w)(hb:Below w w w'):q3r B b d v s e w':=by
 obtain⟨M,A,E,G,H,I,J,K,L⟩:=h;obtain⟨C,D⟩:=q1z hb
 have:=hb.size
 exact⟨M,by omega,(C _ _ A).trans E,(C _ _ A).trans G,(C _ _ A).trans H,(C _ _ A).trans I,(D _ _ A).trans J,(D _ _ A).trans K,(D _ _ A).trans L⟩
theorem q3r.alloc{B b:Nat}{d v:Value}{s:ByteArray}{e:Int}{w:World}(h:q3r B b d v s e w)(O:Obj):q3r B b d v s e (w.alloc O):=h.W (Zb.alloc Zl _)
theorem q3r.drew{B b:Nat}{d v:Value}{s:ByteArray}{e:Int}{w:World}(h:q3r B b d v s e w):q3r B b d v s e w.drew:=h
theorem z0p(w:World)(p:Addr)(v:Value):(w.setCell p v).heap.size=w.heap.size:=by simp[World.setCell]
theorem q3r.text{B b:Nat}{d v:Value}{s:ByteArray}{e:Int}{w:World}(h:q3r B b d v s e w)(s':ByteArray):q3r B b d v s' e (w.setCell ⟨b,2,none⟩ (.string s')):=by
 obtain⟨J,K,A,C,D,E,G,H,I⟩:=h;exact⟨J,by rw[z0p];exact K,(cso (by omega)).trans A,(cso (by omega)).trans C,css D,(cso (by omega)).trans E,csf.trans G,csf.trans H,csf.trans I⟩
theorem q3r.ways{B b:Nat}{d v:Value}{s:ByteArray}{e:Int}{w:World}(h:q3r B b d v s e w)(v':Value):q3r B b d v' s e (w.setCell ⟨b,1,none⟩ v'):=by
 obtain⟨J,K,A,C,D,E,G,H,I⟩:=h;exact⟨J,by rw[z0p];exact K,(cso (by omega)).trans A,css C,(cso (by omega)).trans D,(cso (by omega)).trans E,csf.trans G,csf.trans H,csf.trans I⟩
theorem q3r.fault{B b:Nat}{d v:Value}{s:ByteArray}{e:Int}{w:World}(h:q3r B b d v s e w)(e':Int):q3r B b d v s e' (w.setCell ⟨b,3,none⟩ (.int .i64 e')):=by
 obtain⟨J,K,A,C,D,E,G,H,I⟩:=h;exact⟨J,by rw[z0p];exact K,(cso (by omega)).trans A,(cso (by omega)).trans C,(cso (by omega)).trans D,css E,csf.trans G,csf.trans H,csf.trans I⟩
theorem k8s(n:Nat)(hn:n<=4000)(w:World):Calls prog 225 #[.int .i64 n] w fun e w'=>e=.returned (.string ⟨(List.replicate n 32).toArray⟩)/\w=w':=by
 go_in;go_wp2
 go_loopw [3,4] (fun s i wr=>wr=w/\∃(k:Nat)(t:ByteArray),k<=n/\i=.int .i64 k/\s=.string t/\t.data.toList=List.replicate k 32) (fun _ i _=>n-(intOf i).toNat)
 case atStart=>exact⟨rfl,0,⟨#[]⟩,Nat.zero_le _,rfl,rfl,rfl⟩
 case round=>
  obtain⟨rfl,k,t,E,rfl,rfl,A⟩:=hrel;have D:t.size<=4000:=by rw[<-q0x,A,List.length_replicate];omega
  have B:Hid (t.data.toList=List.replicate k 32):=A;clear A;by_cases C:k<n
  ·go_wp2
   go_roundw
   case rel=>
    refine⟨by trivial,k+1,_,by omega,by go_num,rfl,?_⟩;simp[B.o,List.replicate_succ']
   case measure=>simp[intOf];omega
  ·obtain rfl:k=n:=by omega
   have e:t=⟨(List.replicate k 32).toArray⟩:=q6c (by rw[B.o]);go_wp2;go_ret;exact⟨by rw[<-e];rfl,rfl⟩
theorem z3q{B b:Nat}{d:Value}{wa:Option Addr}{wc:Nat}{s:ByteArray}{w:World}(h:q3r B b d (.slice wa 0 wc) s 0 w):
  Calls prog 226 #[.pointer (some ⟨b,0,none⟩)] w fun e w'=>e=.returned (.int .i64 0)/\q3r B b d (.slice wa 0 wc) s 2 w'/\Below B w w':=by
 have A:Hid (q3r B b d (.slice wa 0 wc) s 0 w):=h;obtain⟨C,L,D,E,G,H,I,J,K⟩:=h;go_in;go_wp2;go_ret;exact⟨rfl,A.o.fault 2,Zb.setCell (p:=⟨b,3,none⟩) C _⟩
theorem q5a{B b:Nat}{d:Value}{wa:Option Addr}{wc:Nat}{s:ByteArray}{w:World}(c:Int)(ws:List Int)(h:q3r B b d (.slice wa (ws.length+1) wc) s 0 w)(hI:q1j B w wa (c::ws))(hc:ws.length+1<=wc):
  Calls prog 226 #[.pointer (some ⟨b,0,none⟩)] w fun e w'=>e=.returned (.int .i64 c)/\(∃wa' wc',q3r B b d (.slice wa' ws.length wc') s 0 w'/\q1j B w' wa' ws/\ws.length<=wc')/\Below B w w':=by
 have I:Hid (q3r B b d (.slice wa (ws.length+1) wc) s 0 w):=h;obtain⟨D,G,M,O,L⟩:=hI 0 (by simp);subst M;have J:Hid (q1j B w (if wc=1 then some ⟨D,G,none⟩else some ⟨D,G+1,none⟩) ws):=hI.slid hc;obtain⟨K,f,S,U,V,X,Y,Z,a⟩:=h;simp only[Nat.add_zero,List.getElem_cons_zero]at L;have Q:(1:Int)<=(ws.length:Int)+1:=by omega
 have P:((ws.length:Int)+1==0)=false:=beq_eq_false_iff_ne.2 (by omega);have N:D≠b:=by omega
 clear hI;by_cases H:wc=1
 ·have R:Hid (wc=1):=H;have A:=J.o;rw[if_pos H]at A;have C:Hid (q1j B w (some ⟨D,G,none⟩) ws):=A;clear A;go_in;go_wp2;go_ret;have E:∀v,Below B w (w.setCell ⟨b,1,none⟩ v):=fun v=> Zb.setCell (p:=⟨b,1,none⟩) K _
  exact⟨rfl,⟨_,_,I.o.ways _,C.o.W (E _),by omega⟩,E _⟩
 ·have A:=J.o;rw[if_neg H]at A;have C:Hid (q1j B w (some ⟨D,G+1,none⟩) ws):=A;clear A;go_in;go_wp2;go_ret;have E:∀v,Below B w (w.setCell ⟨b,1,none⟩ v):=fun v=> Zb.setCell (p:=⟨b,1,none⟩) K _
  exact⟨rfl,⟨_,_,I.o.ways _,C.o.W (E _),by omega⟩,E _⟩
def Laid(B b:Nat)(dv:Value)(res:Except Int (List UInt8 × List Int))(s0:ByteArray)(w':World):Prop:=
 match res with
 | .ok (u,ws')=>∃wa' wc' s',s'.data.toList=s0.data.toList++u/\q3r B b dv (.slice wa' ws'.length wc') s' 0 w'/\q1j B w' wa' ws'/\ws'.length<=wc'
 | .error e=>e≠0/\∃v' s',q3r B b dv v' s' e w'
def q5y(B b:Nat)(ds:List Nd)(a:Option Addr)(cap:Nat)(A:List Nd)(f:Nat->List Int->Except Int (List UInt8 × List Int)):Prop:=
 ∀(i:Nat)(r:List Nd)(deep:Nat)(ws:List Int)(wa:Option Addr)(wc:Nat)(s:ByteArray)(w:World),ds.drop i=A++r->q9e B w a ds->q1j B w wa ws->ws.length<=wc->q3r B b (.slice a ds.length cap) (.slice wa ws.length wc) s 0 w->
  deep+8*A.length<=3300->s.size+4000*A.length<=1000000000->
  Calls prog 189 #[.pointer (some ⟨b,0,none⟩),.int .i64 i,.int .i64 deep] w fun e w'=>e=.returned (.tuple #[])/\Laid B b (.slice a ds.length cap) (f deep ws) s w'/\Below B w w'
theorem q3r.bsize{B b:Nat}{d v:Value}{s:ByteArray}{e:Int}{w:World}(h:q3r B b d v s e w):B<=w.heap.size:=by
 obtain⟨A,C,_⟩:=h;omega
theorem q3r.grown{B b:Nat}{d v:Value}{s:ByteArray}{e:Int}{w w':World}(_h:q3r B b d v s e w)(hb:Below w w w'):Below B w w':=by
 have:=_h.bsize
 exact hb.mono this
theorem j5e{B b:Nat}(ds:List Nd)(a:Option Addr)(cap:Nat){v:Value}{s:ByteArray}{e:Int}(i:Nat)(A:Int)(w:World)(hi:i<ds.length)(hN:q9e B w a ds)(h:q3r B b (.slice a ds.length cap) v s e w)(he:e≠0):
  Calls prog 189 #[.pointer (some ⟨b,0,none⟩),.int .i64 i,.int .i64 A] w fun r w'=>r=.returned (.tuple #[])/\q3r B b (.slice a ds.length cap) v s e w'/\Below B w w':=by
 have C:Hid (q3r B b (.slice a ds.length cap) v s e w):=h;obtain⟨D,W,E,I,N,O,P⟩:=hN i hi;subst E;obtain⟨U,V,J,K,L,M,Q,R,S⟩:=h;have H:(e != 0)=true:=by simp[he]
 have G:D<w.heap.size:=by omega
 clear hN he;go_in;go_wp2;exact bodyPost_ret (v:=.tuple #[]) (by simp[results,Tryz.results189,go_sem]) rfl ⟨rfl,C.o.alloc _,Zb.alloc C.o.bsize _⟩
theorem y8q(B b:Nat)(ds:List Nd)(a:Option Addr)(cap:Nat)(tx:ByteArray)(n:Int):q5y B b ds a cap (⟨5,tx,n⟩::[]) (fun _ ws=>.ok ([],ws)):=by
 intro i r P ws J wc s w U E S I D A H;obtain⟨d,Q,R⟩:=q0t (x:=⟨5,tx,n⟩) (r:=[]++r) U;obtain⟨C,V,Z,e,L,M,N⟩:=E i d;subst Z;rw[Q]at L M N;dsimp only at L M N;simp only[List.length_cons,List.length_nil]at A H;have f:Hid (ds.drop (i+1)=[]++r):=R;have g:Hid (q9e B w (some ⟨C,V,none⟩) ds):=E;have X:Hid (q1j B w J ws):=S;have Y:Hid (q3r B b (.slice (some ⟨C,V,none⟩) ds.length cap) (.slice J ws.length wc) s 0 w):=D;have G:=D.bsize;obtain⟨q,t,h,j,k,l,m,o,p⟩:=D;have c:C<w.heap.size:=by omega
 have K:Hid (∀O:Obj,Below B w (w.alloc O)):=fun O=>(Below.refl _ w).alloc G O
 clear U Q R E S;go_in;go_wp2
 go_end0
 exact⟨rfl,⟨J,wc,s,by simp,Y.o.alloc _,X.o.W (K.o _),I⟩,K.o _⟩
theorem y8p(B b:Nat)(ds:List Nd)(a:Option Addr)(cap:Nat)(tx:ByteArray)(n:Int)(ht:tx.size<=20):q5y B b ds a cap (⟨1,tx,n⟩::[]) (fun _ ws=>.ok (tx.data.toList,ws)):=by
 intro i r P ws K wc s w U H S J G A I;obtain⟨e,Q,R⟩:=q0t (x:=⟨1,tx,n⟩) (r:=[]++r) U;obtain⟨E,V,Z,f,L,M,N⟩:=H i e;subst Z;rw[Q]at L M N;dsimp only at L M N;simp only[List.length_cons,List.length_nil]at A I;have h:Hid (ds.drop (i+1)=[]++r):=R;have j:Hid (q9e B w (some ⟨E,V,none⟩) ds):=H;have X:Hid (q1j B w K ws):=S;have Y:Hid (q3r B b (.slice (some ⟨E,V,none⟩) ds.length cap) (.slice K ws.length wc) s 0 w):=G;have D:=G.bsize;obtain⟨c,y,k,l,m,o,q,t,u⟩:=G;have d:E<w.heap.size:=by omega
 have g:Hid (∀O:Obj,Below B w (w.alloc O)):=fun O=>(Below.refl _ w).alloc D O
 clear U Q R H S;go_in;go_wp2_with fail
 go_region
 all_goals
  go_wp2
  go_end0
  have C:∀(O:Obj)(v:Value),Below B w ((w.setCell ⟨b,2,none⟩ v).alloc O).drew:=fun O v=>Below.drew (((Below.refl B w).setCell (p:=⟨b,2,none⟩) c _).alloc (by rw[z0p];exact D) O)
  exact⟨rfl,⟨K,wc,s++tx,by simp,q3r.drew ((Y.o.text _).alloc _),X.o.W (C _ _),J⟩,C _ _⟩
set_option maxHeartbeats 12000000
theorem k3x(oq:Int)(ho:oq=2\/oq=3\/oq=4)(B b:Nat)(ds:List Nd)(a:Option Addr)(cap:Nat)(tx:ByteArray)(n:Int):q5y B b ds a cap (⟨oq,tx,n⟩::[]) (fun deep ws=>.ok (10::List.replicate deep 32,ws)):=by
 have q:y3t oq:=.mk;rcases ho with rfl|rfl|rfl
 all_goals
  intro i r deep ws P wc s w Z K X N J C M;obtain⟨m,U,V⟩:=q0t (x:=⟨↑q,tx,n⟩) (r:=[]++r) Z;obtain⟨I,c,j,o,Q,R,S⟩:=K i m;subst j;rw[U]at Q R S;dsimp only at Q R S;simp only[List.length_cons,List.length_nil]at C M;have u:Hid (ds.drop (i+1)=[]++r):=V;have y:Hid (q9e B w (some ⟨I,c,none⟩) ds):=K;have f:Hid (q1j B w P ws):=X;have h:Hid (q3r B b (.slice (some ⟨I,c,none⟩) ds.length cap) (.slice P ws.length wc) s 0 w):=J;have E:=J.bsize;obtain⟨k,h1,z,c1,c2,c3,f1,f2,f3⟩:=J;have l:I<w.heap.size:=by omega
  have t:Hid (∀O:Obj,Below B w (w.alloc O)):=fun O=>(Below.refl _ w).alloc E O
  clear Z U V K X;have L:deep<=4000:=by omega
  have G:((⟨(List.replicate deep 32).toArray⟩:ByteArray)).size=deep:=by rw[<-q0x];simp
  generalize A:(⟨(List.replicate deep 32).toArray⟩:ByteArray)=bk at G;have H:Hid (bk.data.toList=List.replicate deep 32):=(show _=_ by rw[<-A]);have g:Hid (∀W:World,Calls prog 225 #[.int .i64 deep] W fun e d=>e=.returned (.string bk)/\W=d):=fun W=>by rw[<-A];exact k8s deep L W
  have Y:bk.size<=4000:=by omega
  clear A G;go_in;go_wp2_with fail
  go_region_with (go_at_call 225;refine(g.o _).mono ?_;rintro e d⟨rfl,rfl⟩)
  all_goals
   go_wp2
   go_end0
   have D:∀(O:Obj)(v:Value),Below B w ((w.setCell ⟨b,2,none⟩ v).alloc O).drew:=fun O v=>Below.drew (((Below.refl B w).setCell (p:=⟨b,2,none⟩) k _).alloc (by rw[z0p];exact E) O)
   refine⟨rfl,?_,D _ _⟩;refine⟨P,wc,_,?_,q3r.drew ((h.o.text _).alloc _),f.o.W (D _ _),N⟩;simp[H.o]
theorem y8r(B b:Nat)(ds:List Nd)(a:Option Addr)(cap:Nat)(hl:ds.length<=400)(tx:ByteArray)(n:Int)(A C:List Nd)(f g:Nat->List Int->Except Int (List UInt8 × List Int))(hA:q5y B b ds a cap A f)(hC:q5y B b ds a cap C g)(hE:∀i r,ds.drop i=A++r->q0o ds i 1=some (i+A.length))(Am:0<C.length)(h:∀deep ws u v,f deep ws=.ok (u,v)->deep+8*A.length<=3300->u.length<=4000*A.length):q5y B b ds a cap (⟨6,tx,n⟩::(A++C)) (q6v f g):=by
 intro i r deep ws wa wc s w hd hN hI m hL R Ah;obtain⟨hi,e1,e2⟩:=q0t (x:=⟨6,tx,n⟩) (r:=(A++C)++r) hd;obtain⟨N,X,ea,Ao,d1,d2,d3⟩:=hN i hi;subst ea;rw[e1]at d1 d2 d3;dsimp only at d1 d2 d3;simp only[List.length_cons,List.length_append]at R Ah;have Y:Hid (ds.drop (i+1)=(A++C)++r):=e2;have V:Hid (q9e B w (some ⟨N,X,none⟩) ds):=hN;have HI:Hid (q1j B w wa ws):=hI;have HL:Hid (q3r B b (.slice (some ⟨N,X,none⟩) ds.length cap) (.slice wa ws.length wc) s 0 w):=hL;have Ae:=hL.bsize;obtain⟨h0,h1,c0,c1,c2,c3,f1,f2,f3⟩:=hL;have An:N<w.heap.size:=by omega
 have U:Hid (∀O:Obj,Below B w (w.alloc O)):=fun O=>(Below.refl _ w).alloc Ae O
 have HA:Hid (q5y B b ds (some ⟨N,X,none⟩) cap A f):=hA;have HC:Hid (q5y B b ds (some ⟨N,X,none⟩) cap C g):=hC;have HX:Hid (((i+1:Nat):Int)=(i:Int)+1):=(show _=_ by omega);rw[List.append_assoc]at Y;have HE:Hid (q0o ds (i+1) 1=some (i+1+A.length)):=hE (i+1) (C++r) Y.o;have L:Hid (ds.drop (i+1+A.length)=C++r):=q7p Y.o
 have HJ:Hid (i+1+A.length<ds.length):=(show _<_ by
  have h1:=congrArg List.length L.o;simp at h1
  omega)
 clear hd e1 e2 hN hI hA hC hE;cases d:f deep ws with
 | error e0=>
  have I:Hid (f deep ws=.error e0):=d;clear d;go_in;go_wp2_with fail;rw[<-HX.o];refine(HA.o (i+1) (C++r) deep ws wa wc s _ Y.o (V.o.W (U.o _)) (HI.o.W (U.o _)) m (HL.o.alloc _) (by omega) (by omega)).mono ?_;rintro e M⟨rfl,D,K⟩;rw[I.o]at D;obtain⟨c,v',s',D⟩:=D;have J:Hid (q3r B b (.slice (some ⟨N,X,none⟩) ds.length cap) v' s' e0 M):=D;have E:Hid (Below B w M):=(U.o _).trans K;have Z:Hid (e0≠0):=c;obtain⟨_,k1,k0,_,_,_,_,_,_⟩:=D;clear K c;go_wp2_with fail;rw[<-HX.o];refine(q4x ds _ cap hl (ds.length+1) (i+1) M ((V.o.W E.o).nods J.o.bsize) (by omega) (by omega)).mono ?_;rintro e w3⟨rfl,rfl⟩;rw[HE.o];have o:v7y (some (i+1+A.length))=((i+1+A.length:Nat):Int):=rfl;rw[o];generalize hj:i+1+A.length=j at L HJ⊢;clear o hj;go_wp2_with fail;refine(j5e ds _ cap j deep M HJ.o (V.o.W E.o) J.o Z.o).mono ?_;rintro e w4⟨rfl,G,Q⟩;go_wp2
  go_end0
  refine⟨rfl,?_,E.o.trans Q⟩;rw[q6v,I.o];exact⟨Z.o,_,_,G⟩
 | ok p=>
  obtain⟨u,H⟩:=p;have I:Hid (f deep ws=.ok (u,H)):=d;have Ap:=h deep ws u H d (by omega);clear d h;go_in;go_wp2_with fail;rw[<-HX.o];refine(HA.o (i+1) (C++r) deep ws wa wc s _ Y.o (V.o.W (U.o _)) (HI.o.W (U.o _)) m (HL.o.alloc _) (by omega) (by omega)).mono ?_;rintro e M⟨rfl,D,K⟩;rw[I.o]at D;obtain⟨S,z,y,P,D,k,Ai⟩:=D;have l:y.size=s.size+u.length:=by rw[<-q0x,<-q0x,P,List.length_append]
  have Ac:Hid (y.size=s.size+u.length):=l;have Aa:Hid (y.data.toList=s.data.toList++u):=P;have J:Hid (q3r B b (.slice (some ⟨N,X,none⟩) ds.length cap) (.slice S H.length z) y 0 M):=D;have Ab:Hid (q1j B M S H):=k;have E:Hid (Below B w M):=(U.o _).trans K;obtain⟨_,k1,k0,_,_,_,_,_,_⟩:=D;clear K k l P;go_wp2_with fail;rw[<-HX.o];refine(q4x ds _ cap hl (ds.length+1) (i+1) M ((V.o.W E.o).nods J.o.bsize) (by omega) (by omega)).mono ?_;rintro e w3⟨rfl,rfl⟩;rw[HE.o];have o:v7y (some (i+1+A.length))=((i+1+A.length:Nat):Int):=rfl;rw[o];generalize hj:i+1+A.length=j at L HJ⊢;clear o hj;go_wp2_with fail;refine(HC.o j r deep H S z y _ L.o (V.o.W E.o) Ab.o Ai J.o (by omega) (by have:=Ac.o;omega)).mono ?_;rintro e w4⟨rfl,G,Q⟩;go_wp2
  go_end0
  refine⟨rfl,?_,E.o.trans Q⟩;rw[q6v,I.o];dsimp only;cases hg:g deep H with
  | error e1=>rw[hg]at G;exact G
  | ok q=>
   obtain⟨t,Aq⟩:=q;rw[hg]at G;obtain⟨Ak,Al,s2,Ad,Ag,Af,Aj⟩:=G;exact⟨Ak,Al,s2,by rw[Ad,Aa.o,List.append_assoc],Ag,Af,Aj⟩
end Go.Proofs.YthcpdohdppkmkaaGreatDoor
