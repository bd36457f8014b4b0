import Derived.Test.YtfdppahhbpfnoaaGreatDoorPi28
import Derived.Test.YtfdppahhbpfnoaaGreatDoorPi09
open Go.Proofs.Tryz
namespace Go.Proofs.YtfdppahhbpfnoaaGreatDoor
open Go Go.RowKit
set_option maxRecDepth 100000
set_option maxHeartbeats 8000000
abbrev ExL(w0:World)(b:Nat)(x:Td)(k:Fo):Prop:=∀(rest:List Td)(w:World),LyE w0 b (x::(k.N++rest)) w->
 Calls prog 136 #[.pointer (some ⟨b,0,none⟩)] w fun e w'=>NdG w0 b w (q0l x k.D).N rest e w'
def EAL(w0:World)(b:Nat):Fo->Prop
 | .nil=>True
 | .cons x k n=>ExL w0 b x k/\EAL w0 b n
theorem LyE.in{w0:World}{b:Nat}{ds:List Td}{w:World}(h:LyE w0 b ds w):b<w.heap.size:=by
 obtain⟨A,c,h⟩:=h;exact h.in
theorem LyE.lk{w0:World}{b:Nat}{ds:List Td}{w:World}(h:LyE w0 b ds w):Lk w0 b w ds w:=⟨But.refl _ _ _,h,h.in⟩
theorem k1m{w0:World}{b:Nat}:∀(K:Fo),EAL w0 b K->K.len≠0->z3h K.D<=1000->K.len<=1000->∀(r:List Td)(w:World),LyE w0 b (K.N++r) w->
  Calls prog 209 #[.pointer (some ⟨b,0,none⟩),.int .i64 (K.len:Int)] w fun e w'=>NdG w0 b w (kdD K.D).N r e w'
 | .nil,_,h0,_,_,_,_,_=>absurd rfl h0
 | .cons y ky .nil,hE,_,_,_,r,w,hW=>by
  have HX:Hid (Calls prog 136 #[.pointer (some ⟨b,0,none⟩)] w fun e w'=>NdG w0 b w (q0l y ky.D).N r e w'):=hE.1 r w (by simpa[Fo.N]using hW);show Calls prog 209 #[.pointer (some ⟨b,0,none⟩),.int .i64 1] w fun e w'=>NdG w0 b w (q0l y ky.D).N r e w'
  generalize(q0l y ky.D).N=xs at HX⊢
  clear hE hW;go_in;go_wp2_with fail;refine HX.o.mono ?_;rintro e w1 h1;have HR:Hid (NdG w0 b w xs r e w1):=h1;obtain⟨v1,rfl,_,_⟩:=h1.val;clear h1;go_wp2;go_ret;exact HR.o
 | .cons y ky (.cons z kz n),hE,_,hs,hkl,r,w,hW=>by
  have hs2:(q0l y ky.D).N.length+z3h (Fo.cons z kz n).D<=1000:=by
   rw[Fo.D,q2l]at hs;have h:(q0l y ky.D).N.length+5+z3h (Fo.cons z kz n).D<=1000:=hs;omega
  have G:=k9y (Fo.cons z kz n).D;have S:n.len<=1000:=by simp only[Fo.len]at hkl;omega
  have HX:Hid (Calls prog 136 #[.pointer (some ⟨b,0,none⟩)] w fun e w'=>NdG w0 b w (q0l y ky.D).N ((Fo.cons z kz n).N++r) e w'):=hE.1 _ w (by simpa[Fo.N]using hW)
  have J:Hid (∀W,LyE w0 b ((Fo.cons z kz n).N++r) W->Calls prog 209 #[.pointer (some ⟨b,0,none⟩),.int .i64 ((n.len:Int)+1)] W fun e w'=>NdG w0 b W (kdD (Fo.cons z kz n).D).N r e w'):=fun W hW=>by
   have h:=k1m (.cons z kz n) hE.2 (by simp[Fo.len]) (by omega) (by simp only[Fo.len]at hkl⊢;omega) r W hW;have e:(((Fo.cons z kz n).len:Nat):Int)=(n.len:Int)+1:=by simp[Fo.len]
   rw[e]at h;exact h
  have A:Hid (Lk w0 b w ((Fo.cons y ky (.cons z kz n)).N++r) w):=hW.lk;have B:Hid ((kdD (Fo.cons y ky (.cons z kz n)).D).N=⟨6,⟨#[]⟩,0⟩::((⟨6,⟨#[]⟩,0⟩::((q0l y ky.D).N++[⟨1,⟨#[44]⟩,0⟩]))++(⟨6,⟨#[]⟩,0⟩::([⟨2,⟨#[]⟩,0⟩]++(kdD (Fo.cons z kz n).D).N)))):=rfl;have E:(((Fo.cons y ky (.cons z kz n)).len:Nat):Int)=(n.len:Int)+1+1:=by simp[Fo.len]
  rw[E]
  generalize(kdD (Fo.cons y ky (.cons z kz n)).D).N=R at B⊢
  generalize(q0l y ky.D).N=xs at HX B hs2
  generalize(kdD (Fo.cons z kz n).D).N=ks at J B G
  generalize(Fo.cons z kz n).N++r=r1 at HX J
  generalize(Fo.cons y ky (.cons z kz n)).N++r=r0 at A
  generalize z3h (Fo.cons z kz n).D=sd at hs2 G;generalize n.len=nl at J S⊢;have q:((nl:Int)+1+1==1)=false:=by simp;omega
  clear hE hW hs hkl E;go_in;go_wp2_with fail;refine(HX.o).mono ?_;rintro e w1 h1;obtain⟨v1,rfl,i,g⟩:=h1.val;replace A:=hid (A.o.then g);have I:=hid i;clear h1 i g;go_wp2_with fail;refine(q2k _ _).mono ?_;rintro e w2 Z;obtain⟨s,rfl,j,M⟩:=Z.valB A.o.in;replace A:=hid (A.o.step M);replace I:=hid (I.o.bel M);have U:=hid j;clear Z j M;go_wp2_with fail;refine(q1m _ I.o.val U.o.val (by first|(simp;done)|(simp;omega))).mono ?_;rintro e w3 a;obtain⟨t,rfl,k,Y⟩:=a.valB A.o.in;replace A:=hid (A.o.step Y);clear I;clear U;have C:=hid k;clear a k Y;go_wp2_with fail;refine(z1w _).mono ?_;rintro e w4 c;obtain⟨u,rfl,l,O⟩:=c.valB A.o.in;replace A:=hid (A.o.step O);replace C:=hid (C.o.bel O);have H:=hid l;clear c l O;go_wp2_with fail;refine(J.o _ A.o.ly).mono ?_;rintro e w5 d;obtain⟨v,rfl,m,L⟩:=d.val;replace A:=hid (A.o.then L);replace C:=hid (C.o.but L.bt);replace H:=hid (H.o.but L.bt);have V:=hid m;clear d m L;go_wp2_with fail;refine(q1m _ H.o.val V.o.val (by first|(simp;done)|(simp;omega))).mono ?_;rintro e w6 f;obtain⟨x,rfl,o,P⟩:=f.valB A.o.in;replace A:=hid (A.o.step P);clear H;clear V;replace C:=hid (C.o.bel P);have X:=hid o;clear f o P;go_wp2_with fail;refine(q1m _ C.o.val X.o.val (by first|(simp;done)|(simp;omega))).mono ?_;rintro e p Q
  have HX:Hid (NdG w0 b w R r e p):=by
   have h:=Q.gof A.o;show NdG w0 b w R r e p;rw[B.o];exact h
  obtain⟨v7,rfl,_,_⟩:=Q.val;clear Q A B C X;go_wp2;go_ret;exact HX.o
theorem y4g(o c:List UInt8)(ps:List (Td × Tr))(h:ps.length=0):(q3j o c ps).N=[⟨1,wbS (o++c),0⟩]:=by rw[q3j,if_pos h];rfl
theorem y1b(o c:List UInt8)(ps:List (Td × Tr))(h:¬ps.length=0):(q3j o c ps).N=⟨8,⟨#[]⟩,0⟩::(⟨6,⟨#[]⟩,0⟩::([⟨1,wbS o,0⟩]++(⟨6,⟨#[]⟩,0⟩::((⟨7,⟨#[]⟩,2⟩::(⟨6,⟨#[]⟩,0⟩::([⟨3,⟨#[]⟩,0⟩]++(kdD ps).N)))++(⟨6,⟨#[]⟩,0⟩::([⟨3,⟨#[]⟩,0⟩]++[⟨1,wbS c,0⟩])))))):=by rw[q3j,if_neg h];rfl
theorem z2o{w0:World}{b:Nat}(K:Fo)(hE:EAL w0 b K)(hs:z3h K.D<=1000)(I:K.len<=1000)(o c:ByteArray)(ho:o.size<=100)(hc:c.size<=100)(r:List Td)(w:World)(hW:LyE w0 b (K.N++r) w):
  Calls prog 183 #[.pointer (some ⟨b,0,none⟩),.string o,.int .i64 (K.len:Int),.string c] w fun e w'=>NdG w0 b w (q3j (btL o) (btL c) K.D).N r e w':=by
 have A:Hid (Lk w0 b w (K.N++r) w):=hW.lk;by_cases G:K.len=0
 ·have B:Hid ((q3j (btL o) (btL c) K.D).N=[⟨1,o++c,0⟩]):=by
   show _=_;rw[y4g _ _ _ (by rw[q6t];exact G)];have e:wbS (btL o++btL c)=o++c:=by rw[<-q1z,z1d,z1d]
   rw[e]
  have hr:K.N++r=r:=by
   cases K with
   | nil=>rfl
   | cons=>simp[Fo.len]at G
  rw[hr]at A;rw[G]
  generalize(q3j (btL o) (btL c) K.D).N=R at B⊢
  clear hE hs I G hr hW;have Ab:¬9223372036854775807<o.size+c.size:=by omega
  go_in;go_wp2_with fail;refine(q2k _ _).mono ?_;rintro e i J
  have a:Hid (NdG w0 b w R r e i):=by
   have h:=J.gof A.o;show NdG w0 b w R r e i;rw[B.o];exact h
  obtain⟨v1,rfl,_,_⟩:=J.val;clear J A B;go_wp2;go_ret;exact a.o
 ·have B:Hid ((q3j (btL o) (btL c) K.D).N=⟨8,⟨#[]⟩,0⟩::(⟨6,⟨#[]⟩,0⟩::([⟨1,o,0⟩]++(⟨6,⟨#[]⟩,0⟩::((⟨7,⟨#[]⟩,2⟩::(⟨6,⟨#[]⟩,0⟩::([⟨3,⟨#[]⟩,0⟩]++(kdD K.D).N)))++(⟨6,⟨#[]⟩,0⟩::([⟨3,⟨#[]⟩,0⟩]++[⟨1,c,0⟩]))))))):=by
   show _=_;rw[y1b _ _ _ (by rw[q6t];exact G),z1d,z1d]
  have X:Hid (∀W,LyE w0 b (K.N++r) W->Calls prog 209 #[.pointer (some ⟨b,0,none⟩),.int .i64 (K.len:Int)] W fun e w'=>NdG w0 b W (kdD K.D).N r e w'):=fun W hW=>k1m K hE G hs I r W hW
  have P:=k9y K.D
  generalize(q3j (btL o) (btL c) K.D).N=R at B⊢
  generalize(kdD K.D).N=ks at X B P
  generalize z3h K.D=sd at hs P;generalize K.N++r=r0 at A X;generalize K.len=kl at X G⊢;have Aa:((kl:Int)==0)=false:=by simp;omega
  clear hE I hW;go_in;go_wp2_with fail;refine(k1o _).mono ?_;rintro e i J;obtain⟨v1,rfl,n1,q⟩:=J.valB A.o.in;replace A:=hid (A.o.step q);have U:=hid n1;clear J n1 q;go_wp2_with fail;refine(X.o _ A.o.ly).mono ?_;rintro e w2 u;obtain⟨v2,rfl,n2,g⟩:=u.val;replace A:=hid (A.o.then g);replace U:=hid (U.o.but g.bt);have p:=hid n2;clear u n2 g;go_wp2_with fail;refine(q1m _ U.o.val p.o.val (by first|(simp;done)|(simp;omega))).mono ?_;rintro e w3 v;obtain⟨v3,rfl,n3,s⟩:=v.valB A.o.in;replace A:=hid (A.o.step s);clear U;clear p;have j:=hid n3;clear v n3 s;go_wp2_with fail;refine(q9n _ j.o.val (by first|(simp;done)|(simp;omega))).mono ?_;rintro e w4 x;obtain⟨v4,rfl,n4,t⟩:=x.valB A.o.in;replace A:=hid (A.o.step t);clear j;have C:=hid n4;clear x n4 t;go_wp2_with fail;refine(q2k _ _).mono ?_;rintro e w5 y;obtain⟨v5,rfl,n5,d⟩:=y.valB A.o.in;replace A:=hid (A.o.step d);replace C:=hid (C.o.bel d);have E:=hid n5;clear y n5 d;go_wp2_with fail;refine(k1o _).mono ?_;rintro e w6 z;obtain⟨v6,rfl,n6,Y⟩:=z.valB A.o.in;replace A:=hid (A.o.step Y);replace C:=hid (C.o.bel Y);replace E:=hid (E.o.bel Y);have V:=hid n6;clear z n6 Y;go_wp2_with fail;refine(q2k _ _).mono ?_;rintro e w7 h7;obtain⟨v7,rfl,n7,M⟩:=h7.valB A.o.in;replace A:=hid (A.o.step M);replace C:=hid (C.o.bel M);replace E:=hid (E.o.bel M);replace V:=hid (V.o.bel M);have k:=hid n7;clear h7 n7 M;go_wp2_with fail;refine(q1m _ V.o.val k.o.val (by first|(simp;done)|(simp;omega))).mono ?_;rintro e w8 h8;obtain⟨v8,rfl,n8,Z⟩:=h8.valB A.o.in;replace A:=hid (A.o.step Z);clear V;clear k;replace C:=hid (C.o.bel Z);replace E:=hid (E.o.bel Z);have l:=hid n8;clear h8 n8 Z;go_wp2_with fail;refine(q1m _ C.o.val l.o.val (by first|(simp;done)|(simp;omega))).mono ?_;rintro e w9 h9;obtain⟨v9,rfl,n9,f⟩:=h9.valB A.o.in;replace A:=hid (A.o.step f);clear C;clear l;replace E:=hid (E.o.bel f);have m:=hid n9;clear h9 n9 f;go_wp2_with fail;refine(q1m _ E.o.val m.o.val (by first|(simp;done)|(simp;omega))).mono ?_;rintro e Ae O;obtain⟨Ac,rfl,Q,L⟩:=O.valB A.o.in;replace A:=hid (A.o.step L);clear E;clear m;have n:=hid Q;clear O Q L;go_wp2_with fail;refine(z1y _ n.o.val (by first|(simp;done)|(simp;omega))).mono ?_;rintro e S H
  have a:Hid (NdG w0 b w R r e S):=by
   have h:=H.gof A.o;show NdG w0 b w R r e S;rw[B.o];exact h
  obtain⟨Ad,rfl,_,_⟩:=H.val;clear H A B n;go_wp2;go_ret;exact a.o
theorem y0g{l:Nat}{x:Td}{D:Tr}(h:prc x<l):(inD l x D).N=⟨6,⟨#[]⟩,0⟩::([⟨1,⟨#[40]⟩,0⟩]++(⟨6,⟨#[]⟩,0⟩::(D.N++[⟨1,⟨#[41]⟩,0⟩]))):=by
 rw[inD,if_pos h];rfl
theorem y4a{l:Nat}{x:Td}{D:Tr}(h:¬prc x<l):(inD l x D).N=D.N:=by rw[inD,if_neg h]
theorem k1n{w0:World}{b:Nat}{y:Td}{k:Fo}(hX:ExL w0 b y k)(hz:(q0l y k.D).N.length<=1000)(op:Int)(O:op=5\/op=6)(s:Bool)(r:List Td)(w:World)(hW:LyE w0 b (y::(k.N++r)) w):
  Calls prog 210 #[.pointer (some ⟨b,0,none⟩),.int .i64 op,.bool s] w fun e w'=>NdG w0 b w (inD ((op-5).toNat+s.toNat) y (q0l y k.D)).N r e w':=by
 have B:Hid (∀W,Calls prog 206 #[.int .i64 y.op,.int .i64 op,.bool s] W fun e w'=>e=.returned (.bool (decide (prc y<(op-5).toNat+s.toNat)))/\W=w'):=fun W=>(j6o y op O s W).mono fun _ _ h=>⟨h.1,h.2.symm⟩
 have M:Hid (Calls prog 136 #[.pointer (some ⟨b,0,none⟩)] w fun e w'=>NdG w0 b w (q0l y k.D).N r e w'):=hX r w hW;have E:Hid (Lk w0 b w (y::(k.N++r)) w):=hW.lk;obtain⟨A,c,h⟩:=hW;obtain⟨t,u,rfl,X,U,_,_⟩:=h.td 0 (by simp);simp only[List.getElem_cons_zero,Nat.zero_mul,Nat.add_zero]at U;obtain⟨d,_⟩:=q1y h.bl;have e0:w.cell? ⟨t,u,none⟩=some (.int .i64 y.op):=(d _ _ X).trans U;have cR:w.cell? ⟨b,0,none⟩=some (.slice (some ⟨t,u,none⟩) (y::(k.N++r)).length c):=by rw[Lib.cell_of_heap h.x];rfl
 generalize j:(y::(k.N++r)).length=n at cR;have Aa:0<n:=by rw[<-j];simp
 have Ab:(0:Int)<(n:Int):=by omega
 have H:Hid (prc y<(op-5).toNat+s.toNat->(inD ((op-5).toNat+s.toNat) y (q0l y k.D)).N=⟨6,⟨#[]⟩,0⟩::([⟨1,⟨#[40]⟩,0⟩]++(⟨6,⟨#[]⟩,0⟩::((q0l y k.D).N++[⟨1,⟨#[41]⟩,0⟩])))):=y0g;have C:Hid (¬prc y<(op-5).toNat+s.toNat->(inD ((op-5).toNat+s.toNat) y (q0l y k.D)).N=(q0l y k.D).N):=y4a
 generalize(inD ((op-5).toNat+s.toNat) y (q0l y k.D)).N=R at H C⊢
 generalize(q0l y k.D).N=xs at M H C hz
 generalize y::(k.N++r)=r0 at E
 generalize(op-5).toNat+s.toNat=lv at B H C
 generalize prc y=py at B H C;generalize y.op=yo at B e0;clear h d U O j hX;by_cases L:py<lv
 ·have G:=(show Hid (_=_)from H.o L);rw[decide_eq_true L]at B;clear H C L;go_in;go_wp2_with fail;refine(B.o _).mono ?_;rintro e w1⟨rfl,rfl⟩;go_wp2_with fail;refine(M.o).mono ?_;rintro e Y K;obtain⟨v2,rfl,m,l⟩:=K.val;replace E:=hid (E.o.then l);have J:=hid m;clear K m l;go_wp2_with fail;refine(q2k _ _).mono ?_;rintro e w3 f;obtain⟨v3,rfl,o,Q⟩:=f.valB E.o.in;replace E:=hid (E.o.step Q);replace J:=hid (J.o.bel Q);have I:=hid o;clear f o Q;go_wp2_with fail;refine(q2k _ _).mono ?_;rintro e w4 g;obtain⟨v4,rfl,p,P⟩:=g.valB E.o.in;replace E:=hid (E.o.step P);replace J:=hid (J.o.bel P);replace I:=hid (I.o.bel P);have Z:=hid p;clear g p P;go_wp2_with fail;refine(q1m _ J.o.val Z.o.val (by first|(simp;done)|(simp;omega))).mono ?_;rintro e w5 i;obtain⟨v5,rfl,q,S⟩:=i.valB E.o.in;replace E:=hid (E.o.step S);clear J;clear Z;replace I:=hid (I.o.bel S);have a:=hid q;clear i q S;go_wp2_with fail;refine(q1m _ I.o.val a.o.val (by first|(simp;done)|(simp;omega))).mono ?_;rintro e v V
  have M:Hid (NdG w0 b w R r e v):=by
   have h:=V.gof E.o;show NdG w0 b w R r e v;rw[G.o];exact h
  obtain⟨v6,rfl,_,_⟩:=V.val;clear V E G I a;go_wp2;go_ret;exact M.o
 ·have G:=(show Hid (_=_)from C.o L);rw[decide_eq_false L]at B;clear H C L;go_in;go_wp2_with fail;refine(B.o _).mono ?_;rintro e w1⟨rfl,rfl⟩;go_wp2_with fail;refine M.o.mono ?_;rintro e Y K
  have z:Hid (NdG w0 b w R r e Y):=by
   show NdG w0 b w R r e Y;rw[G.o];exact K
  obtain⟨v2,rfl,_,_⟩:=K.val;clear K;go_wp2;go_ret;exact z.o
theorem z6q{w0:World}{b:Nat}{y z:Td}{k l:Fo}(hX:ExL w0 b y k)(hZ:ExL w0 b z l)(J:(q0l y k.D).N.length<=1000)(K:(q0l z l.D).N.length<=1000)(op:Int)(E:op=5\/op=6)(m:ByteArray)(r:List Td)(w:World)
  (hW:LyE w0 b (y::(k.N++(z::(l.N++r)))) w):
  Calls prog 184 #[.pointer (some ⟨b,0,none⟩),.int .i64 op,.string m] w fun e w'=>NdG w0 b w (grD (twD (inD (op-5).toNat y (q0l y k.D)) (dpD (twD blD (twD (wdD (btL m)) (inD ((op-5).toNat+1) z (q0l z l.D))))))).N r e w':=by
 have Q:Hid (Calls prog 210 #[.pointer (some ⟨b,0,none⟩),.int .i64 op,.bool false] w fun e w'=>NdG w0 b w (inD (op-5).toNat y (q0l y k.D)).N (z::(l.N++r)) e w'):=k1n hX J op E false _ w hW;have S:Hid (∀W,LyE w0 b (z::(l.N++r)) W->Calls prog 210 #[.pointer (some ⟨b,0,none⟩),.int .i64 op,.bool true] W fun e w'=>NdG w0 b W (inD ((op-5).toNat+1) z (q0l z l.D)).N r e w'):=fun W hW=>k1n hZ K op E true _ W hW
 have A:Hid (Lk w0 b w (y::(k.N++(z::(l.N++r)))) w):=hW.lk;have L:=k9x (op-5).toNat y (q0l y k.D);have M:=k9x ((op-5).toNat+1) z (q0l z l.D)
 have C:Hid ((grD (twD (inD (op-5).toNat y (q0l y k.D)) (dpD (twD blD (twD (wdD (btL m)) (inD ((op-5).toNat+1) z (q0l z l.D))))))).N=⟨8,⟨#[]⟩,0⟩::(⟨6,⟨#[]⟩,0⟩::((inD (op-5).toNat y (q0l y k.D)).N++(⟨7,⟨#[]⟩,2⟩::(⟨6,⟨#[]⟩,0⟩::([⟨2,⟨#[]⟩,0⟩]++(⟨6,⟨#[]⟩,0⟩::([⟨1,m,0⟩]++(inD ((op-5).toNat+1) z (q0l z l.D)).N)))))))):=by
  show _=_;have e:wbS (btL m)=m:=z1d m;simp only[Tr.N,e]
 generalize(grD (twD (inD (op-5).toNat y (q0l y k.D)) (dpD (twD blD (twD (wdD (btL m)) (inD ((op-5).toNat+1) z (q0l z l.D))))))).N=R at C⊢
 generalize(inD (op-5).toNat y (q0l y k.D)).N=xs at Q C L
 generalize(inD ((op-5).toNat+1) z (q0l z l.D)).N=ys at S C M
 have Aa:xs.length<=1004:=by omega
 have Ab:ys.length<=1004:=by omega
 generalize z::(l.N++r)=r1 at Q S A;generalize y::(k.N++r1)=r0 at A;clear hX hZ J K hW L M E;go_in;go_wp2_with fail;refine(Q.o).mono ?_;rintro e w1 i;obtain⟨v1,rfl,L,u⟩:=i.val;replace A:=hid (A.o.then u);have B:=hid L;clear i L u;go_wp2_with fail;refine(S.o _ A.o.ly).mono ?_;rintro e w2 j;obtain⟨v2,rfl,M,Y⟩:=j.val;replace A:=hid (A.o.then Y);replace B:=hid (B.o.but Y.bt);have H:=hid M;clear j M Y;go_wp2_with fail;refine(z1w _).mono ?_;rintro e w3 n;obtain⟨v3,rfl,v,O⟩:=n.valB A.o.in;replace A:=hid (A.o.step O);replace B:=hid (B.o.bel O);replace H:=hid (H.o.bel O);have G:=hid v;clear n v O;go_wp2_with fail;refine(q2k _ _).mono ?_;rintro e w4 o;obtain⟨v4,rfl,x,I⟩:=o.valB A.o.in;replace A:=hid (A.o.step I);replace B:=hid (B.o.bel I);replace H:=hid (H.o.bel I);replace G:=hid (G.o.bel I);have f:=hid x;clear o x I;go_wp2_with fail;refine(q1m _ f.o.val H.o.val (by first|(simp;done)|(simp;omega))).mono ?_;rintro e w5 p;obtain⟨v5,rfl,n5,P⟩:=p.valB A.o.in;replace A:=hid (A.o.step P);clear f;clear H;replace B:=hid (B.o.bel P);replace G:=hid (G.o.bel P);have Z:=hid n5;clear p n5 P;go_wp2_with fail;refine(q1m _ G.o.val Z.o.val (by first|(simp;done)|(simp;omega))).mono ?_;rintro e w6 q;obtain⟨v6,rfl,n6,U⟩:=q.valB A.o.in;replace A:=hid (A.o.step U);clear G;clear Z;replace B:=hid (B.o.bel U);have a:=hid n6;clear q n6 U;go_wp2_with fail;refine(q9n _ a.o.val (by first|(simp;done)|(simp;omega))).mono ?_;rintro e w7 s;obtain⟨v7,rfl,n7,V⟩:=s.valB A.o.in;replace A:=hid (A.o.step V);clear a;replace B:=hid (B.o.bel V);have c:=hid n7;clear s n7 V;go_wp2_with fail;refine(q1m _ B.o.val c.o.val (by first|(simp;done)|(simp;omega))).mono ?_;rintro e w8 t;obtain⟨v8,rfl,n8,g⟩:=t.valB A.o.in;replace A:=hid (A.o.step g);clear B;clear c;have d:=hid n8;clear t n8 g;go_wp2_with fail;refine(z1y _ d.o.val (by first|(simp;done)|(simp;omega))).mono ?_;rintro e w9 X
 have HX:Hid (NdG w0 b w R r e w9):=by
  have h:=X.gof A.o;show NdG w0 b w R r e w9;rw[C.o];exact h
 obtain⟨v9,rfl,_,_⟩:=X.val;clear X A C d;go_wp2;go_ret;exact HX.o
theorem v3o{w0:World}{b:Nat}(ht:j1n w0)(n:Int)(h0:0<=n)(h9:n<=999999)(tx:ByteArray):ExL w0 b ⟨1,tx,n⟩ Fo.nil:=by
 intro r w O;have J:Hid (Calls prog 134 #[.pointer (some ⟨b,0,none⟩)] w fun e w'=>e=.returned (tdV ⟨1,tx,n⟩)/\Lk w0 b w (Fo.nil.N++r) w'):=q4h O;have Q:Hid (j1n w0):=ht;clear ht;generalize M:(q0l ⟨1,tx,n⟩ Fo.nil.D).N=R;have E:Hid ((q0l ⟨1,tx,n⟩ Fo.nil.D).N=R):=M;clear O M;go_in;go_wp2_with fail;refine J.o.mono ?_;rintro e B⟨rfl,G⟩
 have I:Hid (∀W:World,Below B B W->Calls prog 131 #[.int .i64 n] W fun e w'=>e=.returned (.string (wbS (q7t n.toNat)))/\Below W W w'):=fun W hb=>v3d n h0 h9 W (by
  obtain⟨A,c,U⟩:=G.ly
  exact(Q.o.W U.bl).W hb)
 have K:Hid (∀W:World,Below B B W->Calls prog 137 #[.string (wbS (q7t n.toNat))] W fun e w'=>NdG w0 b w R r e w'):=fun W hb=>(q2k _ W).mono fun e w' h=>by
  rw[<-E.o];exact h.gof (G.step hb)
 generalize wbS (q7t n.toNat)=S at I K;clear G J;go_wp2_with fail;refine(I.o _ (q4b B _)).mono ?_;rintro e V⟨rfl,L⟩;have C:Hid (Below B B V):=q0d (q4b B _) Zl L;clear L;go_wp2_with fail;refine(K.o _ C.o).mono ?_;rintro e Y H;have P:=hid H;obtain⟨X,rfl,_,_⟩:=H.val;clear H;go_wp2;go_ret;exact P.o
theorem j5w{w0:World}{b:Nat}(tx:ByteArray)(Q:tx.size<=100)(n:Int):ExL w0 b ⟨2,tx,n⟩ Fo.nil:=by
 intro r w K;have G:Hid (Calls prog 134 #[.pointer (some ⟨b,0,none⟩)] w fun e w'=>e=.returned (tdV ⟨2,tx,n⟩)/\Lk w0 b w (Fo.nil.N++r) w'):=q4h K;generalize J:(q0l ⟨2,tx,n⟩ Fo.nil.D).N=R;have C:Hid ((q0l ⟨2,tx,n⟩ Fo.nil.D).N=R):=J;clear K J;go_in;go_wp2_with fail;refine G.o.mono ?_;rintro e A⟨rfl,I⟩;have L:Hid (∀W:World,Calls prog 78 #[.string tx] W fun e w'=>e=.returned (.string tx)/\Below W W w'):=fun W=>q8p tx W (by omega)
 have O:Hid (∀W:World,Below A A W->Calls prog 137 #[.string tx] W fun e w'=>NdG w0 b w R r e w'):=fun W hb=>(q2k _ W).mono fun e w' h=>by
  have P:(q0l ⟨2,tx,n⟩ Fo.nil.D).N=[⟨1,tx,0⟩]:=by
   show [(⟨1,wbS (btL tx),0⟩:Nd)]=_;rw[z1d]
  rw[<-C.o,P];exact h.gof (I.step hb)
 clear I G;go_wp2_with fail;refine(L.o _).mono ?_;rintro e S⟨rfl,H⟩;have B:Hid (Below A A S):=q0d (q4b A _) Zl H;clear H;go_wp2_with fail;refine(O.o _ B.o).mono ?_;rintro e V E;have M:=hid E;obtain⟨U,rfl,_,_⟩:=E.val;clear E;go_wp2;go_ret;exact M.o
theorem j5v{w0:World}{b:Nat}{F:Fo}(tx:ByteArray)(hE:EAL w0 b F)(hs:z3h F.D<=1000)(E:F.len<=1000):ExL w0 b ⟨4,tx,(F.len:Int)⟩ F:=by
 intro r w J;have H:Hid (Calls prog 134 #[.pointer (some ⟨b,0,none⟩)] w fun e w'=>e=.returned (tdV ⟨4,tx,(F.len:Int)⟩)/\Lk w0 b w (F.N++r) w'):=q4h J;generalize I:(q0l ⟨4,tx,(F.len:Int)⟩ F.D).N=R;have A:Hid ((q0l ⟨4,tx,(F.len:Int)⟩ F.D).N=R):=I;clear J I;go_in;go_wp2_with fail;refine H.o.mono ?_;rintro e G⟨rfl,B⟩
 have L:Hid (∀W:World,Below G G W->Calls prog 183 #[.pointer (some ⟨b,0,none⟩),.string ⟨#[91]⟩,.int .i64 (F.len:Int),.string ⟨#[93]⟩] W fun e w'=>NdG w0 b w R r e w'):=fun W hb=>(z2o F hE hs E ⟨#[91]⟩ ⟨#[93]⟩ (by decide) (by decide) r W (B.step hb).ly).mono fun e w' h=>by
  have M:q0l ⟨4,tx,(F.len:Int)⟩ F.D=q3j (btL ⟨#[91]⟩) (btL ⟨#[93]⟩) F.D:=rfl;rw[<-A.o,M];exact NdG.then (B.step hb) h
 clear B H hE hs;go_wp2_with fail;refine(L.o _ (q4b G _)).mono ?_;rintro e P C;have K:=hid C;obtain⟨O,rfl,_,_⟩:=C.val;clear C;go_wp2;go_ret;exact K.o
theorem j2w(tx:ByteArray):btL (tx++(⟨#[40]⟩:ByteArray))=btL tx++[40]:=by
 have e:wbS (btL tx)++wbS [40]=wbS (btL tx++[40]):=q1z _ _;rw[z1d]at e;have A:tx++(⟨#[40]⟩:ByteArray)=wbS (btL tx++[40]):=e;rw[A];rfl
theorem y1v(tx:ByteArray):(tx++(⟨#[40]⟩:ByteArray)).size=tx.size+1:=by
 rw[<-q0c,j2w,List.length_append,q0c];rfl
theorem j5u{w0:World}{b:Nat}{F:Fo}(tx:ByteArray)(P:tx.size<=80)(hE:EAL w0 b F)(hs:z3h F.D<=1000)(E:F.len<=1000):ExL w0 b ⟨3,tx,(F.len:Int)⟩ F:=by
 intro r w J;have H:Hid (Calls prog 134 #[.pointer (some ⟨b,0,none⟩)] w fun e w'=>e=.returned (tdV ⟨3,tx,(F.len:Int)⟩)/\Lk w0 b w (F.N++r) w'):=q4h J;generalize I:(q0l ⟨3,tx,(F.len:Int)⟩ F.D).N=R;have A:Hid ((q0l ⟨3,tx,(F.len:Int)⟩ F.D).N=R):=I;clear J I;go_in;go_wp2_with fail;refine H.o.mono ?_;rintro e G⟨rfl,B⟩
 have L:Hid (∀W:World,Below G G W->Calls prog 183 #[.pointer (some ⟨b,0,none⟩),.string (tx++(⟨#[40]⟩:ByteArray)),.int .i64 (F.len:Int),.string ⟨#[41]⟩] W fun e w'=>NdG w0 b w R r e w'):=fun W hb=>(z2o F hE hs E (tx++(⟨#[40]⟩:ByteArray)) ⟨#[41]⟩ (by rw[y1v];omega) (by decide) r W (B.step hb).ly).mono fun e w' h=>by
  have M:q0l ⟨3,tx,(F.len:Int)⟩ F.D=q3j (btL (tx++(⟨#[40]⟩:ByteArray))) (btL ⟨#[41]⟩) F.D:=by rw[j2w];rfl
  rw[<-A.o,M];exact NdG.then (B.step hb) h
 have O:¬9223372036854775807<tx.size+1:=by omega
 clear B H hE hs;go_wp2_with fail;refine(L.o _ (q4b G _)).mono ?_;rintro e S C;have K:=hid C;obtain⟨Q,rfl,_,_⟩:=C.val;clear C;go_wp2;go_ret;exact K.o
theorem v3p{w0:World}{b:Nat}{y z:Td}{k l:Fo}(tx:ByteArray)(n:Int)(hX:ExL w0 b y k)(hZ:ExL w0 b z l)(B:(q0l y k.D).N.length<=1000)(C:(q0l z l.D).N.length<=1000):ExL w0 b ⟨5,tx,n⟩ (Fo.cons y k (.cons z l .nil)):=by
 intro r w M;have K:Hid (Calls prog 134 #[.pointer (some ⟨b,0,none⟩)] w fun e w'=>e=.returned (tdV ⟨5,tx,n⟩)/\Lk w0 b w ((Fo.cons y k (.cons z l .nil)).N++r) w'):=q4h M;generalize L:(q0l ⟨5,tx,n⟩ (Fo.cons y k (.cons z l .nil)).D).N=R;have E:Hid ((q0l ⟨5,tx,n⟩ (Fo.cons y k (.cons z l .nil)).D).N=R):=L;clear M L;go_in;go_wp2_with fail;refine K.o.mono ?_;rintro e J⟨rfl,G⟩
 have P:Hid (∀W:World,Below J J W->Calls prog 184 #[.pointer (some ⟨b,0,none⟩),.int .i64 5,.string ⟨#[43,32]⟩] W fun e w'=>NdG w0 b w R r e w'):=fun W hb=>by
  rw[<-E.o];have A:=(G.step hb).ly;have I:(Fo.cons y k (.cons z l .nil)).N++r=y::(k.N++(z::(l.N++r))):=by simp[Fo.N]
  rw[I]at A;exact(z6q hX hZ B C 5 (by decide) ⟨#[43,32]⟩ r W A).mono fun e w' h=>NdG.then (G.step hb) h
 clear G K hX hZ B C;go_wp2_with fail;refine(P.o _ (q4b J _)).mono ?_;rintro e S H;have O:=hid H;obtain⟨Q,rfl,_,_⟩:=H.val;clear H;go_wp2;go_ret;exact O.o
theorem v3n{w0:World}{b:Nat}{y z:Td}{k l:Fo}(tx:ByteArray)(n:Int)(hX:ExL w0 b y k)(hZ:ExL w0 b z l)(B:(q0l y k.D).N.length<=1000)(C:(q0l z l.D).N.length<=1000):ExL w0 b ⟨6,tx,n⟩ (Fo.cons y k (.cons z l .nil)):=by
 intro r w M;have K:Hid (Calls prog 134 #[.pointer (some ⟨b,0,none⟩)] w fun e w'=>e=.returned (tdV ⟨6,tx,n⟩)/\Lk w0 b w ((Fo.cons y k (.cons z l .nil)).N++r) w'):=q4h M;generalize L:(q0l ⟨6,tx,n⟩ (Fo.cons y k (.cons z l .nil)).D).N=R;have E:Hid ((q0l ⟨6,tx,n⟩ (Fo.cons y k (.cons z l .nil)).D).N=R):=L;clear M L;go_in;go_wp2_with fail;refine K.o.mono ?_;rintro e J⟨rfl,G⟩
 have P:Hid (∀W:World,Below J J W->Calls prog 184 #[.pointer (some ⟨b,0,none⟩),.int .i64 6,.string ⟨#[42,32]⟩] W fun e w'=>NdG w0 b w R r e w'):=fun W hb=>by
  rw[<-E.o];have A:=(G.step hb).ly;have I:(Fo.cons y k (.cons z l .nil)).N++r=y::(k.N++(z::(l.N++r))):=by simp[Fo.N]
  rw[I]at A;exact(z6q hX hZ B C 6 (by decide) ⟨#[42,32]⟩ r W A).mono fun e w' h=>NdG.then (G.step hb) h
 clear G K hX hZ B C;go_wp2_with fail;refine(P.o _ (q4b J _)).mono ?_;rintro e S H;have O:=hid H;obtain⟨Q,rfl,_,_⟩:=H.val;clear H;go_wp2;go_ret;exact O.o
theorem k7u(x:Td)(k n:Fo):z3h k.D<=20*(Fo.cons x k n).N.length/\(q0l x k.D).N.length<=20*(Fo.cons x k n).N.length:=by
 have h:=z6a (.cons x k n);have B:=z6a k;rw[Fo.D,q2l]at h;have e:(x,q0l x k.D).2=q0l x k.D:=rfl;rw[e]at h;have A:k.N.length<=(Fo.cons x k n).N.length:=by simp only[Fo.N,List.length_cons,List.length_append];omega
 omega
theorem z8o{w0:World}{b:Nat}(ht:j1n w0):∀F:Fo,F.ok->F.exs->F.N.length<=50->EAL w0 b F
 | .nil,_,_,_=>trivial
 | .cons x k n,hok,hex,hlen=>by
  have hl1:k.N.length+n.N.length+1<=50:=by simp only[Fo.N,List.length_cons,List.length_append]at hlen;omega
  have J:EAL w0 b k:=z8o ht k hok.2.1 (fun y hy=>hex y (by simp[Fo.N,hy])) (by omega);have M:EAL w0 b n:=z8o ht n hok.2.2 (fun y hy=>hex y (by simp[Fo.N,hy])) (by omega);refine⟨?_,M⟩;have O:=hex x (by simp[Fo.N]);have A:=hok.1;have H:z3h k.D<=1000:=by have:=(k7u x k n).1;omega
  obtain⟨P,K,m⟩:=x;rcases q6f O with⟨B,E,G,I,C⟩|⟨B,E,G,C⟩|⟨B,E,G,I,C⟩|⟨B,E,G,I,C⟩|⟨B,E,G,C⟩|⟨B,E,G,C⟩
  ·rw[C]at A;cases k with
   | cons=>simp[Fo.len]at A
   | nil=>
    dsimp only at B G I;subst B;exact v3o ht m G I K
  ·rw[C]at A;cases k with
   | cons=>simp[Fo.len]at A
   | nil=>
    dsimp only at B E;subst B;have L:=q5q E;rw[q0c]at L;exact j5w K (by omega) m
  ·rw[C]at A;dsimp only at B E G I A;subst B
   have:m=(k.len:Int):=by omega
   subst this;have L:=q5q E;rw[q0c]at L;exact j5u K (by omega) J H (by omega)
  ·rw[C]at A;dsimp only at B G I A;subst B
   have:m=(k.len:Int):=by omega
   subst this;exact j5v K J H (by omega)
  all_goals
   rw[C]at A;dsimp only at B;subst B;cases k with
   | nil=>simp[Fo.len]at A
   | cons y ky r=>
    cases r with
    | nil=>simp[Fo.len]at A
    | cons z kz r2=>
     cases r2 with
     | cons=>simp[Fo.len]at A
     | nil=>
      have Q:=(k7u y ky (.cons z kz .nil)).2;have R:=(k7u z kz .nil).2;have S:(Fo.cons z kz .nil).N.length<=(Fo.cons y ky (.cons z kz .nil)).N.length:=by simp only[Fo.N,List.length_cons,List.length_append];omega
      first
       | exact v3p K m J.1 J.2.1 (by omega) (by omega)
       | exact v3n K m J.1 J.2.1 (by omega) (by omega)
theorem y7m{b:UInt8}(h:(((b.toNat:Nat):Int)==10)=true):b=10:=by
 have A:((b.toNat:Nat):Int)=10:=beq_iff_eq.1 h;exact UInt8.toNat_inj.1 (by simpa using(by omega:b.toNat=10))
theorem y4c{b:UInt8}(h:(((b.toNat:Nat):Int)==10)=false):¬b=10:=by
 rintro rfl;simp at h
theorem j8u(s:ByteArray)(wd:Int)(w:World)(hs:s.size<=2000000000):
  Calls prog 20 #[.string s,.int .i64 wd] w fun e w'=>e=.returned (.agg #[.int .i64 (stL wd s.data.toList).1,.int .i64 (stL wd s.data.toList).2.1])/\Below w w w':=by
 go_in;go_wp2
 go_loopw [6,7] (fun c i wr=>∃k:Nat,k<=s.size/\i=.int .i64 k/\c=.int .i64 (stL wd (s.data.toList.take k)).2.2/\Below w w wr
   /\wr.cell? ⟨w,0,none⟩=some (.int .i64 0)/\wr.cell? ⟨w,1,none⟩=some (.int .i64 0)/\wr.frozen? ⟨w,0,none⟩=false/\wr.frozen? ⟨w,1,none⟩=false
   /\wr.cell? ⟨w.heap.size+1,0,none⟩=some (.int .i64 (stL wd (s.data.toList.take k)).1)/\wr.cell? ⟨w.heap.size+1,1,none⟩=some (.int .i64 (stL wd (s.data.toList.take k)).2.1)/\wr.frozen? ⟨w.heap.size+1,0,none⟩=false/\wr.frozen? ⟨w.heap.size+1,1,none⟩=false)
  (fun _ i _=>s.size-(intOf i).toNat)
 case atStart=>
  exact⟨0,Nat.zero_le _,rfl,rfl,(Zb.alloc Zl _).alloc (by simp) _,by simp[go_sem],by simp[go_sem],by simp[go_sem],by simp[go_sem],by simp[go_sem,stL],by simp[go_sem,stL],by simp[go_sem],by simp[go_sem]⟩
 case round=>
  obtain⟨k,l,rfl,rfl,H,I,J,K,L,E,G,M,N⟩:=hrel;obtain⟨⟨Z,R⟩,⟨b,U⟩,⟨f,V⟩⟩:=y5f wd (s.data.toList.take k);have j:((s.data.toList.take k).length:Int)<=2000000000:=by have:=List.length_take_le k s.data.toList;omega
  generalize W:stL wd (s.data.toList.take k)=S at Z R b U f V E G⊢;have a:S.1<=2000000000:=by omega
  have d:S.2.1<=2000000000:=by omega
  have g:S.2.2<=2000000000:=by omega
  clear R U V j;have Q:Hid (stL wd (s.data.toList.take k)=S):=W;clear W;by_cases P:k<s.size
  ·have C:Hid (stL wd (s.data.toList.take (k+1))=stp wd S s[k]):=by
    have h:=v5d wd (s.data.toList.take k) s[k];rw[<-j9q s k P,Q.o]at h;exact h
   cases X:(((s[k].toNat:Nat):Int)==10)with
   | true=>
    have A:s[k]=10:=y7m X;have B:Hid (stL wd (s.data.toList.take (k+1))=(S.1,S.2.1+1,0)):=by rw[stp,if_pos A]at C;exact C
    clear A C;go_wp2
    go_roundw
    case rel=>
     refine⟨k+1,by omega,by go_num,by rw[B.o],H.setCell (p:=⟨w.heap.size+1,1,none⟩) (by simp) _,(cso (by omega)).trans I,(cso (by omega)).trans J,csf.trans K,csf.trans L,?_,?_,csf.trans M,csf.trans N⟩
     ·rw[B.o];exact(cso (by omega)).trans E
     ·rw[B.o];exact css G
    case measure=>simp[intOf];omega
   | false=>
    have A:¬s[k]=10:=y4c X;by_cases Y:wd<S.2.2+1
    ·have B:Hid (stL wd (s.data.toList.take (k+1))=(S.1+1,S.2.1,S.2.2+1)):=by rw[stp,if_neg A,if_pos Y]at C;exact C
     clear A C;go_wp2
     go_roundw
     case rel=>
      refine⟨k+1,by omega,by go_num,by rw[B.o],H.setCell (p:=⟨w.heap.size+1,0,none⟩) (by simp) _,(cso (by omega)).trans I,(cso (by omega)).trans J,csf.trans K,csf.trans L,?_,?_,csf.trans M,csf.trans N⟩
      ·rw[B.o];exact css E
      ·rw[B.o];exact(cso (by omega)).trans G
     case measure=>simp[intOf];omega
    ·have B:Hid (stL wd (s.data.toList.take (k+1))=(S.1,S.2.1,S.2.2+1)):=by rw[stp,if_neg A,if_neg Y]at C;exact C
     clear A C;go_wp2
     go_roundw
     case rel=>
      refine⟨k+1,by omega,by go_num,by rw[B.o],H,I,J,K,L,?_,?_,M,N⟩
      ·rw[B.o];exact E
      ·rw[B.o];exact G
     case measure=>simp[intOf];omega
  ·have D:s.data.toList.take k=s.data.toList:=List.take_of_length_le (by rw[<-Lib.size_eq];omega);have O:=Q.o;rw[D]at O;rw[<-O]at E G;clear O D;go_wp2;exact bodyPost_ret (v:=.agg #[.int .i64 (stL wd s.data.toList).1,.int .i64 (stL wd s.data.toList).2.1]) (by simp[results,Tryz.results20,go_sem,I,J]) rfl ⟨rfl,(H.setCell (p:=⟨w,0,none⟩) (by simp) _).setCell (p:=⟨w,1,none⟩) (by simp) _⟩
def q9d(t:List Td):Int:=if q0b t≠0 then q0b t else if opT t=9 then 2 else if 400<(q0q t).N.length then 3 else 0
def q8q(t:List Td):List Nd:=if q9d t=0 then(q0q t).N else []
def k2v(t:List Td):Int:=if q0b t≠0 then q0b t else if opT t=9 then 0 else 2
def txT(t:List Td):ByteArray:=match t with
 | []=>⟨#[]⟩
 | x::_=>x.tx
def k9s(t:List Td):List ByteArray:=if k2v t=0 then(q0e (btL (txT t))).map wbS else []
def z3i(t:List Td)(e:Ending)(w':World):Prop:=∃A c,e=.returned (.tuple #[.slice A (q8q t).length c,q1v (q9d t)])/\q1p w' A (q8q t)/\(q8q t).length<=c
def z7n(t:List Td)(e:Ending)(w':World):Prop:=∃A c,e=.returned (.tuple #[.slice A (k9s t).length c,q1v (k2v t)])/\Wds w' A (k9s t)/\(k9s t).length<=c
theorem j5j{t:List Td}(h:q0b t≠0):q9d t=q0b t/\q8q t=[]/\k2v t=q0b t/\k9s t=[]:=by
 have A:q9d t=q0b t:=by rw[q9d,if_pos h]
 have B:k2v t=q0b t:=by rw[k2v,if_pos h]
 exact⟨A,by rw[q8q,if_neg (by rw[A];exact h)],B,by rw[k9s,if_neg (by rw[B];exact h)]⟩
theorem z8m{t:List Td}(h:q0b t=0)(h9:opT t=9):q9d t=2/\q8q t=[]/\k2v t=0/\k9s t=(q0e (btL (txT t))).map wbS:=by
 have A:q9d t=2:=by rw[q9d,if_neg (by simp[h]),if_pos h9]
 have B:k2v t=0:=by rw[k2v,if_neg (by simp[h]),if_pos h9]
 exact⟨A,by rw[q8q,if_neg (by rw[A];decide)],B,by rw[k9s,if_pos B]⟩
theorem v3i{t:List Td}(h:q0b t=0)(h9:opT t≠9)(hn:400<(q0q t).N.length):q9d t=3/\q8q t=[]/\k2v t=2/\k9s t=[]:=by
 have A:q9d t=3:=by rw[q9d,if_neg (by simp[h]),if_neg h9,if_pos hn]
 have B:k2v t=2:=by rw[k2v,if_neg (by simp[h]),if_neg h9]
 exact⟨A,by rw[q8q,if_neg (by rw[A];decide)],B,by rw[k9s,if_neg (by rw[B];decide)]⟩
theorem y0m{t:List Td}(h:q0b t=0)(h9:opT t≠9)(hn:¬400<(q0q t).N.length):q9d t=0/\q8q t=(q0q t).N/\k2v t=2/\k9s t=[]:=by
 have A:q9d t=0:=by rw[q9d,if_neg (by simp[h]),if_neg h9,if_neg hn]
 have B:k2v t=2:=by rw[k2v,if_neg (by simp[h]),if_neg h9]
 exact⟨A,by rw[q8q,if_pos A],B,by rw[k9s,if_neg (by rw[B];decide)]⟩
theorem j5m{t:List Td}(h:q9d t=0):q0b t=0/\opT t≠9/\q8q t=(q0q t).N/\(q0q t).N.length<=400:=by
 have A:=h;unfold q9d at h
 split at h
 ·rename_i h0;exact absurd h h0
 ·rename_i h0
  split at h
  ·cases h
  ·rename_i h9
   split at h
   ·cases h
   ·rename_i hm;exact⟨by simpa using h0,h9,by rw[q8q,if_pos A],by omega⟩
theorem v3j{t:List Td}(h:q9d t=0)(ws:List Int):q5y (q8q t) ws=(q0q t).show ws:=by
 obtain⟨B,C,A,D⟩:=j5m h;exact z2g (z6c B C).w A (by rw[A];exact D)
end Go.Proofs.YtfdppahhbpfnoaaGreatDoor
