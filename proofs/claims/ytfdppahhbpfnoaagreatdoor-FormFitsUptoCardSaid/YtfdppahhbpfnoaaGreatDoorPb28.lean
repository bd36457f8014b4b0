import Derived.Test.YtfdppahhbpfnoaaGreatDoorPb21
import Derived.Test.YtfdppahhbpfnoaaGreatDoorPb25
open Go.Proofs.Tryz
namespace Go.Proofs.YtfdppahhbpfnoaaGreatDoor
open Go Go.RowKit
set_option maxRecDepth 100000
set_option maxHeartbeats 8000000
abbrev ExL(w0:World)(b:Nat)(x:Td)(k:Fo):Prop:=∀(rest:List Td)(w:World),LyE w0 b (x::(k.N++rest)) w->
 Calls prog 136 #[.pointer (some ⟨b,0,none⟩)] w fun e w'=>NdG w0 b w (q0g x k.D).N rest e w'
def EAL(w0:World)(b:Nat):Fo->Prop
 | .nil=>True
 | .cons x k n=>ExL w0 b x k/\EAL w0 b n
theorem LyE.in{w0:World}{b:Nat}{ds:List Td}{w:World}(h:LyE w0 b ds w):b<w.heap.size:=by
 obtain⟨A,c,h⟩:=h;exact h.in
theorem LyE.lk{w0:World}{b:Nat}{ds:List Td}{w:World}(h:LyE w0 b ds w):Lk w0 b w ds w:=⟨But.refl _ _ _,h,h.in⟩
theorem k2e{w0:World}{b:Nat}:∀(K:Fo),EAL w0 b K->K.len≠0->z2y K.D<=1000->K.len<=1000->∀(r:List Td)(w:World),LyE w0 b (K.N++r) w->
  Calls prog 209 #[.pointer (some ⟨b,0,none⟩),.int .i64 (K.len:Int)] w fun e w'=>NdG w0 b w (kdD K.D).N r e w'
 | .nil,_,h0,_,_,_,_,_=>absurd rfl h0
 | .cons y ky .nil,hE,_,_,_,r,w,hW=>by
  have HX:Hid (Calls prog 136 #[.pointer (some ⟨b,0,none⟩)] w fun e w'=>NdG w0 b w (q0g y ky.D).N r e w'):=hE.1 r w (by simpa[Fo.N]using hW);show Calls prog 209 #[.pointer (some ⟨b,0,none⟩),.int .i64 1] w fun e w'=>NdG w0 b w (q0g y ky.D).N r e w'
  generalize(q0g y ky.D).N=xs at HX⊢
  clear hE hW;go_in;go_wp2_with fail;refine HX.o.mono ?_;rintro e w1 h1;have HR:Hid (NdG w0 b w xs r e w1):=h1;obtain⟨v1,rfl,_,_⟩:=h1.val;clear h1;go_wp2;go_ret;exact HR.o
 | .cons y ky (.cons z kz n),hE,_,hs,hkl,r,w,hW=>by
  have hs2:(q0g y ky.D).N.length+z2y (Fo.cons z kz n).D<=1000:=by
   rw[Fo.D,q1y]at hs;have h:(q0g y ky.D).N.length+5+z2y (Fo.cons z kz n).D<=1000:=hs;omega
  have G:=j0z (Fo.cons z kz n).D;have S:n.len<=1000:=by simp only[Fo.len]at hkl;omega
  have HX:Hid (Calls prog 136 #[.pointer (some ⟨b,0,none⟩)] w fun e w'=>NdG w0 b w (q0g y ky.D).N ((Fo.cons z kz n).N++r) e w'):=hE.1 _ w (by simpa[Fo.N]using hW)
  have J:Hid (∀W,LyE w0 b ((Fo.cons z kz n).N++r) W->Calls prog 209 #[.pointer (some ⟨b,0,none⟩),.int .i64 ((n.len:Int)+1)] W fun e w'=>NdG w0 b W (kdD (Fo.cons z kz n).D).N r e w'):=fun W hW=>by
   have h:=k2e (.cons z kz n) hE.2 (by simp[Fo.len]) (by omega) (by simp only[Fo.len]at hkl⊢;omega) r W hW;have e:(((Fo.cons z kz n).len:Nat):Int)=(n.len:Int)+1:=by simp[Fo.len]
   rw[e]at h;exact h
  have A:Hid (Lk w0 b w ((Fo.cons y ky (.cons z kz n)).N++r) w):=hW.lk;have B:Hid ((kdD (Fo.cons y ky (.cons z kz n)).D).N=⟨6,⟨#[]⟩,0⟩::((⟨6,⟨#[]⟩,0⟩::((q0g y ky.D).N++[⟨1,⟨#[44]⟩,0⟩]))++(⟨6,⟨#[]⟩,0⟩::([⟨2,⟨#[]⟩,0⟩]++(kdD (Fo.cons z kz n).D).N)))):=rfl;have E:(((Fo.cons y ky (.cons z kz n)).len:Nat):Int)=(n.len:Int)+1+1:=by simp[Fo.len]
  rw[E]
  generalize(kdD (Fo.cons y ky (.cons z kz n)).D).N=R at B⊢
  generalize(q0g y ky.D).N=xs at HX B hs2
  generalize(kdD (Fo.cons z kz n).D).N=ks at J B G
  generalize(Fo.cons z kz n).N++r=r1 at HX J
  generalize(Fo.cons y ky (.cons z kz n)).N++r=r0 at A
  generalize z2y (Fo.cons z kz n).D=sd at hs2 G;generalize n.len=nl at J S⊢;have q:((nl:Int)+1+1==1)=false:=by simp;omega
  clear hE hW hs hkl E;go_in;go_wp2_with fail;refine(HX.o).mono ?_;rintro e w1 h1;obtain⟨v1,rfl,i,g⟩:=h1.val;replace A:=hid (A.o.then g);have I:=hid i;clear h1 i g;go_wp2_with fail;refine(q1w _ _).mono ?_;rintro e w2 Z;obtain⟨s,rfl,j,M⟩:=Z.valB A.o.in;replace A:=hid (A.o.step M);replace I:=hid (I.o.bel M);have U:=hid j;clear Z j M;go_wp2_with fail;refine(q1c _ I.o.val U.o.val (by first|(simp;done)|(simp;omega))).mono ?_;rintro e w3 a;obtain⟨t,rfl,k,Y⟩:=a.valB A.o.in;replace A:=hid (A.o.step Y);clear I;clear U;have C:=hid k;clear a k Y;go_wp2_with fail;refine(z1o _).mono ?_;rintro e w4 c;obtain⟨u,rfl,l,O⟩:=c.valB A.o.in;replace A:=hid (A.o.step O);replace C:=hid (C.o.bel O);have H:=hid l;clear c l O;go_wp2_with fail;refine(J.o _ A.o.ly).mono ?_;rintro e w5 d;obtain⟨v,rfl,m,L⟩:=d.val;replace A:=hid (A.o.then L);replace C:=hid (C.o.but L.bt);replace H:=hid (H.o.but L.bt);have V:=hid m;clear d m L;go_wp2_with fail;refine(q1c _ H.o.val V.o.val (by first|(simp;done)|(simp;omega))).mono ?_;rintro e w6 f;obtain⟨x,rfl,o,P⟩:=f.valB A.o.in;replace A:=hid (A.o.step P);clear H;clear V;replace C:=hid (C.o.bel P);have X:=hid o;clear f o P;go_wp2_with fail;refine(q1c _ C.o.val X.o.val (by first|(simp;done)|(simp;omega))).mono ?_;rintro e p Q
  have HX:Hid (NdG w0 b w R r e p):=by
   have h:=Q.gof A.o;show NdG w0 b w R r e p;rw[B.o];exact h
  obtain⟨v7,rfl,_,_⟩:=Q.val;clear Q A B C X;go_wp2;go_ret;exact HX.o
theorem y6v(o c:List UInt8)(ps:List (Td × Tr))(h:ps.length=0):(q1g o c ps).N=[⟨1,wbS (o++c),0⟩]:=by rw[q1g,if_pos h];rfl
theorem y3b(o c:List UInt8)(ps:List (Td × Tr))(h:¬ps.length=0):(q1g o c ps).N=⟨8,⟨#[]⟩,0⟩::(⟨6,⟨#[]⟩,0⟩::([⟨1,wbS o,0⟩]++(⟨6,⟨#[]⟩,0⟩::((⟨7,⟨#[]⟩,2⟩::(⟨6,⟨#[]⟩,0⟩::([⟨3,⟨#[]⟩,0⟩]++(kdD ps).N)))++(⟨6,⟨#[]⟩,0⟩::([⟨3,⟨#[]⟩,0⟩]++[⟨1,wbS c,0⟩])))))):=by rw[q1g,if_neg h];rfl
theorem z2b{w0:World}{b:Nat}(K:Fo)(hE:EAL w0 b K)(hs:z2y K.D<=1000)(I:K.len<=1000)(o c:ByteArray)(ho:o.size<=100)(hc:c.size<=100)(r:List Td)(w:World)(hW:LyE w0 b (K.N++r) w):
  Calls prog 183 #[.pointer (some ⟨b,0,none⟩),.string o,.int .i64 (K.len:Int),.string c] w fun e w'=>NdG w0 b w (q1g (btL o) (btL c) K.D).N r e w':=by
 have A:Hid (Lk w0 b w (K.N++r) w):=hW.lk;by_cases G:K.len=0
 ·have B:Hid ((q1g (btL o) (btL c) K.D).N=[⟨1,o++c,0⟩]):=by
   show _=_;rw[y6v _ _ _ (by rw[q3i];exact G)];have e:wbS (btL o++btL c)=o++c:=by rw[<-q2l,z2i,z2i]
   rw[e]
  have hr:K.N++r=r:=by
   cases K with
   | nil=>rfl
   | cons=>simp[Fo.len]at G
  rw[hr]at A;rw[G]
  generalize(q1g (btL o) (btL c) K.D).N=R at B⊢
  clear hE hs I G hr hW;have Ab:¬9223372036854775807<o.size+c.size:=by omega
  go_in;go_wp2_with fail;refine(q1w _ _).mono ?_;rintro e i J
  have a:Hid (NdG w0 b w R r e i):=by
   have h:=J.gof A.o;show NdG w0 b w R r e i;rw[B.o];exact h
  obtain⟨v1,rfl,_,_⟩:=J.val;clear J A B;go_wp2;go_ret;exact a.o
 ·have B:Hid ((q1g (btL o) (btL c) K.D).N=⟨8,⟨#[]⟩,0⟩::(⟨6,⟨#[]⟩,0⟩::([⟨1,o,0⟩]++(⟨6,⟨#[]⟩,0⟩::((⟨7,⟨#[]⟩,2⟩::(⟨6,⟨#[]⟩,0⟩::([⟨3,⟨#[]⟩,0⟩]++(kdD K.D).N)))++(⟨6,⟨#[]⟩,0⟩::([⟨3,⟨#[]⟩,0⟩]++[⟨1,c,0⟩]))))))):=by
   show _=_;rw[y3b _ _ _ (by rw[q3i];exact G),z2i,z2i]
  have X:Hid (∀W,LyE w0 b (K.N++r) W->Calls prog 209 #[.pointer (some ⟨b,0,none⟩),.int .i64 (K.len:Int)] W fun e w'=>NdG w0 b W (kdD K.D).N r e w'):=fun W hW=>k2e K hE G hs I r W hW
  have P:=j0z K.D
  generalize(q1g (btL o) (btL c) K.D).N=R at B⊢
  generalize(kdD K.D).N=ks at X B P
  generalize z2y K.D=sd at hs P;generalize K.N++r=r0 at A X;generalize K.len=kl at X G⊢;have Aa:((kl:Int)==0)=false:=by simp;omega
  clear hE I hW;go_in;go_wp2_with fail;refine(k2i _).mono ?_;rintro e i J;obtain⟨v1,rfl,n1,q⟩:=J.valB A.o.in;replace A:=hid (A.o.step q);have U:=hid n1;clear J n1 q;go_wp2_with fail;refine(X.o _ A.o.ly).mono ?_;rintro e w2 u;obtain⟨v2,rfl,n2,g⟩:=u.val;replace A:=hid (A.o.then g);replace U:=hid (U.o.but g.bt);have p:=hid n2;clear u n2 g;go_wp2_with fail;refine(q1c _ U.o.val p.o.val (by first|(simp;done)|(simp;omega))).mono ?_;rintro e w3 v;obtain⟨v3,rfl,n3,s⟩:=v.valB A.o.in;replace A:=hid (A.o.step s);clear U;clear p;have j:=hid n3;clear v n3 s;go_wp2_with fail;refine(q9a _ j.o.val (by first|(simp;done)|(simp;omega))).mono ?_;rintro e w4 x;obtain⟨v4,rfl,n4,t⟩:=x.valB A.o.in;replace A:=hid (A.o.step t);clear j;have C:=hid n4;clear x n4 t;go_wp2_with fail;refine(q1w _ _).mono ?_;rintro e w5 y;obtain⟨v5,rfl,n5,d⟩:=y.valB A.o.in;replace A:=hid (A.o.step d);replace C:=hid (C.o.bel d);have E:=hid n5;clear y n5 d;go_wp2_with fail;refine(k2i _).mono ?_;rintro e w6 z;obtain⟨v6,rfl,n6,Y⟩:=z.valB A.o.in;replace A:=hid (A.o.step Y);replace C:=hid (C.o.bel Y);replace E:=hid (E.o.bel Y);have V:=hid n6;clear z n6 Y;go_wp2_with fail;refine(q1w _ _).mono ?_;rintro e w7 h7;obtain⟨v7,rfl,n7,M⟩:=h7.valB A.o.in;replace A:=hid (A.o.step M);replace C:=hid (C.o.bel M);replace E:=hid (E.o.bel M);replace V:=hid (V.o.bel M);have k:=hid n7;clear h7 n7 M;go_wp2_with fail;refine(q1c _ V.o.val k.o.val (by first|(simp;done)|(simp;omega))).mono ?_;rintro e w8 h8;obtain⟨v8,rfl,n8,Z⟩:=h8.valB A.o.in;replace A:=hid (A.o.step Z);clear V;clear k;replace C:=hid (C.o.bel Z);replace E:=hid (E.o.bel Z);have l:=hid n8;clear h8 n8 Z;go_wp2_with fail;refine(q1c _ C.o.val l.o.val (by first|(simp;done)|(simp;omega))).mono ?_;rintro e w9 h9;obtain⟨v9,rfl,n9,f⟩:=h9.valB A.o.in;replace A:=hid (A.o.step f);clear C;clear l;replace E:=hid (E.o.bel f);have m:=hid n9;clear h9 n9 f;go_wp2_with fail;refine(q1c _ E.o.val m.o.val (by first|(simp;done)|(simp;omega))).mono ?_;rintro e Ae O;obtain⟨Ac,rfl,Q,L⟩:=O.valB A.o.in;replace A:=hid (A.o.step L);clear E;clear m;have n:=hid Q;clear O Q L;go_wp2_with fail;refine(z1p _ n.o.val (by first|(simp;done)|(simp;omega))).mono ?_;rintro e S H
  have a:Hid (NdG w0 b w R r e S):=by
   have h:=H.gof A.o;show NdG w0 b w R r e S;rw[B.o];exact h
  obtain⟨Ad,rfl,_,_⟩:=H.val;clear H A B n;go_wp2;go_ret;exact a.o
theorem y1z{l:Nat}{x:Td}{D:Tr}(h:prc x<l):(inD l x D).N=⟨6,⟨#[]⟩,0⟩::([⟨1,⟨#[40]⟩,0⟩]++(⟨6,⟨#[]⟩,0⟩::(D.N++[⟨1,⟨#[41]⟩,0⟩]))):=by
 rw[inD,if_pos h];rfl
theorem y6h{l:Nat}{x:Td}{D:Tr}(h:¬prc x<l):(inD l x D).N=D.N:=by rw[inD,if_neg h]
theorem k2h{w0:World}{b:Nat}{y:Td}{k:Fo}(hX:ExL w0 b y k)(hz:(q0g y k.D).N.length<=1000)(op:Int)(O:op=5\/op=6)(s:Bool)(r:List Td)(w:World)(hW:LyE w0 b (y::(k.N++r)) w):
  Calls prog 210 #[.pointer (some ⟨b,0,none⟩),.int .i64 op,.bool s] w fun e w'=>NdG w0 b w (inD ((op-5).toNat+s.toNat) y (q0g y k.D)).N r e w':=by
 have B:Hid (∀W,Calls prog 206 #[.int .i64 y.op,.int .i64 op,.bool s] W fun e w'=>e=.returned (.bool (decide (prc y<(op-5).toNat+s.toNat)))/\W=w'):=fun W=>(k2q y op O s W).mono fun _ _ h=>⟨h.1,h.2.symm⟩
 have M:Hid (Calls prog 136 #[.pointer (some ⟨b,0,none⟩)] w fun e w'=>NdG w0 b w (q0g y k.D).N r e w'):=hX r w hW;have E:Hid (Lk w0 b w (y::(k.N++r)) w):=hW.lk;obtain⟨A,c,h⟩:=hW;obtain⟨t,u,rfl,X,U,_,_⟩:=h.td 0 (by simp);simp only[List.getElem_cons_zero,Nat.zero_mul,Nat.add_zero]at U;obtain⟨d,_⟩:=q1o h.bl;have e0:w.cell? ⟨t,u,none⟩=some (.int .i64 y.op):=(d _ _ X).trans U;have cR:w.cell? ⟨b,0,none⟩=some (.slice (some ⟨t,u,none⟩) (y::(k.N++r)).length c):=by rw[Lib.cell_of_heap h.x];rfl
 generalize j:(y::(k.N++r)).length=n at cR;have Aa:0<n:=by rw[<-j];simp
 have Ab:(0:Int)<(n:Int):=by omega
 have H:Hid (prc y<(op-5).toNat+s.toNat->(inD ((op-5).toNat+s.toNat) y (q0g y k.D)).N=⟨6,⟨#[]⟩,0⟩::([⟨1,⟨#[40]⟩,0⟩]++(⟨6,⟨#[]⟩,0⟩::((q0g y k.D).N++[⟨1,⟨#[41]⟩,0⟩])))):=y1z;have C:Hid (¬prc y<(op-5).toNat+s.toNat->(inD ((op-5).toNat+s.toNat) y (q0g y k.D)).N=(q0g y k.D).N):=y6h
 generalize(inD ((op-5).toNat+s.toNat) y (q0g y k.D)).N=R at H C⊢
 generalize(q0g y k.D).N=xs at M H C hz
 generalize y::(k.N++r)=r0 at E
 generalize(op-5).toNat+s.toNat=lv at B H C
 generalize prc y=py at B H C;generalize y.op=yo at B e0;clear h d U O j hX;by_cases L:py<lv
 ·have G:=(show Hid (_=_)from H.o L);rw[decide_eq_true L]at B;clear H C L;go_in;go_wp2_with fail;refine(B.o _).mono ?_;rintro e w1⟨rfl,rfl⟩;go_wp2_with fail;refine(M.o).mono ?_;rintro e Y K;obtain⟨v2,rfl,m,l⟩:=K.val;replace E:=hid (E.o.then l);have J:=hid m;clear K m l;go_wp2_with fail;refine(q1w _ _).mono ?_;rintro e w3 f;obtain⟨v3,rfl,o,Q⟩:=f.valB E.o.in;replace E:=hid (E.o.step Q);replace J:=hid (J.o.bel Q);have I:=hid o;clear f o Q;go_wp2_with fail;refine(q1w _ _).mono ?_;rintro e w4 g;obtain⟨v4,rfl,p,P⟩:=g.valB E.o.in;replace E:=hid (E.o.step P);replace J:=hid (J.o.bel P);replace I:=hid (I.o.bel P);have Z:=hid p;clear g p P;go_wp2_with fail;refine(q1c _ J.o.val Z.o.val (by first|(simp;done)|(simp;omega))).mono ?_;rintro e w5 i;obtain⟨v5,rfl,q,S⟩:=i.valB E.o.in;replace E:=hid (E.o.step S);clear J;clear Z;replace I:=hid (I.o.bel S);have a:=hid q;clear i q S;go_wp2_with fail;refine(q1c _ I.o.val a.o.val (by first|(simp;done)|(simp;omega))).mono ?_;rintro e v V
  have M:Hid (NdG w0 b w R r e v):=by
   have h:=V.gof E.o;show NdG w0 b w R r e v;rw[G.o];exact h
  obtain⟨v6,rfl,_,_⟩:=V.val;clear V E G I a;go_wp2;go_ret;exact M.o
 ·have G:=(show Hid (_=_)from C.o L);rw[decide_eq_false L]at B;clear H C L;go_in;go_wp2_with fail;refine(B.o _).mono ?_;rintro e w1⟨rfl,rfl⟩;go_wp2_with fail;refine M.o.mono ?_;rintro e Y K
  have z:Hid (NdG w0 b w R r e Y):=by
   show NdG w0 b w R r e Y;rw[G.o];exact K
  obtain⟨v2,rfl,_,_⟩:=K.val;clear K;go_wp2;go_ret;exact z.o
theorem z6k{w0:World}{b:Nat}{y z:Td}{k l:Fo}(hX:ExL w0 b y k)(hZ:ExL w0 b z l)(J:(q0g y k.D).N.length<=1000)(K:(q0g z l.D).N.length<=1000)(op:Int)(E:op=5\/op=6)(m:ByteArray)(r:List Td)(w:World)
  (hW:LyE w0 b (y::(k.N++(z::(l.N++r)))) w):
  Calls prog 184 #[.pointer (some ⟨b,0,none⟩),.int .i64 op,.string m] w fun e w'=>NdG w0 b w (grD (twD (inD (op-5).toNat y (q0g y k.D)) (dpD (twD blD (twD (wdD (btL m)) (inD ((op-5).toNat+1) z (q0g z l.D))))))).N r e w':=by
 have Q:Hid (Calls prog 210 #[.pointer (some ⟨b,0,none⟩),.int .i64 op,.bool false] w fun e w'=>NdG w0 b w (inD (op-5).toNat y (q0g y k.D)).N (z::(l.N++r)) e w'):=k2h hX J op E false _ w hW;have S:Hid (∀W,LyE w0 b (z::(l.N++r)) W->Calls prog 210 #[.pointer (some ⟨b,0,none⟩),.int .i64 op,.bool true] W fun e w'=>NdG w0 b W (inD ((op-5).toNat+1) z (q0g z l.D)).N r e w'):=fun W hW=>k2h hZ K op E true _ W hW
 have A:Hid (Lk w0 b w (y::(k.N++(z::(l.N++r)))) w):=hW.lk;have L:=j0y (op-5).toNat y (q0g y k.D);have M:=j0y ((op-5).toNat+1) z (q0g z l.D)
 have C:Hid ((grD (twD (inD (op-5).toNat y (q0g y k.D)) (dpD (twD blD (twD (wdD (btL m)) (inD ((op-5).toNat+1) z (q0g z l.D))))))).N=⟨8,⟨#[]⟩,0⟩::(⟨6,⟨#[]⟩,0⟩::((inD (op-5).toNat y (q0g y k.D)).N++(⟨7,⟨#[]⟩,2⟩::(⟨6,⟨#[]⟩,0⟩::([⟨2,⟨#[]⟩,0⟩]++(⟨6,⟨#[]⟩,0⟩::([⟨1,m,0⟩]++(inD ((op-5).toNat+1) z (q0g z l.D)).N)))))))):=by
  show _=_;have e:wbS (btL m)=m:=z2i m;simp only[Tr.N,e]
 generalize(grD (twD (inD (op-5).toNat y (q0g y k.D)) (dpD (twD blD (twD (wdD (btL m)) (inD ((op-5).toNat+1) z (q0g z l.D))))))).N=R at C⊢
 generalize(inD (op-5).toNat y (q0g y k.D)).N=xs at Q C L
 generalize(inD ((op-5).toNat+1) z (q0g z l.D)).N=ys at S C M
 have Aa:xs.length<=1004:=by omega
 have Ab:ys.length<=1004:=by omega
 generalize z::(l.N++r)=r1 at Q S A;generalize y::(k.N++r1)=r0 at A;clear hX hZ J K hW L M E;go_in;go_wp2_with fail;refine(Q.o).mono ?_;rintro e w1 i;obtain⟨v1,rfl,L,u⟩:=i.val;replace A:=hid (A.o.then u);have B:=hid L;clear i L u;go_wp2_with fail;refine(S.o _ A.o.ly).mono ?_;rintro e w2 j;obtain⟨v2,rfl,M,Y⟩:=j.val;replace A:=hid (A.o.then Y);replace B:=hid (B.o.but Y.bt);have H:=hid M;clear j M Y;go_wp2_with fail;refine(z1o _).mono ?_;rintro e w3 n;obtain⟨v3,rfl,v,O⟩:=n.valB A.o.in;replace A:=hid (A.o.step O);replace B:=hid (B.o.bel O);replace H:=hid (H.o.bel O);have G:=hid v;clear n v O;go_wp2_with fail;refine(q1w _ _).mono ?_;rintro e w4 o;obtain⟨v4,rfl,x,I⟩:=o.valB A.o.in;replace A:=hid (A.o.step I);replace B:=hid (B.o.bel I);replace H:=hid (H.o.bel I);replace G:=hid (G.o.bel I);have f:=hid x;clear o x I;go_wp2_with fail;refine(q1c _ f.o.val H.o.val (by first|(simp;done)|(simp;omega))).mono ?_;rintro e w5 p;obtain⟨v5,rfl,n5,P⟩:=p.valB A.o.in;replace A:=hid (A.o.step P);clear f;clear H;replace B:=hid (B.o.bel P);replace G:=hid (G.o.bel P);have Z:=hid n5;clear p n5 P;go_wp2_with fail;refine(q1c _ G.o.val Z.o.val (by first|(simp;done)|(simp;omega))).mono ?_;rintro e w6 q;obtain⟨v6,rfl,n6,U⟩:=q.valB A.o.in;replace A:=hid (A.o.step U);clear G;clear Z;replace B:=hid (B.o.bel U);have a:=hid n6;clear q n6 U;go_wp2_with fail;refine(q9a _ a.o.val (by first|(simp;done)|(simp;omega))).mono ?_;rintro e w7 s;obtain⟨v7,rfl,n7,V⟩:=s.valB A.o.in;replace A:=hid (A.o.step V);clear a;replace B:=hid (B.o.bel V);have c:=hid n7;clear s n7 V;go_wp2_with fail;refine(q1c _ B.o.val c.o.val (by first|(simp;done)|(simp;omega))).mono ?_;rintro e w8 t;obtain⟨v8,rfl,n8,g⟩:=t.valB A.o.in;replace A:=hid (A.o.step g);clear B;clear c;have d:=hid n8;clear t n8 g;go_wp2_with fail;refine(z1p _ d.o.val (by first|(simp;done)|(simp;omega))).mono ?_;rintro e w9 X
 have HX:Hid (NdG w0 b w R r e w9):=by
  have h:=X.gof A.o;show NdG w0 b w R r e w9;rw[C.o];exact h
 obtain⟨v9,rfl,_,_⟩:=X.val;clear X A C d;go_wp2;go_ret;exact HX.o
theorem v4c{w0:World}{b:Nat}(ht:z7n w0)(n:Int)(h0:0<=n)(h9:n<=999999)(tx:ByteArray):ExL w0 b ⟨1,tx,n⟩ Fo.nil:=by
 intro r w O;have J:Hid (Calls prog 134 #[.pointer (some ⟨b,0,none⟩)] w fun e w'=>e=.returned (tdV ⟨1,tx,n⟩)/\Lk w0 b w (Fo.nil.N++r) w'):=q3p O;have Q:Hid (z7n w0):=ht;clear ht;generalize M:(q0g ⟨1,tx,n⟩ Fo.nil.D).N=R;have E:Hid ((q0g ⟨1,tx,n⟩ Fo.nil.D).N=R):=M;clear O M;go_in;go_wp2_with fail;refine J.o.mono ?_;rintro e B⟨rfl,G⟩
 have I:Hid (∀W:World,Below B B W->Calls prog 131 #[.int .i64 n] W fun e w'=>e=.returned (.string (wbS (q2n n.toNat)))/\Below W W w'):=fun W hb=>k7z n h0 h9 W (by
  obtain⟨A,c,U⟩:=G.ly
  exact(Q.o.W U.bl).W hb)
 have K:Hid (∀W:World,Below B B W->Calls prog 137 #[.string (wbS (q2n n.toNat))] W fun e w'=>NdG w0 b w R r e w'):=fun W hb=>(q1w _ W).mono fun e w' h=>by
  rw[<-E.o];exact h.gof (G.step hb)
 generalize wbS (q2n n.toNat)=S at I K;clear G J;go_wp2_with fail;refine(I.o _ (q2m B _)).mono ?_;rintro e V⟨rfl,L⟩;have C:Hid (Below B B V):=q0d (q2m B _) Zl L;clear L;go_wp2_with fail;refine(K.o _ C.o).mono ?_;rintro e Y H;have P:=hid H;obtain⟨X,rfl,_,_⟩:=H.val;clear H;go_wp2;go_ret;exact P.o
theorem j6g{w0:World}{b:Nat}(tx:ByteArray)(Q:tx.size<=100)(n:Int):ExL w0 b ⟨2,tx,n⟩ Fo.nil:=by
 intro r w K;have G:Hid (Calls prog 134 #[.pointer (some ⟨b,0,none⟩)] w fun e w'=>e=.returned (tdV ⟨2,tx,n⟩)/\Lk w0 b w (Fo.nil.N++r) w'):=q3p K;generalize J:(q0g ⟨2,tx,n⟩ Fo.nil.D).N=R;have C:Hid ((q0g ⟨2,tx,n⟩ Fo.nil.D).N=R):=J;clear K J;go_in;go_wp2_with fail;refine G.o.mono ?_;rintro e A⟨rfl,I⟩;have L:Hid (∀W:World,Calls prog 78 #[.string tx] W fun e w'=>e=.returned (.string tx)/\Below W W w'):=fun W=>q8d tx W (by omega)
 have O:Hid (∀W:World,Below A A W->Calls prog 137 #[.string tx] W fun e w'=>NdG w0 b w R r e w'):=fun W hb=>(q1w _ W).mono fun e w' h=>by
  have P:(q0g ⟨2,tx,n⟩ Fo.nil.D).N=[⟨1,tx,0⟩]:=by
   show [(⟨1,wbS (btL tx),0⟩:Nd)]=_;rw[z2i]
  rw[<-C.o,P];exact h.gof (I.step hb)
 clear I G;go_wp2_with fail;refine(L.o _).mono ?_;rintro e S⟨rfl,H⟩;have B:Hid (Below A A S):=q0d (q2m A _) Zl H;clear H;go_wp2_with fail;refine(O.o _ B.o).mono ?_;rintro e V E;have M:=hid E;obtain⟨U,rfl,_,_⟩:=E.val;clear E;go_wp2;go_ret;exact M.o
theorem j6f{w0:World}{b:Nat}{F:Fo}(tx:ByteArray)(hE:EAL w0 b F)(hs:z2y F.D<=1000)(E:F.len<=1000):ExL w0 b ⟨4,tx,(F.len:Int)⟩ F:=by
 intro r w J;have H:Hid (Calls prog 134 #[.pointer (some ⟨b,0,none⟩)] w fun e w'=>e=.returned (tdV ⟨4,tx,(F.len:Int)⟩)/\Lk w0 b w (F.N++r) w'):=q3p J;generalize I:(q0g ⟨4,tx,(F.len:Int)⟩ F.D).N=R;have A:Hid ((q0g ⟨4,tx,(F.len:Int)⟩ F.D).N=R):=I;clear J I;go_in;go_wp2_with fail;refine H.o.mono ?_;rintro e G⟨rfl,B⟩
 have L:Hid (∀W:World,Below G G W->Calls prog 183 #[.pointer (some ⟨b,0,none⟩),.string ⟨#[91]⟩,.int .i64 (F.len:Int),.string ⟨#[93]⟩] W fun e w'=>NdG w0 b w R r e w'):=fun W hb=>(z2b F hE hs E ⟨#[91]⟩ ⟨#[93]⟩ (by decide) (by decide) r W (B.step hb).ly).mono fun e w' h=>by
  have M:q0g ⟨4,tx,(F.len:Int)⟩ F.D=q1g (btL ⟨#[91]⟩) (btL ⟨#[93]⟩) F.D:=rfl;rw[<-A.o,M];exact NdG.then (B.step hb) h
 clear B H hE hs;go_wp2_with fail;refine(L.o _ (q2m G _)).mono ?_;rintro e P C;have K:=hid C;obtain⟨O,rfl,_,_⟩:=C.val;clear C;go_wp2;go_ret;exact K.o
theorem j3j(tx:ByteArray):btL (tx++(⟨#[40]⟩:ByteArray))=btL tx++[40]:=by
 have e:wbS (btL tx)++wbS [40]=wbS (btL tx++[40]):=q2l _ _;rw[z2i]at e;have A:tx++(⟨#[40]⟩:ByteArray)=wbS (btL tx++[40]):=e;rw[A];rfl
theorem y3x(tx:ByteArray):(tx++(⟨#[40]⟩:ByteArray)).size=tx.size+1:=by
 rw[<-q0c,j3j,List.length_append,q0c];rfl
theorem j6e{w0:World}{b:Nat}{F:Fo}(tx:ByteArray)(P:tx.size<=80)(hE:EAL w0 b F)(hs:z2y F.D<=1000)(E:F.len<=1000):ExL w0 b ⟨3,tx,(F.len:Int)⟩ F:=by
 intro r w J;have H:Hid (Calls prog 134 #[.pointer (some ⟨b,0,none⟩)] w fun e w'=>e=.returned (tdV ⟨3,tx,(F.len:Int)⟩)/\Lk w0 b w (F.N++r) w'):=q3p J;generalize I:(q0g ⟨3,tx,(F.len:Int)⟩ F.D).N=R;have A:Hid ((q0g ⟨3,tx,(F.len:Int)⟩ F.D).N=R):=I;clear J I;go_in;go_wp2_with fail;refine H.o.mono ?_;rintro e G⟨rfl,B⟩
 have L:Hid (∀W:World,Below G G W->Calls prog 183 #[.pointer (some ⟨b,0,none⟩),.string (tx++(⟨#[40]⟩:ByteArray)),.int .i64 (F.len:Int),.string ⟨#[41]⟩] W fun e w'=>NdG w0 b w R r e w'):=fun W hb=>(z2b F hE hs E (tx++(⟨#[40]⟩:ByteArray)) ⟨#[41]⟩ (by rw[y3x];omega) (by decide) r W (B.step hb).ly).mono fun e w' h=>by
  have M:q0g ⟨3,tx,(F.len:Int)⟩ F.D=q1g (btL (tx++(⟨#[40]⟩:ByteArray))) (btL ⟨#[41]⟩) F.D:=by rw[j3j];rfl
  rw[<-A.o,M];exact NdG.then (B.step hb) h
 have O:¬9223372036854775807<tx.size+1:=by omega
 clear B H hE hs;go_wp2_with fail;refine(L.o _ (q2m G _)).mono ?_;rintro e S C;have K:=hid C;obtain⟨Q,rfl,_,_⟩:=C.val;clear C;go_wp2;go_ret;exact K.o
theorem v4d{w0:World}{b:Nat}{y z:Td}{k l:Fo}(tx:ByteArray)(n:Int)(hX:ExL w0 b y k)(hZ:ExL w0 b z l)(B:(q0g y k.D).N.length<=1000)(C:(q0g z l.D).N.length<=1000):ExL w0 b ⟨5,tx,n⟩ (Fo.cons y k (.cons z l .nil)):=by
 intro r w M;have K:Hid (Calls prog 134 #[.pointer (some ⟨b,0,none⟩)] w fun e w'=>e=.returned (tdV ⟨5,tx,n⟩)/\Lk w0 b w ((Fo.cons y k (.cons z l .nil)).N++r) w'):=q3p M;generalize L:(q0g ⟨5,tx,n⟩ (Fo.cons y k (.cons z l .nil)).D).N=R;have E:Hid ((q0g ⟨5,tx,n⟩ (Fo.cons y k (.cons z l .nil)).D).N=R):=L;clear M L;go_in;go_wp2_with fail;refine K.o.mono ?_;rintro e J⟨rfl,G⟩
 have P:Hid (∀W:World,Below J J W->Calls prog 184 #[.pointer (some ⟨b,0,none⟩),.int .i64 5,.string ⟨#[43,32]⟩] W fun e w'=>NdG w0 b w R r e w'):=fun W hb=>by
  rw[<-E.o];have A:=(G.step hb).ly;have I:(Fo.cons y k (.cons z l .nil)).N++r=y::(k.N++(z::(l.N++r))):=by simp[Fo.N]
  rw[I]at A;exact(z6k hX hZ B C 5 (by decide) ⟨#[43,32]⟩ r W A).mono fun e w' h=>NdG.then (G.step hb) h
 clear G K hX hZ B C;go_wp2_with fail;refine(P.o _ (q2m J _)).mono ?_;rintro e S H;have O:=hid H;obtain⟨Q,rfl,_,_⟩:=H.val;clear H;go_wp2;go_ret;exact O.o
theorem v4b{w0:World}{b:Nat}{y z:Td}{k l:Fo}(tx:ByteArray)(n:Int)(hX:ExL w0 b y k)(hZ:ExL w0 b z l)(B:(q0g y k.D).N.length<=1000)(C:(q0g z l.D).N.length<=1000):ExL w0 b ⟨6,tx,n⟩ (Fo.cons y k (.cons z l .nil)):=by
 intro r w M;have K:Hid (Calls prog 134 #[.pointer (some ⟨b,0,none⟩)] w fun e w'=>e=.returned (tdV ⟨6,tx,n⟩)/\Lk w0 b w ((Fo.cons y k (.cons z l .nil)).N++r) w'):=q3p M;generalize L:(q0g ⟨6,tx,n⟩ (Fo.cons y k (.cons z l .nil)).D).N=R;have E:Hid ((q0g ⟨6,tx,n⟩ (Fo.cons y k (.cons z l .nil)).D).N=R):=L;clear M L;go_in;go_wp2_with fail;refine K.o.mono ?_;rintro e J⟨rfl,G⟩
 have P:Hid (∀W:World,Below J J W->Calls prog 184 #[.pointer (some ⟨b,0,none⟩),.int .i64 6,.string ⟨#[42,32]⟩] W fun e w'=>NdG w0 b w R r e w'):=fun W hb=>by
  rw[<-E.o];have A:=(G.step hb).ly;have I:(Fo.cons y k (.cons z l .nil)).N++r=y::(k.N++(z::(l.N++r))):=by simp[Fo.N]
  rw[I]at A;exact(z6k hX hZ B C 6 (by decide) ⟨#[42,32]⟩ r W A).mono fun e w' h=>NdG.then (G.step hb) h
 clear G K hX hZ B C;go_wp2_with fail;refine(P.o _ (q2m J _)).mono ?_;rintro e S H;have O:=hid H;obtain⟨Q,rfl,_,_⟩:=H.val;clear H;go_wp2;go_ret;exact O.o
theorem k9e(x:Td)(k n:Fo):z2y k.D<=20*(Fo.cons x k n).N.length/\(q0g x k.D).N.length<=20*(Fo.cons x k n).N.length:=by
 have h:=z5u (.cons x k n);have B:=z5u k;rw[Fo.D,q1y]at h;have e:(x,q0g x k.D).2=q0g x k.D:=rfl;rw[e]at h;have A:k.N.length<=(Fo.cons x k n).N.length:=by simp only[Fo.N,List.length_cons,List.length_append];omega
 omega
theorem z8v{w0:World}{b:Nat}(ht:z7n w0):∀F:Fo,F.ok->F.exs->F.N.length<=50->EAL w0 b F
 | .nil,_,_,_=>trivial
 | .cons x k n,hok,hex,hlen=>by
  have hl1:k.N.length+n.N.length+1<=50:=by simp only[Fo.N,List.length_cons,List.length_append]at hlen;omega
  have J:EAL w0 b k:=z8v ht k hok.2.1 (fun y hy=>hex y (by simp[Fo.N,hy])) (by omega);have M:EAL w0 b n:=z8v ht n hok.2.2 (fun y hy=>hex y (by simp[Fo.N,hy])) (by omega);refine⟨?_,M⟩;have O:=hex x (by simp[Fo.N]);have A:=hok.1;have H:z2y k.D<=1000:=by have:=(k9e x k n).1;omega
  obtain⟨P,K,m⟩:=x;rcases q1l O with⟨B,E,G,I,C⟩|⟨B,E,G,C⟩|⟨B,E,G,I,C⟩|⟨B,E,G,I,C⟩|⟨B,E,G,C⟩|⟨B,E,G,C⟩
  ·rw[C]at A;cases k with
   | cons=>simp[Fo.len]at A
   | nil=>
    dsimp only at B G I;subst B;exact v4c ht m G I K
  ·rw[C]at A;cases k with
   | cons=>simp[Fo.len]at A
   | nil=>
    dsimp only at B E;subst B;have L:=q1q E;rw[q0c]at L;exact j6g K (by omega) m
  ·rw[C]at A;dsimp only at B E G I A;subst B
   have:m=(k.len:Int):=by omega
   subst this;have L:=q1q E;rw[q0c]at L;exact j6e K (by omega) J H (by omega)
  ·rw[C]at A;dsimp only at B G I A;subst B
   have:m=(k.len:Int):=by omega
   subst this;exact j6f K J H (by omega)
  all_goals
   rw[C]at A;dsimp only at B;subst B;cases k with
   | nil=>simp[Fo.len]at A
   | cons y ky r=>
    cases r with
    | nil=>simp[Fo.len]at A
    | cons z kz r2=>
     cases r2 with
     | cons=>simp[Fo.len]at A
     | nil=>
      have Q:=(k9e y ky (.cons z kz .nil)).2;have R:=(k9e z kz .nil).2;have S:(Fo.cons z kz .nil).N.length<=(Fo.cons y ky (.cons z kz .nil)).N.length:=by simp only[Fo.N,List.length_cons,List.length_append];omega
      first
       | exact v4d K m J.1 J.2.1 (by omega) (by omega)
       | exact v4b K m J.1 J.2.1 (by omega) (by omega)
def GOk(g:List Wd):Prop:=g≠[]/\g.length<=60/\∀w∈g,w≠[]/\w.length<=20/\∀b∈w,q5g b=true
theorem v9g:∀g:List Wd,g≠[]->(∀w∈g,∀b∈w,b≠32)->q4h (jb g)=g
 | [w],_,h=>by
  have e:jb [w]=w:=by simp[jb]
  rw[e,z9y w (h w (by simp))]
 | w::u::r,_,h=>by
  have A:=v9g (u::r) (by simp) fun x hx=>h x (by simp at hx⊢;right;exact hx)
  have e:jb (w::u::r)=w++32::jb (u::r):=rfl;rw[e,z9x _ _ (h w (by simp)),A]
theorem v0n{b:UInt8}(h:q5g b=true):b≠32:=fun e=>by subst e;revert h;decide
theorem j5o{g:List Wd}(h:GOk g):jb g≠[]:=by
 obtain⟨w,r,rfl⟩:=List.exists_cons_of_ne_nil h.1;have A:=(h.2.2 w (by simp)).1;intro e
 have:w++(match r with|[]=>[]|_::_=>32::jb r)=[]:=e
 exact A (List.append_eq_nil_iff.1 this).1
theorem j7v{g:List Wd}(h:GOk g):q0e (jb g)=g/\q1x (wbS (jb g))=0:=by
 have B:q0e (jb g)=g:=by rw[q0e,if_neg (j5o h),v9g g h.1 fun w A b hb=>v0n ((h.2.2 w A).2.2 b hb)]
 refine⟨B,?_⟩;show q0s ((q0e (jb g)).map wbS)=0;rw[B,q0s,if_neg (by rw[List.length_map];have:=h.2.1;omega),if_pos];rw[List.all_eq_true];intro x C;obtain⟨w,A,rfl⟩:=List.mem_map.1 C;obtain⟨D,G,E⟩:=h.2.2 w A;have e:(wbS w).size=w.length:=by rw[<-q0c];rfl
 have:=List.length_pos_iff.2 D
 simp only[okW,Bool.and_eq_true,decide_eq_true_eq,List.all_eq_true];exact⟨⟨by omega,by omega⟩,E⟩
abbrev lnW(g:List Wd):Wd:=[35,32]++jb g
theorem v8d{g:List Wd}(h:GOk g):k3x (wbS (jb g))=lnW g:=by
 have e:(wbS (jb g)).size=(jb g).length:=by rw[<-q0c];rfl
 have:=List.length_pos_iff.2 (j5o h)
 rw[k3x,if_neg (by omega)];rfl
theorem y2p{g:List Wd}(h:GOk g)(rest:List UInt8)(i:Nat):(lxW (lnW g++10::rest) i).map (·.2)=lnW g::(lxW rest (i+(lnW g).length+1)).map (·.2)/\lxF (lnW g++10::rest) i=lxF rest (i+(lnW g).length+1):=by
 have A:=v8f (k8m (j7v h).2) rest i;rw[v8d h]at A;rw[lxW,lxF,A];exact⟨rfl,rfl⟩
inductive FmS (t:List Td):List UInt8->List Wd->Prop where
 | doc {r cs cs'}:opT t≠9->(q0j t).lay 0 cs=.ok (r,cs')->FmS t (r++[10]) (q8p t)
 | empty {x}:t=[x]->x.op=9->btL x.tx=[]->FmS t [35,10] [[35]]
 | note {x gs}:t=[x]->x.op=9->gs≠[]->(∀g∈gs,GOk g)->gs.flatten=q0e (btL x.tx)->btL x.tx≠[]->FmS t (gs.flatMap fun g=>lnW g++[10]) (gs.map lnW)
inductive FmP:List (List Td)->List UInt8->List Wd->Prop where
 | nil:FmP [] [] []
 | cons {t ps s ss ws us}:FmS t s ws->FmP ps ss us->FmP (t::ps) (s++ss) (ws++us)
theorem v8e:∀(gs:List (List Wd)),(∀g∈gs,GOk g)->∀(rest:List UInt8)(i:Nat),∃j,(lxW ((gs.flatMap fun g=>lnW g++[10])++rest) i).map (·.2)=gs.map lnW++(lxW rest j).map (·.2)/\lxF ((gs.flatMap fun g=>lnW g++[10])++rest) i=lxF rest j
 | [],_,rest,i=>⟨i,by simp,by simp⟩
 | g::gs,h,rest,i=>by
  obtain⟨a1,a2⟩:=y2p (h g (by simp)) ((gs.flatMap fun g=>lnW g++[10])++rest) i;obtain⟨j,b1,b2⟩:=v8e gs (fun x hx=>h x (by simp[hx])) rest (i+(lnW g).length+1);have e:((g::gs).flatMap fun g=>lnW g++[10])++rest=lnW g++10::((gs.flatMap fun g=>lnW g++[10])++rest):=by simp
  refine⟨j,?_,?_⟩
  ·rw[e,a1,b1];simp
  ·rw[e,a2,b2]
theorem y6d{t:List Td}(h:q0b t=0){s:List UInt8}{ws:List Wd}(hf:FmS t s ws)(rest:List UInt8)(i:Nat):∃j,(lxW (s++rest) i).map (·.2)=ws++(lxW rest j).map (·.2)/\lxF (s++rest) i=lxF rest j:=by
 cases hf with
 | doc h9 hr=>
  have B:=Lx.post (y5k h h9 (.inr ⟨_,_,_,hr⟩)) (c:=10) (by decide) (Lx.blank (c:=10) (by decide));rw[List.append_nil]at B;exact⟨_,B rest i (q8b (by decide) _ _)⟩
 | empty=>
  have D:q1x (⟨#[]⟩:ByteArray)=0:=by decide
  have A:=v8f (k8m D) rest i;have C:k3x (⟨#[]⟩:ByteArray)=[35]:=rfl;rw[C]at A;refine⟨i+([35]:Wd).length+1,?_,?_⟩
  ·show(lxW ([35]++10::rest) i).map (·.2)=_
   rw[lxW,A];rfl
  ·show lxF ([35]++10::rest) i=_;rw[lxF,A]
 | note _ _ _ hg=>exact v8e _ hg rest i
theorem v7p:∀{ps:List (List Td)}{s:List UInt8}{ws:List Wd}{prev:Int},okP prev ps->FmP ps s ws->∀i,(lxW s i).map (·.2)=ws/\lxF s i=none
 | _,_,_,_,_,.nil,i=>by rw[lxW,lxF,z2c];exact⟨rfl,rfl⟩
 | _,_,_,_,h,.cons h1 h2,i=>by
  obtain⟨j,a1,a2⟩:=y6d h.1 h1 _ i;obtain⟨b1,b2⟩:=v7p h.2.2 h2 j;rw[a1,a2,b1,b2];exact⟨rfl,rfl⟩
theorem y7j{t:List Td}(h:q0b t=0)(h9:opT t≠9){pv:Bool}{D:List (List Td)}{rest:List Wd}{R:Rp}(hr:PG false (D++[t]) rest R):PG pv D (q8p t++rest) R:=by
 rcases q3h h with⟨x,rfl,B,_⟩|⟨x,F,rfl,G,I,U,C⟩
 ·exact absurd B h9
 ·have J:F.len=kdT x:=by
   rw[U];unfold kdT;rcases C with⟨h,_⟩|⟨h,_⟩<;>rw[h]<;>rfl
  obtain⟨_,V⟩:=z0l G J;have P:F.R.length=1:=by rw[q4q];exact U
  obtain⟨t,O⟩:∃t,F.R=[t]:=by
   match F.R,P with
   | [t],_=>exact⟨t,rfl⟩
  have H:=z0h F G I t (by rw[O];simp)
  have M:t.ns=F.N:=by
   have:=q7q F
   rw[O]at this;simpa using this
  have A:=z8x H (rest:=[59]::rest) (by simp) (by simp) (by simp);rw[M]at A;rw[V,O];rcases C with⟨B,L,K⟩|⟨B,Q,K⟩
  ·have S:stK x [t]++rest=z4d::btL x.tx::[61]::(t.tk++[59]::rest):=by simp[stK,B,hdK]
   have C:x=z6j (btL x.tx):=z1w B rfl K;rw[S];refine .letO L A ?_;rw[<-C];exact hr
  ·have S:stK x [t]++rest=t.tk++[59]::rest:=by simp[stK,B,hdK]
   have C:x=doT:=z1w B Q K;obtain⟨w,z,W,X⟩:=H.b;have E:=z3j X;rw[S];rw[W,List.cons_append]at A⊢;refine .doO E.2.2.2.2 E.2.2.2.1 A ?_;rw[<-C];exact hr
theorem z4j{g:List Wd}(h:GOk g):q4x (lnW g)=jb g:=by
 have:=z6o (j7v h).2
 rw[v8d h]at this;exact this
theorem k1v:∀(a b:List Wd),a≠[]->b≠[]->jb (a++b)=jb a++32::jb b
 | [w],b,_,hb=>by
  obtain⟨u,r,rfl⟩:=List.exists_cons_of_ne_nil hb;simp[jb]
 | w::u::r,b,_,hb=>by
  have ih:=k1v (u::r) b (by simp) hb;have e1:jb (w::u::r++b)=w++32::jb (u::r++b):=rfl;have e2:jb (w::u::r)=w++32::jb (u::r):=rfl;rw[e1,e2,ih];simp
theorem v5e:∀(gs:List (List Wd)),(∀g∈gs,GOk g)->∀(acc:List (List Td))(g0:List Wd),GOk g0->∀{rest:List Wd}{R:Rp},PG true (acc++[[ntT (jb (g0++gs.flatten))]]) rest R->PG true (acc++[[ntT (jb g0)]]) (gs.map lnW++rest) R
 | [],_,acc,g0,_,rest,R,h=>by simpa using h
 | g::gs,hg,acc,g0,h0,rest,R,h=>by
  have hgg:=hg g (by simp);rw[List.map_cons,List.cons_append];refine .note rfl ?_;rw[z4j hgg]
  have e1:k7a true (acc++[[ntT (jb g0)]]) (jb g)=acc++[[ntT (jb (g0++g))]]:=by
   have e:q4u (acc++[[ntT (jb g0)]])=jb g0:=by simp[q4u,ntT];rfl
   show(acc++[[ntT (jb g0)]]).dropLast++[[ntT (z0w (q4u (acc++[[ntT (jb g0)]])) (jb g))]]=_
   rw[e,z0w,if_pos ⟨j5o hgg,j5o h0⟩,k1v g0 g h0.1 hgg.1];simp
  rw[e1]
  have C:∀(gs:List (List Wd)),(∀g∈gs,GOk g)->∀(z:List Wd),z≠[]->jb z≠[]->∀{rest:List Wd}{R:Rp},PG true (acc++[[ntT (jb (z++gs.flatten))]]) rest R->PG true (acc++[[ntT (jb z)]]) (gs.map lnW++rest) R:=by
   intro gs
   induction gs with
   | nil=>intro _ z _ _ rest R h;simpa using h
   | cons g gs ih=>
    intro hg z A B rest R h;have hgg:=hg g (by simp);rw[List.map_cons,List.cons_append];refine .note rfl ?_;rw[z4j hgg]
    have e1:k7a true (acc++[[ntT (jb z)]]) (jb g)=acc++[[ntT (jb (z++g))]]:=by
     have e:q4u (acc++[[ntT (jb z)]])=jb z:=by simp[q4u,ntT];rfl
     show(acc++[[ntT (jb z)]]).dropLast++[[ntT (z0w (q4u (acc++[[ntT (jb z)]])) (jb g))]]=_
     rw[e,z0w,if_pos ⟨j5o hgg,B⟩,k1v z g A hgg.1];simp
    rw[e1];refine ih (fun x hx=>hg x (by simp[hx])) (z++g) (by simp[A]) (by rw[k1v z g A hgg.1];simp) ?_;simpa[List.append_assoc]using h
  refine C gs (fun x hx=>hg x (by simp[hx])) (g0++g) (by simp[h0.1]) (by rw[k1v g0 g h0.1 hgg.1];simp) ?_;simpa[List.append_assoc]using h
theorem v7q:∀{ps:List (List Td)}{s:List UInt8}{ws:List Wd},FmP ps s ws->∀(prev:Int)(pv:Bool)(acc:List (List Td)),okP prev ps->(pv=true->prev=9)->PG pv acc ws (.ok (acc++ps))
 | _,_,_,.nil,_,_,acc,_,_=>by simpa using PG.done
 | t::ps,_,_,.cons (us:=us) h1 h2,prev,pv,acc,h,hpv=>by
  have ih:∀pv',(pv'=true->opT t=9)->PG pv' (acc++[t]) us (.ok (acc++[t]++ps)):=fun pv' h'=>v7q h2 (opT t) pv' (acc++[t]) h.2.2 h'
  have e0:acc++t::ps=acc++[t]++ps:=by simp
  rw[e0]
  have E:opT t=9->pv=false:=fun ho=>by
   cases pv with
   | false=>rfl
   | true=>exact absurd ⟨ho,hpv rfl⟩ h.2.1
  cases h1 with
  | doc h9 _=>exact y7j h.1 h9 (ih false (fun e=>by cases e))
  | @empty x he ho hx=>
   subst he;have A:opT [x]=9:=ho;rw[E A]
   have B:x.n=0:=by
    rcases q3h h.1 with⟨y,e,_,B,_⟩|⟨y,F,e,_,_,M,J⟩
    ·cases e;exact B
    ·rcases J with⟨I,_⟩|⟨I,_⟩<;>(have:x=y:=by injection e)<;>subst this<;>omega
   have C:x=ntT (btL x.tx):=z1w ho rfl B;refine .note rfl ?_
   have G:k7a false acc (q4x [35])=acc++[[x]]:=by
    rw[k7a];simp only[Bool.false_eq_true,if_false];rw[C,hx];rfl
   rw[G];exact ih true (fun _=>A)
  | @note x gs he ho hne hg hfl hx=>
   subst he;have A:opT [x]=9:=ho;rw[E A]
   have B:x.n=0/\q1x x.tx=0:=by
    rcases q3h h.1 with⟨y,e,_,B,L⟩|⟨y,F,e,_,_,M,J⟩
    ·cases e;exact⟨B,L⟩
    ·rcases J with⟨I,_⟩|⟨I,_⟩<;>(have:x=y:=by injection e)<;>subst this<;>omega
   have C:x=ntT (btL x.tx):=z1w ho rfl B.1;obtain⟨g,H,rfl⟩:=List.exists_cons_of_ne_nil hne;have D:=hg g (by simp);rw[List.map_cons,List.cons_append];refine .note rfl ?_;rw[z4j D];have G:k7a false acc (jb g)=acc++[[ntT (jb g)]]:=rfl;rw[G];refine v5e H (fun z hz=>hg z (by simp[hz])) acc g D ?_
   have K:jb (g++H.flatten)=btL x.tx:=by
    have:g++H.flatten=q0e (btL x.tx):=by rw[<-hfl];rfl
    rw[this,q0e,if_neg hx,z3z]
   rw[K,<-C];exact ih true (fun _=>A)
end Go.Proofs.YtfdppahhbpfnoaaGreatDoor
namespace Go.Proofs.YtfdppahhbpfnoaaGreatDoor
theorem j3v(wd:Nat):∀(l:List UInt8)(o n:Int)(c:Nat),l.foldl (stp wd) (o,n,(c:Int))=(o+(q1p wd c l).1,n+(q1p wd c l).2.1,((q1p wd c l).2.2:Int))
 | [],o,n,c=>by simp[q1p]
 | b::r,o,n,c=>by
  have e3:(b::r).foldl (stp wd) (o,n,(c:Int))=r.foldl (stp wd) (stp wd (o,n,(c:Int)) b):=rfl;rw[e3];simp only[q1p];by_cases hb:b=10
  ·have e4:stp wd (o,n,(c:Int)) b=(o,n+1,((0:Nat):Int)):=by simp[stp,hb]
   rw[e4,j3v wd r,if_pos hb];simp only[Prod.mk.injEq,and_true,true_and];omega
  ·have e4:stp wd (o,n,(c:Int)) b=(o+(if wd<=c then 1 else 0:Nat),n,((c+1:Nat):Int)):=by
    by_cases h:wd<=c
    ·have A:(wd:Int)<(c:Int)+1:=by omega
     simp[stp,hb,h,A]
    ·have A:¬(wd:Int)<(c:Int)+1:=by omega
     simp[stp,hb,h,A]
   rw[e4,j3v wd r,if_neg hb];simp only[Prod.mk.injEq,and_true];omega
theorem y0z(wd:Nat)(l:List UInt8):stL wd l=(((q1p wd 0 l).1:Int),((q1p wd 0 l).2.1:Int),((q1p wd 0 l).2.2:Int)):=by
 have:=j3v wd l 0 0 0
 simpa[stL]using this
end Go.Proofs.YtfdppahhbpfnoaaGreatDoor
namespace Go.Proofs.YtfdppahhbpfnoaaGreatDoor
open Go Go.RowKit
theorem q1s.but{B b:Nat}{v:Value}{xs:List Td}{w w':World}(h:q1s B v xs w)(hb:But w b w w')(hB:b<B):q1s B v xs w':=h.kept fun g h1 h2=>hb.block g h2 (by omega)
end Go.Proofs.YtfdppahhbpfnoaaGreatDoor
