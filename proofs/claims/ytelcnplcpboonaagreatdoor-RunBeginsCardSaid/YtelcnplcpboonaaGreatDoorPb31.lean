import Derived.Test.YtelcnplcpboonaaGreatDoorPb27
import Derived.Test.YtelcnplcpboonaaGreatDoorPb25
open Go.Proofs.Tryz
namespace Go.Proofs.YtelcnplcpboonaaGreatDoor
open Go Go.RowKit
set_option maxRecDepth 100000
set_option maxHeartbeats 8000000
abbrev ExL(w0:World)(b:Nat)(x:Td)(k:Fo):Prop:=∀(rest:List Td)(w:World),LyE w0 b (x::(k.N++rest)) w->
 Calls prog 247 #[.pointer (some ⟨b,0,none⟩)] w fun e w'=>NdG w0 b w (q0n x k.D).N rest e w'
def EAL(w0:World)(b:Nat):Fo->Prop
 | .nil=>True
 | .cons x k n=>ExL w0 b x k/\EAL w0 b n
theorem LyE.in{w0:World}{b:Nat}{ds:List Td}{w:World}(h:LyE w0 b ds w):b<w.heap.size:=by
 obtain⟨A,c,h⟩:=h;exact h.in
theorem LyE.lk{w0:World}{b:Nat}{ds:List Td}{w:World}(h:LyE w0 b ds w):Lk w0 b w ds w:=⟨But.refl _ _ _,h,h.in⟩
theorem z9s{w0:World}{b:Nat}:∀(K:Fo),EAL w0 b K->K.len≠0->z4t K.D<=1000->K.len<=1000->∀(r:List Td)(w:World),LyE w0 b (K.N++r) w->
  Calls prog 285 #[.pointer (some ⟨b,0,none⟩),.int .i64 (K.len:Int)] w fun e w'=>NdG w0 b w (kdD K.D).N r e w'
 | .nil,_,h0,_,_,_,_,_=>absurd rfl h0
 | .cons y ky .nil,hE,_,_,_,r,w,hW=>by
  have HX:Hid (Calls prog 247 #[.pointer (some ⟨b,0,none⟩)] w fun e w'=>NdG w0 b w (q0n y ky.D).N r e w'):=hE.1 r w (by simpa[Fo.N]using hW);show Calls prog 285 #[.pointer (some ⟨b,0,none⟩),.int .i64 1] w fun e w'=>NdG w0 b w (q0n y ky.D).N r e w'
  generalize(q0n y ky.D).N=xs at HX⊢
  clear hE hW;go_in;go_wp2_with fail;refine HX.o.mono ?_;rintro e w1 h1;have HR:Hid (NdG w0 b w xs r e w1):=h1;obtain⟨v1,rfl,_,_⟩:=h1.val;clear h1;go_wp2;go_ret;exact HR.o
 | .cons y ky (.cons z kz n),hE,_,hs,hkl,r,w,hW=>by
  have hs2:(q0n y ky.D).N.length+z4t (Fo.cons z kz n).D<=1000:=by
   rw[Fo.D,q3m]at hs;have h:(q0n y ky.D).N.length+5+z4t (Fo.cons z kz n).D<=1000:=hs;omega
  have G:=v3d (Fo.cons z kz n).D;have S:n.len<=1000:=by simp only[Fo.len]at hkl;omega
  have HX:Hid (Calls prog 247 #[.pointer (some ⟨b,0,none⟩)] w fun e w'=>NdG w0 b w (q0n y ky.D).N ((Fo.cons z kz n).N++r) e w'):=hE.1 _ w (by simpa[Fo.N]using hW)
  have J:Hid (∀W,LyE w0 b ((Fo.cons z kz n).N++r) W->Calls prog 285 #[.pointer (some ⟨b,0,none⟩),.int .i64 ((n.len:Int)+1)] W fun e w'=>NdG w0 b W (kdD (Fo.cons z kz n).D).N r e w'):=fun W hW=>by
   have h:=z9s (.cons z kz n) hE.2 (by simp[Fo.len]) (by omega) (by simp only[Fo.len]at hkl⊢;omega) r W hW;have e:(((Fo.cons z kz n).len:Nat):Int)=(n.len:Int)+1:=by simp[Fo.len]
   rw[e]at h;exact h
  have A:Hid (Lk w0 b w ((Fo.cons y ky (.cons z kz n)).N++r) w):=hW.lk;have B:Hid ((kdD (Fo.cons y ky (.cons z kz n)).D).N=⟨6,⟨#[]⟩,0⟩::((⟨6,⟨#[]⟩,0⟩::((q0n y ky.D).N++[⟨1,⟨#[44]⟩,0⟩]))++(⟨6,⟨#[]⟩,0⟩::([⟨2,⟨#[]⟩,0⟩]++(kdD (Fo.cons z kz n).D).N)))):=rfl;have E:(((Fo.cons y ky (.cons z kz n)).len:Nat):Int)=(n.len:Int)+1+1:=by simp[Fo.len]
  rw[E]
  generalize(kdD (Fo.cons y ky (.cons z kz n)).D).N=R at B⊢
  generalize(q0n y ky.D).N=xs at HX B hs2
  generalize(kdD (Fo.cons z kz n).D).N=ks at J B G
  generalize(Fo.cons z kz n).N++r=r1 at HX J
  generalize(Fo.cons y ky (.cons z kz n)).N++r=r0 at A
  generalize z4t (Fo.cons z kz n).D=sd at hs2 G;generalize n.len=nl at J S⊢;have q:((nl:Int)+1+1==1)=false:=by simp;omega
  clear hE hW hs hkl E;go_in;go_wp2_with fail;refine(HX.o).mono ?_;rintro e w1 h1;obtain⟨v1,rfl,i,g⟩:=h1.val;replace A:=hid (A.o.then g);have I:=hid i;clear h1 i g;go_wp2_with fail;refine(q1q _ _).mono ?_;rintro e w2 Z;obtain⟨s,rfl,j,M⟩:=Z.valB A.o.in;replace A:=hid (A.o.step M);replace I:=hid (I.o.bel M);have U:=hid j;clear Z j M;go_wp2_with fail;refine(q1b _ I.o.val U.o.val (by first|(simp;done)|(simp;omega))).mono ?_;rintro e w3 a;obtain⟨t,rfl,k,Y⟩:=a.valB A.o.in;replace A:=hid (A.o.step Y);clear I;clear U;have C:=hid k;clear a k Y;go_wp2_with fail;refine(z0n _).mono ?_;rintro e w4 c;obtain⟨u,rfl,l,O⟩:=c.valB A.o.in;replace A:=hid (A.o.step O);replace C:=hid (C.o.bel O);have H:=hid l;clear c l O;go_wp2_with fail;refine(J.o _ A.o.ly).mono ?_;rintro e w5 d;obtain⟨v,rfl,m,L⟩:=d.val;replace A:=hid (A.o.then L);replace C:=hid (C.o.but L.bt);replace H:=hid (H.o.but L.bt);have V:=hid m;clear d m L;go_wp2_with fail;refine(q1b _ H.o.val V.o.val (by first|(simp;done)|(simp;omega))).mono ?_;rintro e w6 f;obtain⟨x,rfl,o,P⟩:=f.valB A.o.in;replace A:=hid (A.o.step P);clear H;clear V;replace C:=hid (C.o.bel P);have X:=hid o;clear f o P;go_wp2_with fail;refine(q1b _ C.o.val X.o.val (by first|(simp;done)|(simp;omega))).mono ?_;rintro e p Q
  have HX:Hid (NdG w0 b w R r e p):=by
   have h:=Q.gof A.o;show NdG w0 b w R r e p;rw[B.o];exact h
  obtain⟨v7,rfl,_,_⟩:=Q.val;clear Q A B C X;go_wp2;go_ret;exact HX.o
theorem y5i(o c:List UInt8)(ps:List (Td × Tr))(h:ps.length=0):(q2m o c ps).N=[⟨1,wbS (o++c),0⟩]:=by rw[q2m,if_pos h];rfl
theorem y0y(o c:List UInt8)(ps:List (Td × Tr))(h:¬ps.length=0):(q2m o c ps).N=⟨8,⟨#[]⟩,0⟩::(⟨6,⟨#[]⟩,0⟩::([⟨1,wbS o,0⟩]++(⟨6,⟨#[]⟩,0⟩::((⟨7,⟨#[]⟩,2⟩::(⟨6,⟨#[]⟩,0⟩::([⟨3,⟨#[]⟩,0⟩]++(kdD ps).N)))++(⟨6,⟨#[]⟩,0⟩::([⟨3,⟨#[]⟩,0⟩]++[⟨1,wbS c,0⟩])))))):=by rw[q2m,if_neg h];rfl
theorem z1e{w0:World}{b:Nat}(K:Fo)(hE:EAL w0 b K)(hs:z4t K.D<=1000)(I:K.len<=1000)(o c:ByteArray)(ho:o.size<=100)(hc:c.size<=100)(r:List Td)(w:World)(hW:LyE w0 b (K.N++r) w):
  Calls prog 271 #[.pointer (some ⟨b,0,none⟩),.string o,.int .i64 (K.len:Int),.string c] w fun e w'=>NdG w0 b w (q2m (btL o) (btL c) K.D).N r e w':=by
 have A:Hid (Lk w0 b w (K.N++r) w):=hW.lk;by_cases G:K.len=0
 ·have B:Hid ((q2m (btL o) (btL c) K.D).N=[⟨1,o++c,0⟩]):=by
   show _=_;rw[y5i _ _ _ (by rw[z0e];exact G)];have e:wbS (btL o++btL c)=o++c:=by rw[<-q2f,z1i,z1i]
   rw[e]
  have hr:K.N++r=r:=by
   cases K with
   | nil=>rfl
   | cons=>simp[Fo.len]at G
  rw[hr]at A;rw[G]
  generalize(q2m (btL o) (btL c) K.D).N=R at B⊢
  clear hE hs I G hr hW;have Ab:¬9223372036854775807<o.size+c.size:=by omega
  go_in;go_wp2_with fail;refine(q1q _ _).mono ?_;rintro e i J
  have a:Hid (NdG w0 b w R r e i):=by
   have h:=J.gof A.o;show NdG w0 b w R r e i;rw[B.o];exact h
  obtain⟨v1,rfl,_,_⟩:=J.val;clear J A B;go_wp2;go_ret;exact a.o
 ·have B:Hid ((q2m (btL o) (btL c) K.D).N=⟨8,⟨#[]⟩,0⟩::(⟨6,⟨#[]⟩,0⟩::([⟨1,o,0⟩]++(⟨6,⟨#[]⟩,0⟩::((⟨7,⟨#[]⟩,2⟩::(⟨6,⟨#[]⟩,0⟩::([⟨3,⟨#[]⟩,0⟩]++(kdD K.D).N)))++(⟨6,⟨#[]⟩,0⟩::([⟨3,⟨#[]⟩,0⟩]++[⟨1,c,0⟩]))))))):=by
   show _=_;rw[y0y _ _ _ (by rw[z0e];exact G),z1i,z1i]
  have X:Hid (∀W,LyE w0 b (K.N++r) W->Calls prog 285 #[.pointer (some ⟨b,0,none⟩),.int .i64 (K.len:Int)] W fun e w'=>NdG w0 b W (kdD K.D).N r e w'):=fun W hW=>z9s K hE G hs I r W hW
  have P:=v3d K.D
  generalize(q2m (btL o) (btL c) K.D).N=R at B⊢
  generalize(kdD K.D).N=ks at X B P
  generalize z4t K.D=sd at hs P;generalize K.N++r=r0 at A X;generalize K.len=kl at X G⊢;have Aa:((kl:Int)==0)=false:=by simp;omega
  clear hE I hW;go_in;go_wp2_with fail;refine(z9v _).mono ?_;rintro e i J;obtain⟨v1,rfl,n1,q⟩:=J.valB A.o.in;replace A:=hid (A.o.step q);have U:=hid n1;clear J n1 q;go_wp2_with fail;refine(X.o _ A.o.ly).mono ?_;rintro e w2 u;obtain⟨v2,rfl,n2,g⟩:=u.val;replace A:=hid (A.o.then g);replace U:=hid (U.o.but g.bt);have p:=hid n2;clear u n2 g;go_wp2_with fail;refine(q1b _ U.o.val p.o.val (by first|(simp;done)|(simp;omega))).mono ?_;rintro e w3 v;obtain⟨v3,rfl,n3,s⟩:=v.valB A.o.in;replace A:=hid (A.o.step s);clear U;clear p;have j:=hid n3;clear v n3 s;go_wp2_with fail;refine(q7x _ j.o.val (by first|(simp;done)|(simp;omega))).mono ?_;rintro e w4 x;obtain⟨v4,rfl,n4,t⟩:=x.valB A.o.in;replace A:=hid (A.o.step t);clear j;have C:=hid n4;clear x n4 t;go_wp2_with fail;refine(q1q _ _).mono ?_;rintro e w5 y;obtain⟨v5,rfl,n5,d⟩:=y.valB A.o.in;replace A:=hid (A.o.step d);replace C:=hid (C.o.bel d);have E:=hid n5;clear y n5 d;go_wp2_with fail;refine(z9v _).mono ?_;rintro e w6 z;obtain⟨v6,rfl,n6,Y⟩:=z.valB A.o.in;replace A:=hid (A.o.step Y);replace C:=hid (C.o.bel Y);replace E:=hid (E.o.bel Y);have V:=hid n6;clear z n6 Y;go_wp2_with fail;refine(q1q _ _).mono ?_;rintro e w7 h7;obtain⟨v7,rfl,n7,M⟩:=h7.valB A.o.in;replace A:=hid (A.o.step M);replace C:=hid (C.o.bel M);replace E:=hid (E.o.bel M);replace V:=hid (V.o.bel M);have k:=hid n7;clear h7 n7 M;go_wp2_with fail;refine(q1b _ V.o.val k.o.val (by first|(simp;done)|(simp;omega))).mono ?_;rintro e w8 h8;obtain⟨v8,rfl,n8,Z⟩:=h8.valB A.o.in;replace A:=hid (A.o.step Z);clear V;clear k;replace C:=hid (C.o.bel Z);replace E:=hid (E.o.bel Z);have l:=hid n8;clear h8 n8 Z;go_wp2_with fail;refine(q1b _ C.o.val l.o.val (by first|(simp;done)|(simp;omega))).mono ?_;rintro e w9 h9;obtain⟨v9,rfl,n9,f⟩:=h9.valB A.o.in;replace A:=hid (A.o.step f);clear C;clear l;replace E:=hid (E.o.bel f);have m:=hid n9;clear h9 n9 f;go_wp2_with fail;refine(q1b _ E.o.val m.o.val (by first|(simp;done)|(simp;omega))).mono ?_;rintro e Ae O;obtain⟨Ac,rfl,Q,L⟩:=O.valB A.o.in;replace A:=hid (A.o.step L);clear E;clear m;have n:=hid Q;clear O Q L;go_wp2_with fail;refine(z0o _ n.o.val (by first|(simp;done)|(simp;omega))).mono ?_;rintro e S H
  have a:Hid (NdG w0 b w R r e S):=by
   have h:=H.gof A.o;show NdG w0 b w R r e S;rw[B.o];exact h
  obtain⟨Ad,rfl,_,_⟩:=H.val;clear H A B n;go_wp2;go_ret;exact a.o
theorem v9p{l:Nat}{x:Td}{D:Tr}(h:prc x<l):(inD l x D).N=⟨6,⟨#[]⟩,0⟩::([⟨1,⟨#[40]⟩,0⟩]++(⟨6,⟨#[]⟩,0⟩::(D.N++[⟨1,⟨#[41]⟩,0⟩]))):=by
 rw[inD,if_pos h];rfl
theorem y4t{l:Nat}{x:Td}{D:Tr}(h:¬prc x<l):(inD l x D).N=D.N:=by rw[inD,if_neg h]
theorem z9u{w0:World}{b:Nat}{y:Td}{k:Fo}(hX:ExL w0 b y k)(hz:(q0n y k.D).N.length<=1000)(op:Int)(O:op=5\/op=6)(s:Bool)(r:List Td)(w:World)(hW:LyE w0 b (y::(k.N++r)) w):
  Calls prog 286 #[.pointer (some ⟨b,0,none⟩),.int .i64 op,.bool s] w fun e w'=>NdG w0 b w (inD ((op-5).toNat+s.toNat) y (q0n y k.D)).N r e w':=by
 have B:Hid (∀W,Calls prog 262 #[.int .i64 y.op,.int .i64 op,.bool s] W fun e w'=>e=.returned (.bool (decide (prc y<(op-5).toNat+s.toNat)))/\W=w'):=fun W=>(z9z y op O s W).mono fun _ _ h=>⟨h.1,h.2.symm⟩
 have M:Hid (Calls prog 247 #[.pointer (some ⟨b,0,none⟩)] w fun e w'=>NdG w0 b w (q0n y k.D).N r e w'):=hX r w hW;have E:Hid (Lk w0 b w (y::(k.N++r)) w):=hW.lk;obtain⟨A,c,h⟩:=hW;obtain⟨t,u,rfl,X,U,_,_⟩:=h.td 0 (by simp);simp only[List.getElem_cons_zero,Nat.zero_mul,Nat.add_zero]at U;obtain⟨d,_⟩:=q0t h.bl;have e0:w.cell? ⟨t,u,none⟩=some (.int .i64 y.op):=(d _ _ X).trans U;have cR:w.cell? ⟨b,0,none⟩=some (.slice (some ⟨t,u,none⟩) (y::(k.N++r)).length c):=by rw[Lib.cell_of_heap h.x];rfl
 generalize j:(y::(k.N++r)).length=n at cR;have Aa:0<n:=by rw[<-j];simp
 have Ab:(0:Int)<(n:Int):=by omega
 have H:Hid (prc y<(op-5).toNat+s.toNat->(inD ((op-5).toNat+s.toNat) y (q0n y k.D)).N=⟨6,⟨#[]⟩,0⟩::([⟨1,⟨#[40]⟩,0⟩]++(⟨6,⟨#[]⟩,0⟩::((q0n y k.D).N++[⟨1,⟨#[41]⟩,0⟩])))):=v9p;have C:Hid (¬prc y<(op-5).toNat+s.toNat->(inD ((op-5).toNat+s.toNat) y (q0n y k.D)).N=(q0n y k.D).N):=y4t
 generalize(inD ((op-5).toNat+s.toNat) y (q0n y k.D)).N=R at H C⊢
 generalize(q0n y k.D).N=xs at M H C hz
 generalize y::(k.N++r)=r0 at E
 generalize(op-5).toNat+s.toNat=lv at B H C
 generalize prc y=py at B H C;generalize y.op=yo at B e0;clear h d U O j hX;by_cases L:py<lv
 ·have G:=(show Hid (_=_)from H.o L);rw[decide_eq_true L]at B;clear H C L;go_in;go_wp2_with fail;refine(B.o _).mono ?_;rintro e w1⟨rfl,rfl⟩;go_wp2_with fail;refine(M.o).mono ?_;rintro e Y K;obtain⟨v2,rfl,m,l⟩:=K.val;replace E:=hid (E.o.then l);have J:=hid m;clear K m l;go_wp2_with fail;refine(q1q _ _).mono ?_;rintro e w3 f;obtain⟨v3,rfl,o,Q⟩:=f.valB E.o.in;replace E:=hid (E.o.step Q);replace J:=hid (J.o.bel Q);have I:=hid o;clear f o Q;go_wp2_with fail;refine(q1q _ _).mono ?_;rintro e w4 g;obtain⟨v4,rfl,p,P⟩:=g.valB E.o.in;replace E:=hid (E.o.step P);replace J:=hid (J.o.bel P);replace I:=hid (I.o.bel P);have Z:=hid p;clear g p P;go_wp2_with fail;refine(q1b _ J.o.val Z.o.val (by first|(simp;done)|(simp;omega))).mono ?_;rintro e w5 i;obtain⟨v5,rfl,q,S⟩:=i.valB E.o.in;replace E:=hid (E.o.step S);clear J;clear Z;replace I:=hid (I.o.bel S);have a:=hid q;clear i q S;go_wp2_with fail;refine(q1b _ I.o.val a.o.val (by first|(simp;done)|(simp;omega))).mono ?_;rintro e v V
  have M:Hid (NdG w0 b w R r e v):=by
   have h:=V.gof E.o;show NdG w0 b w R r e v;rw[G.o];exact h
  obtain⟨v6,rfl,_,_⟩:=V.val;clear V E G I a;go_wp2;go_ret;exact M.o
 ·have G:=(show Hid (_=_)from C.o L);rw[decide_eq_false L]at B;clear H C L;go_in;go_wp2_with fail;refine(B.o _).mono ?_;rintro e w1⟨rfl,rfl⟩;go_wp2_with fail;refine M.o.mono ?_;rintro e Y K
  have z:Hid (NdG w0 b w R r e Y):=by
   show NdG w0 b w R r e Y;rw[G.o];exact K
  obtain⟨v2,rfl,_,_⟩:=K.val;clear K;go_wp2;go_ret;exact z.o
theorem z5q{w0:World}{b:Nat}{y z:Td}{k l:Fo}(hX:ExL w0 b y k)(hZ:ExL w0 b z l)(J:(q0n y k.D).N.length<=1000)(K:(q0n z l.D).N.length<=1000)(op:Int)(E:op=5\/op=6)(m:ByteArray)(r:List Td)(w:World)
  (hW:LyE w0 b (y::(k.N++(z::(l.N++r)))) w):
  Calls prog 272 #[.pointer (some ⟨b,0,none⟩),.int .i64 op,.string m] w fun e w'=>NdG w0 b w (grD (twD (inD (op-5).toNat y (q0n y k.D)) (dpD (twD blD (twD (wdD (btL m)) (inD ((op-5).toNat+1) z (q0n z l.D))))))).N r e w':=by
 have Q:Hid (Calls prog 286 #[.pointer (some ⟨b,0,none⟩),.int .i64 op,.bool false] w fun e w'=>NdG w0 b w (inD (op-5).toNat y (q0n y k.D)).N (z::(l.N++r)) e w'):=z9u hX J op E false _ w hW;have S:Hid (∀W,LyE w0 b (z::(l.N++r)) W->Calls prog 286 #[.pointer (some ⟨b,0,none⟩),.int .i64 op,.bool true] W fun e w'=>NdG w0 b W (inD ((op-5).toNat+1) z (q0n z l.D)).N r e w'):=fun W hW=>z9u hZ K op E true _ W hW
 have A:Hid (Lk w0 b w (y::(k.N++(z::(l.N++r)))) w):=hW.lk;have L:=v3c (op-5).toNat y (q0n y k.D);have M:=v3c ((op-5).toNat+1) z (q0n z l.D)
 have C:Hid ((grD (twD (inD (op-5).toNat y (q0n y k.D)) (dpD (twD blD (twD (wdD (btL m)) (inD ((op-5).toNat+1) z (q0n z l.D))))))).N=⟨8,⟨#[]⟩,0⟩::(⟨6,⟨#[]⟩,0⟩::((inD (op-5).toNat y (q0n y k.D)).N++(⟨7,⟨#[]⟩,2⟩::(⟨6,⟨#[]⟩,0⟩::([⟨2,⟨#[]⟩,0⟩]++(⟨6,⟨#[]⟩,0⟩::([⟨1,m,0⟩]++(inD ((op-5).toNat+1) z (q0n z l.D)).N)))))))):=by
  show _=_;have e:wbS (btL m)=m:=z1i m;simp only[Tr.N,e]
 generalize(grD (twD (inD (op-5).toNat y (q0n y k.D)) (dpD (twD blD (twD (wdD (btL m)) (inD ((op-5).toNat+1) z (q0n z l.D))))))).N=R at C⊢
 generalize(inD (op-5).toNat y (q0n y k.D)).N=xs at Q C L
 generalize(inD ((op-5).toNat+1) z (q0n z l.D)).N=ys at S C M
 have Aa:xs.length<=1004:=by omega
 have Ab:ys.length<=1004:=by omega
 generalize z::(l.N++r)=r1 at Q S A;generalize y::(k.N++r1)=r0 at A;clear hX hZ J K hW L M E;go_in;go_wp2_with fail;refine(Q.o).mono ?_;rintro e w1 i;obtain⟨v1,rfl,L,u⟩:=i.val;replace A:=hid (A.o.then u);have B:=hid L;clear i L u;go_wp2_with fail;refine(S.o _ A.o.ly).mono ?_;rintro e w2 j;obtain⟨v2,rfl,M,Y⟩:=j.val;replace A:=hid (A.o.then Y);replace B:=hid (B.o.but Y.bt);have H:=hid M;clear j M Y;go_wp2_with fail;refine(z0n _).mono ?_;rintro e w3 n;obtain⟨v3,rfl,v,O⟩:=n.valB A.o.in;replace A:=hid (A.o.step O);replace B:=hid (B.o.bel O);replace H:=hid (H.o.bel O);have G:=hid v;clear n v O;go_wp2_with fail;refine(q1q _ _).mono ?_;rintro e w4 o;obtain⟨v4,rfl,x,I⟩:=o.valB A.o.in;replace A:=hid (A.o.step I);replace B:=hid (B.o.bel I);replace H:=hid (H.o.bel I);replace G:=hid (G.o.bel I);have f:=hid x;clear o x I;go_wp2_with fail;refine(q1b _ f.o.val H.o.val (by first|(simp;done)|(simp;omega))).mono ?_;rintro e w5 p;obtain⟨v5,rfl,n5,P⟩:=p.valB A.o.in;replace A:=hid (A.o.step P);clear f;clear H;replace B:=hid (B.o.bel P);replace G:=hid (G.o.bel P);have Z:=hid n5;clear p n5 P;go_wp2_with fail;refine(q1b _ G.o.val Z.o.val (by first|(simp;done)|(simp;omega))).mono ?_;rintro e w6 q;obtain⟨v6,rfl,n6,U⟩:=q.valB A.o.in;replace A:=hid (A.o.step U);clear G;clear Z;replace B:=hid (B.o.bel U);have a:=hid n6;clear q n6 U;go_wp2_with fail;refine(q7x _ a.o.val (by first|(simp;done)|(simp;omega))).mono ?_;rintro e w7 s;obtain⟨v7,rfl,n7,V⟩:=s.valB A.o.in;replace A:=hid (A.o.step V);clear a;replace B:=hid (B.o.bel V);have c:=hid n7;clear s n7 V;go_wp2_with fail;refine(q1b _ B.o.val c.o.val (by first|(simp;done)|(simp;omega))).mono ?_;rintro e w8 t;obtain⟨v8,rfl,n8,g⟩:=t.valB A.o.in;replace A:=hid (A.o.step g);clear B;clear c;have d:=hid n8;clear t n8 g;go_wp2_with fail;refine(z0o _ d.o.val (by first|(simp;done)|(simp;omega))).mono ?_;rintro e w9 X
 have HX:Hid (NdG w0 b w R r e w9):=by
  have h:=X.gof A.o;show NdG w0 b w R r e w9;rw[C.o];exact h
 obtain⟨v9,rfl,_,_⟩:=X.val;clear X A C d;go_wp2;go_ret;exact HX.o
theorem v2p{w0:World}{b:Nat}(ht:z4x w0)(n:Int)(h0:0<=n)(h9:n<=999999)(tx:ByteArray):ExL w0 b ⟨1,tx,n⟩ Fo.nil:=by
 intro r w O;have J:Hid (Calls prog 245 #[.pointer (some ⟨b,0,none⟩)] w fun e w'=>e=.returned (tdV ⟨1,tx,n⟩)/\Lk w0 b w (Fo.nil.N++r) w'):=q3j O;have Q:Hid (z4x w0):=ht;clear ht;generalize M:(q0n ⟨1,tx,n⟩ Fo.nil.D).N=R;have E:Hid ((q0n ⟨1,tx,n⟩ Fo.nil.D).N=R):=M;clear O M;go_in;go_wp2_with fail;refine J.o.mono ?_;rintro e B⟨rfl,G⟩
 have I:Hid (∀W:World,Below B B W->Calls prog 62 #[.int .i64 n] W fun e w'=>e=.returned (.string (wbS (q1u n.toNat)))/\Below W W w'):=fun W hb=>q8w n h0 h9 W (by
  obtain⟨A,c,U⟩:=G.ly
  exact(Q.o.W U.bl).W hb)
 have K:Hid (∀W:World,Below B B W->Calls prog 248 #[.string (wbS (q1u n.toNat))] W fun e w'=>NdG w0 b w R r e w'):=fun W hb=>(q1q _ W).mono fun e w' h=>by
  rw[<-E.o];exact h.gof (G.step hb)
 generalize wbS (q1u n.toNat)=S at I K;clear G J;go_wp2_with fail;refine(I.o _ (q1c B _)).mono ?_;rintro e V⟨rfl,L⟩;have C:Hid (Below B B V):=q0g (q1c B _) Zl L;clear L;go_wp2_with fail;refine(K.o _ C.o).mono ?_;rintro e Y H;have P:=hid H;obtain⟨X,rfl,_,_⟩:=H.val;clear H;go_wp2;go_ret;exact P.o
theorem j5a{w0:World}{b:Nat}(tx:ByteArray)(Q:tx.size<=100)(n:Int):ExL w0 b ⟨2,tx,n⟩ Fo.nil:=by
 intro r w K;have G:Hid (Calls prog 245 #[.pointer (some ⟨b,0,none⟩)] w fun e w'=>e=.returned (tdV ⟨2,tx,n⟩)/\Lk w0 b w (Fo.nil.N++r) w'):=q3j K;generalize J:(q0n ⟨2,tx,n⟩ Fo.nil.D).N=R;have C:Hid ((q0n ⟨2,tx,n⟩ Fo.nil.D).N=R):=J;clear K J;go_in;go_wp2_with fail;refine G.o.mono ?_;rintro e A⟨rfl,I⟩;have L:Hid (∀W:World,Calls prog 115 #[.string tx] W fun e w'=>e=.returned (.string tx)/\Below W W w'):=fun W=>q7c tx W (by omega)
 have O:Hid (∀W:World,Below A A W->Calls prog 248 #[.string tx] W fun e w'=>NdG w0 b w R r e w'):=fun W hb=>(q1q _ W).mono fun e w' h=>by
  have P:(q0n ⟨2,tx,n⟩ Fo.nil.D).N=[⟨1,tx,0⟩]:=by
   show [(⟨1,wbS (btL tx),0⟩:Nd)]=_;rw[z1i]
  rw[<-C.o,P];exact h.gof (I.step hb)
 clear I G;go_wp2_with fail;refine(L.o _).mono ?_;rintro e S⟨rfl,H⟩;have B:Hid (Below A A S):=q0g (q1c A _) Zl H;clear H;go_wp2_with fail;refine(O.o _ B.o).mono ?_;rintro e V E;have M:=hid E;obtain⟨U,rfl,_,_⟩:=E.val;clear E;go_wp2;go_ret;exact M.o
theorem j4z{w0:World}{b:Nat}{F:Fo}(tx:ByteArray)(hE:EAL w0 b F)(hs:z4t F.D<=1000)(E:F.len<=1000):ExL w0 b ⟨4,tx,(F.len:Int)⟩ F:=by
 intro r w J;have H:Hid (Calls prog 245 #[.pointer (some ⟨b,0,none⟩)] w fun e w'=>e=.returned (tdV ⟨4,tx,(F.len:Int)⟩)/\Lk w0 b w (F.N++r) w'):=q3j J;generalize I:(q0n ⟨4,tx,(F.len:Int)⟩ F.D).N=R;have A:Hid ((q0n ⟨4,tx,(F.len:Int)⟩ F.D).N=R):=I;clear J I;go_in;go_wp2_with fail;refine H.o.mono ?_;rintro e G⟨rfl,B⟩
 have L:Hid (∀W:World,Below G G W->Calls prog 271 #[.pointer (some ⟨b,0,none⟩),.string ⟨#[91]⟩,.int .i64 (F.len:Int),.string ⟨#[93]⟩] W fun e w'=>NdG w0 b w R r e w'):=fun W hb=>(z1e F hE hs E ⟨#[91]⟩ ⟨#[93]⟩ (by decide) (by decide) r W (B.step hb).ly).mono fun e w' h=>by
  have M:q0n ⟨4,tx,(F.len:Int)⟩ F.D=q2m (btL ⟨#[91]⟩) (btL ⟨#[93]⟩) F.D:=rfl;rw[<-A.o,M];exact NdG.then (B.step hb) h
 clear B H hE hs;go_wp2_with fail;refine(L.o _ (q1c G _)).mono ?_;rintro e P C;have K:=hid C;obtain⟨O,rfl,_,_⟩:=C.val;clear C;go_wp2;go_ret;exact K.o
theorem j1z(tx:ByteArray):btL (tx++(⟨#[40]⟩:ByteArray))=btL tx++[40]:=by
 have e:wbS (btL tx)++wbS [40]=wbS (btL tx++[40]):=q2f _ _;rw[z1i]at e;have A:tx++(⟨#[40]⟩:ByteArray)=wbS (btL tx++[40]):=e;rw[A];rfl
theorem y2t(tx:ByteArray):(tx++(⟨#[40]⟩:ByteArray)).size=tx.size+1:=by
 rw[<-q0b,j1z,List.length_append,q0b];rfl
theorem j4y{w0:World}{b:Nat}{F:Fo}(tx:ByteArray)(P:tx.size<=80)(hE:EAL w0 b F)(hs:z4t F.D<=1000)(E:F.len<=1000):ExL w0 b ⟨3,tx,(F.len:Int)⟩ F:=by
 intro r w J;have H:Hid (Calls prog 245 #[.pointer (some ⟨b,0,none⟩)] w fun e w'=>e=.returned (tdV ⟨3,tx,(F.len:Int)⟩)/\Lk w0 b w (F.N++r) w'):=q3j J;generalize I:(q0n ⟨3,tx,(F.len:Int)⟩ F.D).N=R;have A:Hid ((q0n ⟨3,tx,(F.len:Int)⟩ F.D).N=R):=I;clear J I;go_in;go_wp2_with fail;refine H.o.mono ?_;rintro e G⟨rfl,B⟩
 have L:Hid (∀W:World,Below G G W->Calls prog 271 #[.pointer (some ⟨b,0,none⟩),.string (tx++(⟨#[40]⟩:ByteArray)),.int .i64 (F.len:Int),.string ⟨#[41]⟩] W fun e w'=>NdG w0 b w R r e w'):=fun W hb=>(z1e F hE hs E (tx++(⟨#[40]⟩:ByteArray)) ⟨#[41]⟩ (by rw[y2t];omega) (by decide) r W (B.step hb).ly).mono fun e w' h=>by
  have M:q0n ⟨3,tx,(F.len:Int)⟩ F.D=q2m (btL (tx++(⟨#[40]⟩:ByteArray))) (btL ⟨#[41]⟩) F.D:=by rw[j1z];rfl
  rw[<-A.o,M];exact NdG.then (B.step hb) h
 have O:¬9223372036854775807<tx.size+1:=by omega
 clear B H hE hs;go_wp2_with fail;refine(L.o _ (q1c G _)).mono ?_;rintro e S C;have K:=hid C;obtain⟨Q,rfl,_,_⟩:=C.val;clear C;go_wp2;go_ret;exact K.o
theorem v2q{w0:World}{b:Nat}{y z:Td}{k l:Fo}(tx:ByteArray)(n:Int)(hX:ExL w0 b y k)(hZ:ExL w0 b z l)(B:(q0n y k.D).N.length<=1000)(C:(q0n z l.D).N.length<=1000):ExL w0 b ⟨5,tx,n⟩ (Fo.cons y k (.cons z l .nil)):=by
 intro r w M;have K:Hid (Calls prog 245 #[.pointer (some ⟨b,0,none⟩)] w fun e w'=>e=.returned (tdV ⟨5,tx,n⟩)/\Lk w0 b w ((Fo.cons y k (.cons z l .nil)).N++r) w'):=q3j M;generalize L:(q0n ⟨5,tx,n⟩ (Fo.cons y k (.cons z l .nil)).D).N=R;have E:Hid ((q0n ⟨5,tx,n⟩ (Fo.cons y k (.cons z l .nil)).D).N=R):=L;clear M L;go_in;go_wp2_with fail;refine K.o.mono ?_;rintro e J⟨rfl,G⟩
 have P:Hid (∀W:World,Below J J W->Calls prog 272 #[.pointer (some ⟨b,0,none⟩),.int .i64 5,.string ⟨#[43,32]⟩] W fun e w'=>NdG w0 b w R r e w'):=fun W hb=>by
  rw[<-E.o];have A:=(G.step hb).ly;have I:(Fo.cons y k (.cons z l .nil)).N++r=y::(k.N++(z::(l.N++r))):=by simp[Fo.N]
  rw[I]at A;exact(z5q hX hZ B C 5 (by decide) ⟨#[43,32]⟩ r W A).mono fun e w' h=>NdG.then (G.step hb) h
 clear G K hX hZ B C;go_wp2_with fail;refine(P.o _ (q1c J _)).mono ?_;rintro e S H;have O:=hid H;obtain⟨Q,rfl,_,_⟩:=H.val;clear H;go_wp2;go_ret;exact O.o
theorem v2o{w0:World}{b:Nat}{y z:Td}{k l:Fo}(tx:ByteArray)(n:Int)(hX:ExL w0 b y k)(hZ:ExL w0 b z l)(B:(q0n y k.D).N.length<=1000)(C:(q0n z l.D).N.length<=1000):ExL w0 b ⟨6,tx,n⟩ (Fo.cons y k (.cons z l .nil)):=by
 intro r w M;have K:Hid (Calls prog 245 #[.pointer (some ⟨b,0,none⟩)] w fun e w'=>e=.returned (tdV ⟨6,tx,n⟩)/\Lk w0 b w ((Fo.cons y k (.cons z l .nil)).N++r) w'):=q3j M;generalize L:(q0n ⟨6,tx,n⟩ (Fo.cons y k (.cons z l .nil)).D).N=R;have E:Hid ((q0n ⟨6,tx,n⟩ (Fo.cons y k (.cons z l .nil)).D).N=R):=L;clear M L;go_in;go_wp2_with fail;refine K.o.mono ?_;rintro e J⟨rfl,G⟩
 have P:Hid (∀W:World,Below J J W->Calls prog 272 #[.pointer (some ⟨b,0,none⟩),.int .i64 6,.string ⟨#[42,32]⟩] W fun e w'=>NdG w0 b w R r e w'):=fun W hb=>by
  rw[<-E.o];have A:=(G.step hb).ly;have I:(Fo.cons y k (.cons z l .nil)).N++r=y::(k.N++(z::(l.N++r))):=by simp[Fo.N]
  rw[I]at A;exact(z5q hX hZ B C 6 (by decide) ⟨#[42,32]⟩ r W A).mono fun e w' h=>NdG.then (G.step hb) h
 clear G K hX hZ B C;go_wp2_with fail;refine(P.o _ (q1c J _)).mono ?_;rintro e S H;have O:=hid H;obtain⟨Q,rfl,_,_⟩:=H.val;clear H;go_wp2;go_ret;exact O.o
theorem k7b(x:Td)(k n:Fo):z4t k.D<=20*(Fo.cons x k n).N.length/\(q0n x k.D).N.length<=20*(Fo.cons x k n).N.length:=by
 have h:=z9a (.cons x k n);have B:=z9a k;rw[Fo.D,q3m]at h;have e:(x,q0n x k.D).2=q0n x k.D:=rfl;rw[e]at h;have A:k.N.length<=(Fo.cons x k n).N.length:=by simp only[Fo.N,List.length_cons,List.length_append];omega
 omega
theorem z7e{w0:World}{b:Nat}(ht:z4x w0):∀F:Fo,F.ok->F.exs->F.N.length<=50->EAL w0 b F
 | .nil,_,_,_=>trivial
 | .cons x k n,hok,hex,hlen=>by
  have hl1:k.N.length+n.N.length+1<=50:=by simp only[Fo.N,List.length_cons,List.length_append]at hlen;omega
  have J:EAL w0 b k:=z7e ht k hok.2.1 (fun y hy=>hex y (by simp[Fo.N,hy])) (by omega);have M:EAL w0 b n:=z7e ht n hok.2.2 (fun y hy=>hex y (by simp[Fo.N,hy])) (by omega);refine⟨?_,M⟩;have O:=hex x (by simp[Fo.N]);have A:=hok.1;have H:z4t k.D<=1000:=by have:=(k7b x k n).1;omega
  obtain⟨P,K,m⟩:=x;rcases q3i O with⟨B,E,G,I,C⟩|⟨B,E,G,C⟩|⟨B,E,G,I,C⟩|⟨B,E,G,I,C⟩|⟨B,E,G,C⟩|⟨B,E,G,C⟩
  ·rw[C]at A;cases k with
   | cons=>simp[Fo.len]at A
   | nil=>
    dsimp only at B G I;subst B;exact v2p ht m G I K
  ·rw[C]at A;cases k with
   | cons=>simp[Fo.len]at A
   | nil=>
    dsimp only at B E;subst B;have L:=q4a E;rw[q0b]at L;exact j5a K (by omega) m
  ·rw[C]at A;dsimp only at B E G I A;subst B
   have:m=(k.len:Int):=by omega
   subst this;have L:=q4a E;rw[q0b]at L;exact j4y K (by omega) J H (by omega)
  ·rw[C]at A;dsimp only at B G I A;subst B
   have:m=(k.len:Int):=by omega
   subst this;exact j4z K J H (by omega)
  all_goals
   rw[C]at A;dsimp only at B;subst B;cases k with
   | nil=>simp[Fo.len]at A
   | cons y ky r=>
    cases r with
    | nil=>simp[Fo.len]at A
    | cons z kz r2=>
     cases r2 with
     | cons=>simp[Fo.len]at A
     | nil=>
      have Q:=(k7b y ky (.cons z kz .nil)).2;have R:=(k7b z kz .nil).2;have S:(Fo.cons z kz .nil).N.length<=(Fo.cons y ky (.cons z kz .nil)).N.length:=by simp only[Fo.N,List.length_cons,List.length_append];omega
      first
       | exact v2q K m J.1 J.2.1 (by omega) (by omega)
       | exact v2o K m J.1 J.2.1 (by omega) (by omega)
theorem j5n{w0:World}{b:Nat}{xt:ByteArray}{xn:Int}{y:Td}{k:Fo}(hX:ExL w0 b y k)(hz:(q0n y k.D).N.length<=1000)(h8:xt.size<=8)(w:World)(hW:LyE w0 b (⟨7,xt,xn⟩::(y::(k.N++[]))) w):
  Calls prog 225 #[.pointer (some ⟨b,0,none⟩)] w fun e w'=>NdG w0 b w (stD ⟨7,xt,xn⟩ (q0n y k.D)).N [] e w':=by
 have a:Hid (Calls prog 245 #[.pointer (some ⟨b,0,none⟩)] w fun e w'=>e=.returned (.agg #[.int .i64 7,.string xt,.int .i64 xn])/\Lk w0 b w (y::(k.N++[])) w'):=q3j hW;have H:Hid (∀W,LyE w0 b (y::(k.N++[])) W->Calls prog 247 #[.pointer (some ⟨b,0,none⟩)] W fun e w'=>NdG w0 b W (q0n y k.D).N [] e w'):=fun W hW=>hX [] W hW
 have C:Hid ((stD ⟨7,xt,xn⟩ (q0n y k.D)).N=⟨8,⟨#[]⟩,0⟩::(⟨6,⟨#[]⟩,0⟩::([⟨1,(⟨#[108,101,116,32]⟩:ByteArray)++xt++(⟨#[32,61]⟩:ByteArray),0⟩]++(⟨7,⟨#[]⟩,2⟩::(⟨6,⟨#[]⟩,0⟩::([⟨2,⟨#[]⟩,0⟩]++(⟨6,⟨#[]⟩,0⟩::((q0n y k.D).N++[⟨1,⟨#[59]⟩,0⟩])))))))):=by
  show _=_
  have e6:wbS ([108,101,116,32]++btL xt++[32,61])=(⟨#[108,101,116,32]⟩:ByteArray)++xt++(⟨#[32,61]⟩:ByteArray):=by
   have q1:wbS [108,101,116,32]++wbS (btL xt)=wbS ([108,101,116,32]++btL xt):=q2f _ _;have q2:wbS ([108,101,116,32]++btL xt)++wbS [32,61]=wbS ([108,101,116,32]++btL xt++[32,61]):=q2f _ _;rw[<-q2,<-q1];rfl
  rw[<-e6];rfl
 generalize(stD ⟨7,xt,xn⟩ (q0n y k.D)).N=R at C⊢
 generalize(q0n y k.D).N=xs at H C hz
 generalize y::(k.N++[])=r0 at a H;have g1:¬9223372036854775807<4+xt.size:=by omega
 have g2:¬9223372036854775807<4+xt.size+2:=by omega
 clear hX hW;go_in;go_wp2_with fail;refine a.o.mono ?_;rintro e G⟨rfl,i⟩;have L:Hid (∃K,G.alloc (.cells #[.int .i64 7,.string xt,.int .i64 xn] 81)=K/\Lk w0 b w r0 K/\K.heap[G.heap.size]?=some (.cells #[.int .i64 7,.string xt,.int .i64 xn] 81 (0,0))):=⟨_,rfl,i.step (q1c G _),heap_alloc_new G _⟩;have j:G.heap.size≠b:=by have:=i.in;omega
 clear i a;go_wp2_with fail;obtain⟨K,Q,P,S⟩:=L.o;rw[Q];have A:Hid (Lk w0 b w r0 K):=P;have B:Hid (K.heap[G.heap.size]?=some (.cells #[.int .i64 7,.string xt,.int .i64 xn] 81 (0,0))):=S;clear L P S Q;go_wp2_with fail;refine(H.o _ A.o.ly).mono ?_;rintro e w3 r;obtain⟨v3,rfl,z,l⟩:=r.val;replace A:=hid (A.o.then l);replace B:=hid ((l.bt.block _ (Array.getElem?_eq_some_iff.1 B.o).1 j).trans B.o);have X:=hid z;clear r z l;go_wp2_with fail;refine(q1q _ _).mono ?_;rintro e w4 s;obtain⟨v4,rfl,n4,Y⟩:=s.valB A.o.in;replace A:=hid (A.o.step Y);replace B:=hid ((Y.block _ (Array.getElem?_eq_some_iff.1 B.o).1).trans B.o);replace X:=hid (X.o.bel Y);have q:=hid n4;clear s n4 Y;go_wp2_with fail;refine(q1b _ X.o.val q.o.val (by first|(simp;done)|(simp;omega))).mono ?_;rintro e w5 t;obtain⟨v5,rfl,n5,c⟩:=t.valB A.o.in;replace A:=hid (A.o.step c);replace B:=hid ((c.block _ (Array.getElem?_eq_some_iff.1 B.o).1).trans B.o);clear X;clear q;have J:=hid n5;clear t n5 c;have d0:w5.cell? ⟨G,0,none⟩=some (.int .i64 7):=by rw[Lib.cell_of_heap B.o];rfl
 have d1:w5.cell? ⟨G,1,none⟩=some (.string xt):=by rw[Lib.cell_of_heap B.o];rfl
 clear B;go_wp2_with fail;refine(q1q _ _).mono ?_;rintro e w6 u;obtain⟨v6,rfl,n6,d⟩:=u.valB A.o.in;replace A:=hid (A.o.step d);replace J:=hid (J.o.bel d);have E:=hid n6;clear u n6 d;clear d0 d1;go_wp2_with fail;refine(z0n _).mono ?_;rintro e w7 v;obtain⟨v7,rfl,n7,Z⟩:=v.valB A.o.in;replace A:=hid (A.o.step Z);replace J:=hid (J.o.bel Z);replace E:=hid (E.o.bel Z);have m:=hid n7;clear v n7 Z;go_wp2_with fail;refine(q1b _ m.o.val J.o.val (by first|(simp;done)|(simp;omega))).mono ?_;rintro e w8 h8;obtain⟨v8,rfl,n8,f⟩:=h8.valB A.o.in;replace A:=hid (A.o.step f);clear m;clear J;replace E:=hid (E.o.bel f);have p:=hid n8;clear h8 n8 f;go_wp2_with fail;refine(q7x _ p.o.val (by first|(simp;done)|(simp;omega))).mono ?_;rintro e w9 x;obtain⟨v9,rfl,n9,g⟩:=x.valB A.o.in;replace A:=hid (A.o.step g);clear p;replace E:=hid (E.o.bel g);have n:=hid n9;clear x n9 g;go_wp2_with fail;refine(q1b _ E.o.val n.o.val (by first|(simp;done)|(simp;omega))).mono ?_;rintro e Ac O;obtain⟨Aa,rfl,U,M⟩:=O.valB A.o.in;replace A:=hid (A.o.step M);clear E;clear n;have o:=hid U;clear O U M;go_wp2_with fail;refine(z0o _ o.o.val (by first|(simp;done)|(simp;omega))).mono ?_;rintro e V I
 have HX:Hid (NdG w0 b w R [] e V):=by
  have h:=I.gof A.o;show NdG w0 b w R [] e V;rw[C.o];exact h
 obtain⟨Ab,rfl,_,_⟩:=I.val;clear I A C o;go_wp2;go_ret;exact HX.o
theorem v2t{w0:World}{b:Nat}{xt:ByteArray}{xn:Int}{y:Td}{k:Fo}(hX:ExL w0 b y k)(hz:(q0n y k.D).N.length<=1000)(w:World)(hW:LyE w0 b (⟨8,xt,xn⟩::(y::(k.N++[]))) w):
  Calls prog 225 #[.pointer (some ⟨b,0,none⟩)] w fun e w'=>NdG w0 b w (stD ⟨8,xt,xn⟩ (q0n y k.D)).N [] e w':=by
 have S:Hid (Calls prog 245 #[.pointer (some ⟨b,0,none⟩)] w fun e w'=>e=.returned (.agg #[.int .i64 8,.string xt,.int .i64 xn])/\Lk w0 b w (y::(k.N++[])) w'):=q3j hW;have G:Hid (∀W,LyE w0 b (y::(k.N++[])) W->Calls prog 247 #[.pointer (some ⟨b,0,none⟩)] W fun e w'=>NdG w0 b W (q0n y k.D).N [] e w'):=fun W hW=>hX [] W hW
 have B:Hid ((stD ⟨8,xt,xn⟩ (q0n y k.D)).N=⟨6,⟨#[]⟩,0⟩::((q0n y k.D).N++[⟨1,⟨#[59]⟩,0⟩])):=rfl
 generalize(stD ⟨8,xt,xn⟩ (q0n y k.D)).N=R at B⊢
 generalize(q0n y k.D).N=xs at G B hz
 generalize y::(k.N++[])=r0 at S G;clear hX hW;go_in;go_wp2_with fail;refine S.o.mono ?_;rintro e E⟨rfl,U⟩;have I:Hid (∃H,E.alloc (.cells #[.int .i64 8,.string xt,.int .i64 xn] 81)=H/\Lk w0 b w r0 H/\H.heap[E.heap.size]?=some (.cells #[.int .i64 8,.string xt,.int .i64 xn] 81 (0,0))):=⟨_,rfl,U.step (q1c E _),heap_alloc_new E _⟩;have X:E.heap.size≠b:=by have:=U.in;omega
 clear U S;go_wp2_with fail;obtain⟨H,L,K,M⟩:=I.o;rw[L];have C:Hid (Lk w0 b w r0 H):=K;have A:Hid (H.heap[E.heap.size]?=some (.cells #[.int .i64 8,.string xt,.int .i64 xn] 81 (0,0))):=M;clear I K M L;go_wp2_with fail;refine(G.o _ C.o.ly).mono ?_;rintro e o c;obtain⟨l,rfl,f,Y⟩:=c.val;replace C:=hid (C.o.then Y);replace A:=hid ((Y.bt.block _ (Array.getElem?_eq_some_iff.1 A.o).1 X).trans A.o);have O:=hid f;clear c f Y;go_wp2_with fail;refine(q1q _ _).mono ?_;rintro e p d;obtain⟨m,rfl,g,P⟩:=d.valB C.o.in;replace C:=hid (C.o.step P);replace A:=hid ((P.block _ (Array.getElem?_eq_some_iff.1 A.o).1).trans A.o);replace O:=hid (O.o.bel P);have Z:=hid g;clear d g P;go_wp2_with fail;refine(q1b _ O.o.val Z.o.val (by first|(simp;done)|(simp;omega))).mono ?_;rintro e Q V
 have i:Hid (NdG w0 b w R [] e Q):=by
  have h:=V.gof C.o;show NdG w0 b w R [] e Q;rw[B.o];exact h
 obtain⟨n,rfl,_,a⟩:=V.val;have J:Q.heap[E.heap.size]?=some (.cells #[.int .i64 8,.string xt,.int .i64 xn] 81 (0,0)):=(a.block _ (Array.getElem?_eq_some_iff.1 A.o).1).trans A.o;have j:Q.cell? ⟨E,0,none⟩=some (.int .i64 8):=by rw[Lib.cell_of_heap J];rfl
 clear V C B O Z a J A;go_wp2;go_ret;exact i.o
theorem j5m{t:List Td}{a:Option Addr}{C:Nat}{w W:World}{b:Nat}(ht:z4x w)(h:q0c t=0)(h9:opT t≠9)(hc:t.length<=C)(hN:Tds w a t)(G:w.heap.size<=b)(hx:W.heap[b]?=some (.cells #[.slice a t.length C] 301 (0,0)))(hb:Below w w W):
  Calls prog 225 #[.pointer (some ⟨b,0,none⟩)] W fun e w'=>NdR w (q1a t).N e w':=by
 obtain⟨O,X,_,_⟩:=q4d h;obtain⟨x,y,k,rfl,I,J,U,L⟩:=z8a h h9;have B:EAL w b (.cons y k .nil):=z7e ht _ I J (by simp only[List.length_cons]at O;omega)
 have R:(q0n y k.D).N.length<=1000:=by
  have:=(k7b y k .nil).2
  simp only[List.length_cons]at O;omega
 have S:q1a (x::(Fo.cons y k .nil).N)=stD x (q0n y k.D):=z7y I U;have K:x::(Fo.cons y k .nil).N=x::(y::(k.N++[])):=by simp[Fo.N]
 rw[S]
 have Q:LyE w b (x::(y::(k.N++[]))) W:=by
  rw[<-K];exact⟨a,C,hx,hc,hN,hb,G⟩
 have M:Calls prog 225 #[.pointer (some ⟨b,0,none⟩)] W fun e w'=>NdG w b W (stD x (q0n y k.D)).N [] e w':=by
  obtain⟨Z,d,Y⟩:=x;rcases L with⟨E,H,_⟩|⟨E,_,_⟩
  ·dsimp only at E H;subst E;have P:=q4a H;rw[q0b]at P;exact j5n B.1 R P W Q
  ·dsimp only at E;subst E;exact v2t B.1 R W Q
 refine M.mono ?_;rintro e w'⟨A,c,rfl,E,V⟩;exact⟨A,c,rfl,E.down hb.size,hb.trans ((V.bt.mono hb.size).W G)⟩
theorem j5h(t:List Td)(a:Option Addr)(E:Nat)(w:World)(ht:z4x w)(h:q0c t=0)(h9:opT t≠9)(hc:t.length<=E)(hN:Tds w a t):Calls prog 200 #[.slice a t.length E] w fun e w'=>z2e t e w'/\Below w w w':=by
 have B:Hid (∀(W:World)(b:Nat),w.heap.size<=b->W.heap[b]?=some (.cells #[.slice a t.length E] 301 (0,0))->Below w w W->Calls prog 225 #[.pointer (some ⟨b,0,none⟩)] W fun e w'=>NdR w (q1a t).N e w'):=fun W b hlt hx hb=>j5m ht h h9 hc hN hlt hx hb
 have J:=(z1d h h9).n;by_cases L:400<(q1a t).N.length
 ·obtain⟨H,C,_,_⟩:=v2h h h9 L;have K:Hid (∀W,z2e t (.returned (.tuple #[.slice none 0 0,q0s 3])) W):=fun W=>⟨none,0,by rw[H,C];rfl,by rw[C];exact fun i hi=>by simp at hi,by rw[C];exact Nat.le_refl _⟩
  generalize(q1a t).N=xs at B L J
  have P:(400:Int)<(xs.length:Int):=by omega
  clear h h9 H C hN ht;go_in;go_wp2_with fail;refine(B.o _ _ Zl (heap_alloc_new w _) (q1c w _)).mono ?_;rintro e M⟨A,c,rfl,I,G⟩;have D:Hid (Below w w M):=G;clear I G;go_wp2;go_ret2;exact⟨K.o _,D.o⟩
 ·obtain⟨H,C,_,_⟩:=v9z h h9 L;have K:Hid (∀A c W,q2z W A (q1a t).N->(q1a t).N.length<=c->z2e t (.returned (.tuple #[.slice A (q1a t).N.length c,q0s 0])) W):=fun A c W h h2=>⟨A,c,by rw[H,C],by rw[C];exact h,by rw[C];exact h2⟩
  generalize(q1a t).N=xs at B L J K
  have P:¬(400:Int)<(xs.length:Int):=by omega
  clear h h9 H C hN ht;go_in;go_wp2_with fail;refine(B.o _ _ Zl (heap_alloc_new w _) (q1c w _)).mono ?_;rintro e M⟨A,c,rfl,I,G⟩;have D:Hid (Below w w M):=G;have O:=hid (K.o A c M I.nods (k6j I).2.1);clear I G;go_wp2;go_ret2;exact⟨O.o,D.o⟩
end Go.Proofs.YtelcnplcpboonaaGreatDoor
