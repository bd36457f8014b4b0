import Derived.Lib.Split
import Derived.Test.YthcpdohdppkmkaaGreatDoorPl21
open Go.Proofs.Tryz
namespace Go.Proofs.YthcpdohdppkmkaaGreatDoor
open Go Go.RowKit
theorem j5l{s:ByteArray}:btL s=[108,101,116]↔s=⟨#[108,101,116]⟩:=by
 constructor
 ·intro h;apply ByteArray.ext;apply Array.ext';exact h
 ·intro h;rw[h]
theorem k1u{s:ByteArray}(h1:1<=s.size)(h2:s.size<=8)(h3:¬s=⟨#[108,101,116]⟩)(h:∀k(h:k<s.size),q2j s[k]=true):q0p s=true:=by
 have A:btL s≠[108,101,116]:=fun e=>h3 (j5l.1 e)
 simp only[q0p,h1,h2,A,decide_true,Bool.true_and,List.all_eq_true,ne_eq,not_false_eq_true];intro b B;obtain⟨i,C,rfl⟩:=List.getElem_of_mem B;exact h i (by rw[<-q0b];exact C)
theorem k1v{s:ByteArray}{k:Nat}(h:k<s.size)(hb:q2j s[k]=false):q0p s=false:=by
 cases e:q0p s with
 | false=>rfl
 | true=>
  simp only[q0p,Bool.and_eq_true,List.all_eq_true]at e;have A:k<(btL s).length:=by rw[q0b];exact h
  have:=e.2 s[k] (List.getElem_mem A)
  rw[hb]at this;cases this
theorem z4j{s:ByteArray}(h:s.size<1):q0p s=false:=by
 have:decide (1<=s.size)=false:=decide_eq_false (by omega)
 simp[q0p,this]
theorem z6p{s:ByteArray}(h:8<s.size):q0p s=false:=by
 have:decide (s.size<=8)=false:=decide_eq_false (by omega)
 simp[q0p,this]
theorem z1b(s:ByteArray):wbS (btL s)=s:=by
 obtain⟨d⟩:=s;simp[wbS,btL]
theorem j3l{l:List UInt8}(h:Lib.indexByte l 32=-1):∀b∈l,b≠32:=by
 intro b A e;subst e;obtain⟨k,B⟩:=List.getElem?_of_mem A;exact Lib.indexByte_none h k B
theorem k6b{l:List UInt8}{i:Nat}(h:Lib.indexByte l 32=i):i<l.length/\l=l.take i++32::l.drop (i+1)/\∀b∈l.take i,b≠32:=by
 obtain⟨C,D⟩:=Lib.indexByte_some h;obtain⟨B,E⟩:=List.getElem?_eq_some_iff.1 C;refine⟨B,?_,?_⟩
 ·have:=(List.take_append_drop i l).symm
  rw[List.drop_eq_getElem_cons B,E]at this;exact this
 ·intro b G e;subst e;obtain⟨k,A⟩:=List.getElem?_of_mem G;rw[List.getElem?_take]at A
  split at A
  ·rename_i hki;exact D k hki A
  ·cases A
def spK:Nat->ByteArray->List ByteArray
 | 0,s=>[s]
 | k+1,s=>if Lib.indexByte s.data.toList 32=-1 then [s]else s.extract 0 (Lib.indexByte s.data.toList 32).toNat::spK k (s.extract ((Lib.indexByte s.data.toList 32).toNat+1) s.size)
theorem z9e(s:ByteArray):spK 0 s=[s]:=rfl
theorem z0q(k:Nat){s:ByteArray}(h:Lib.indexByte s.data.toList 32=-1):spK k s=[s]:=by
 cases k with
 | zero=>rfl
 | succ k=>rw[spK,if_pos h]
theorem z4t(k:Nat){s:ByteArray}{i:Nat}(h:Lib.indexByte s.data.toList 32=i):spK (k+1) s=s.extract 0 i::spK k (s.extract (i+1) s.size):=by
 rw[spK,if_neg (by omega),h];rfl
theorem y8i(s:ByteArray)(i:Nat):btL (s.extract 0 i)=(btL s).take i:=by
 rw[q9p,List.drop_zero,Nat.sub_zero];rfl
theorem y0k(s:ByteArray)(i:Nat):btL (s.extract i s.size)=(btL s).drop i:=Lib.extract_to_end s i
theorem q8a(s:ByteArray):Lib.indexByte s.data.toList 32=-1\/∃i:Nat,Lib.indexByte s.data.toList 32=i/\i<s.size:=by
 have A:=Lib.indexByte_ge s.data.toList 32;by_cases h:Lib.indexByte s.data.toList 32=-1
 ·exact .inl h
 ·refine .inr ⟨(Lib.indexByte s.data.toList 32).toNat,by omega,?_⟩
  have:=(k6b (l:=btL s) (i:=(Lib.indexByte s.data.toList 32).toNat) (by show Lib.indexByte s.data.toList 32=_;omega)).1
  rw[q0b]at this;exact this
theorem z9g{s:ByteArray}{i:Nat}(h:Lib.indexByte s.data.toList 32=i):q5l (btL s)=btL (s.extract 0 i)::q5l (btL (s.extract (i+1) s.size)):=by
 obtain⟨_,A,B⟩:=k6b (l:=btL s) h;rw[y8i,y0k]
 conv=>lhs;rw[A]
 rw[k7y _ _ B]
theorem k5f{s:ByteArray}(h:Lib.indexByte s.data.toList 32=-1):q5l (btL s)=[btL s]:=k7z _ (j3l (l:=btL s) h)
theorem v6a{s:ByteArray}{i:Nat}(h:i<s.size):(s.extract (i+1) s.size).size=s.size-(i+1):=by
 rw[ByteArray.size_extract];omega
theorem j9p:∀(k:Nat)(s:ByteArray),s.size<=k->(spK k s).map btL=q5l (btL s)
 | 0,s,h=>by
  have e:btL s=[]:=List.eq_nil_of_length_eq_zero (by rw[q0b];omega);rw[z9e,List.map_cons,List.map_nil,e];rfl
 | k+1,s,h=>by
  rcases q8a s with h1|⟨i,h1,h2⟩
  ·rw[z0q _ h1,k5f h1];rfl
  ·rw[z4t k h1,z9g h1,List.map_cons,j9p k _ (by rw[v6a h2];omega)]
theorem j9r:∀(k:Nat)(s:ByteArray),(spK k s).length<=k->(spK k s).map btL=q5l (btL s)
 | 0,s,h=>by rw[z9e]at h;simp at h
 | k+1,s,h=>by
  rcases q8a s with h1|⟨i,h1,h2⟩
  ·rw[z0q _ h1,k5f h1];rfl
  ·rw[z4t k h1]at h⊢;rw[List.length_cons]at h;rw[z9g h1,List.map_cons,j9r k _ (by omega)]
theorem v9e:∀(k:Nat)(s:ByteArray),(spK k s).length<=(q5l (btL s)).length
 | 0,s=>by
  rw[z9e]
  have:=q9n (btL s)
  cases h:q5l (btL s)with
  | nil=>exact absurd h this
  | cons a b=>simp
 | k+1,s=>by
  rcases q8a s with h1|⟨i,h1,h2⟩
  ·rw[z0q _ h1,k5f h1];simp
  ·rw[z4t k h1,z9g h1,List.length_cons,List.length_cons]
   have:=v9e k (s.extract (i+1) s.size)
   omega
theorem j2e{l:List ByteArray}{m:List (List UInt8)}(h:l.map btL=m):l=m.map wbS:=by
 subst h;rw[List.map_map]
 have:(wbS∘btL)=id:=by funext s;exact z1b s
 rw[this,List.map_id]
theorem j9q(s:ByteArray)(k:Nat)(hk:k=min 60 s.size):q1c (spK k s)=q1c ((q5l (btL s)).map wbS):=by
 by_cases h:s.size<=60
 ·rw[j2e (j9p k s (by omega))]
 ·have A:k=60:=by omega
  subst A;by_cases B:(spK 60 s).length<=60
  ·rw[j2e (j9r 60 s B)]
  ·have C:=v9e 60 s;rw[q7h (by omega),q7h (by rw[List.length_map];omega)]
theorem v4w{s:ByteArray}(h:0<s.size)(k:Nat)(hk:k=min 60 s.size):q1c (spK k s)=q2x s:=by
 rw[j9q s k hk,q2x,q0f,if_neg];intro e
 have:=congrArg List.length e
 rw[q0b,List.length_nil]at this;omega
theorem j8b{s:ByteArray}(h:s.size=0):q2x s=0:=by
 have e:btL s=[]:=List.eq_nil_of_length_eq_zero (by rw[q0b];exact h);rw[q2x,q0f,if_pos e];rfl
set_option maxRecDepth 100000
set_option maxHeartbeats 8000000
abbrev ExL(w0:World)(b:Nat)(x:Td)(k:Fo):Prop:=∀(rest:List Td)(w:World),LyE w0 b (x::(k.N++rest)) w->
 Calls prog 171 #[.pointer (some ⟨b,0,none⟩)] w fun e w'=>NdG w0 b w (q0m x k.D).N rest e w'
def EAL(w0:World)(b:Nat):Fo->Prop
 | .nil=>True
 | .cons x k n=>ExL w0 b x k/\EAL w0 b n
theorem LyE.in{w0:World}{b:Nat}{ds:List Td}{w:World}(h:LyE w0 b ds w):b<w.heap.size:=by
 obtain⟨A,c,h⟩:=h;exact h.in
theorem LyE.lk{w0:World}{b:Nat}{ds:List Td}{w:World}(h:LyE w0 b ds w):Lk w0 b w ds w:=⟨But.refl _ _ _,h,h.in⟩
theorem k1l{w0:World}{b:Nat}:∀(K:Fo),EAL w0 b K->K.len≠0->z3e K.D<=1000->K.len<=1000->∀(r:List Td)(w:World),LyE w0 b (K.N++r) w->
  Calls prog 243 #[.pointer (some ⟨b,0,none⟩),.int .i64 (K.len:Int)] w fun e w'=>NdG w0 b w (kdD K.D).N r e w'
 | .nil,_,h0,_,_,_,_,_=>absurd rfl h0
 | .cons y ky .nil,hE,_,_,_,r,w,hW=>by
  have HX:Hid (Calls prog 171 #[.pointer (some ⟨b,0,none⟩)] w fun e w'=>NdG w0 b w (q0m y ky.D).N r e w'):=hE.1 r w (by simpa[Fo.N]using hW);show Calls prog 243 #[.pointer (some ⟨b,0,none⟩),.int .i64 1] w fun e w'=>NdG w0 b w (q0m y ky.D).N r e w'
  generalize(q0m y ky.D).N=xs at HX⊢
  clear hE hW;go_in;go_wp2_with fail;refine HX.o.mono ?_;rintro e w1 h1;have HR:Hid (NdG w0 b w xs r e w1):=h1;obtain⟨v1,rfl,_,_⟩:=h1.val;clear h1;go_wp2;go_ret;exact HR.o
 | .cons y ky (.cons z kz n),hE,_,hs,hkl,r,w,hW=>by
  have hs2:(q0m y ky.D).N.length+z3e (Fo.cons z kz n).D<=1000:=by
   rw[Fo.D,q2l]at hs;have h:(q0m y ky.D).N.length+5+z3e (Fo.cons z kz n).D<=1000:=hs;omega
  have G:=k9w (Fo.cons z kz n).D;have S:n.len<=1000:=by simp only[Fo.len]at hkl;omega
  have HX:Hid (Calls prog 171 #[.pointer (some ⟨b,0,none⟩)] w fun e w'=>NdG w0 b w (q0m y ky.D).N ((Fo.cons z kz n).N++r) e w'):=hE.1 _ w (by simpa[Fo.N]using hW)
  have J:Hid (∀W,LyE w0 b ((Fo.cons z kz n).N++r) W->Calls prog 243 #[.pointer (some ⟨b,0,none⟩),.int .i64 ((n.len:Int)+1)] W fun e w'=>NdG w0 b W (kdD (Fo.cons z kz n).D).N r e w'):=fun W hW=>by
   have h:=k1l (.cons z kz n) hE.2 (by simp[Fo.len]) (by omega) (by simp only[Fo.len]at hkl⊢;omega) r W hW;have e:(((Fo.cons z kz n).len:Nat):Int)=(n.len:Int)+1:=by simp[Fo.len]
   rw[e]at h;exact h
  have A:Hid (Lk w0 b w ((Fo.cons y ky (.cons z kz n)).N++r) w):=hW.lk;have B:Hid ((kdD (Fo.cons y ky (.cons z kz n)).D).N=⟨6,⟨#[]⟩,0⟩::((⟨6,⟨#[]⟩,0⟩::((q0m y ky.D).N++[⟨1,⟨#[44]⟩,0⟩]))++(⟨6,⟨#[]⟩,0⟩::([⟨2,⟨#[]⟩,0⟩]++(kdD (Fo.cons z kz n).D).N)))):=rfl;have E:(((Fo.cons y ky (.cons z kz n)).len:Nat):Int)=(n.len:Int)+1+1:=by simp[Fo.len]
  rw[E]
  generalize(kdD (Fo.cons y ky (.cons z kz n)).D).N=R at B⊢
  generalize(q0m y ky.D).N=xs at HX B hs2
  generalize(kdD (Fo.cons z kz n).D).N=ks at J B G
  generalize(Fo.cons z kz n).N++r=r1 at HX J
  generalize(Fo.cons y ky (.cons z kz n)).N++r=r0 at A
  generalize z3e (Fo.cons z kz n).D=sd at hs2 G;generalize n.len=nl at J S⊢;have q:((nl:Int)+1+1==1)=false:=by simp;omega
  clear hE hW hs hkl E;go_in;go_wp2_with fail;refine(HX.o).mono ?_;rintro e w1 h1;obtain⟨v1,rfl,i,g⟩:=h1.val;replace A:=hid (A.o.then g);have I:=hid i;clear h1 i g;go_wp2_with fail;refine(q2k _ _).mono ?_;rintro e w2 Z;obtain⟨s,rfl,j,M⟩:=Z.valB A.o.in;replace A:=hid (A.o.step M);replace I:=hid (I.o.bel M);have U:=hid j;clear Z j M;go_wp2_with fail;refine(q1n _ I.o.val U.o.val (by first|(simp;done)|(simp;omega))).mono ?_;rintro e w3 a;obtain⟨t,rfl,k,Y⟩:=a.valB A.o.in;replace A:=hid (A.o.step Y);clear I;clear U;have C:=hid k;clear a k Y;go_wp2_with fail;refine(z1t _).mono ?_;rintro e w4 c;obtain⟨u,rfl,l,O⟩:=c.valB A.o.in;replace A:=hid (A.o.step O);replace C:=hid (C.o.bel O);have H:=hid l;clear c l O;go_wp2_with fail;refine(J.o _ A.o.ly).mono ?_;rintro e w5 d;obtain⟨v,rfl,m,L⟩:=d.val;replace A:=hid (A.o.then L);replace C:=hid (C.o.but L.bt);replace H:=hid (H.o.but L.bt);have V:=hid m;clear d m L;go_wp2_with fail;refine(q1n _ H.o.val V.o.val (by first|(simp;done)|(simp;omega))).mono ?_;rintro e w6 f;obtain⟨x,rfl,o,P⟩:=f.valB A.o.in;replace A:=hid (A.o.step P);clear H;clear V;replace C:=hid (C.o.bel P);have X:=hid o;clear f o P;go_wp2_with fail;refine(q1n _ C.o.val X.o.val (by first|(simp;done)|(simp;omega))).mono ?_;rintro e p Q
  have HX:Hid (NdG w0 b w R r e p):=by
   have h:=Q.gof A.o;show NdG w0 b w R r e p;rw[B.o];exact h
  obtain⟨v7,rfl,_,_⟩:=Q.val;clear Q A B C X;go_wp2;go_ret;exact HX.o
theorem y5j(o c:List UInt8)(ps:List (Td × Tr))(h:ps.length=0):(q3h o c ps).N=[⟨1,wbS (o++c),0⟩]:=by rw[q3h,if_pos h];rfl
theorem y2c(o c:List UInt8)(ps:List (Td × Tr))(h:¬ps.length=0):(q3h o c ps).N=⟨8,⟨#[]⟩,0⟩::(⟨6,⟨#[]⟩,0⟩::([⟨1,wbS o,0⟩]++(⟨6,⟨#[]⟩,0⟩::((⟨7,⟨#[]⟩,2⟩::(⟨6,⟨#[]⟩,0⟩::([⟨3,⟨#[]⟩,0⟩]++(kdD ps).N)))++(⟨6,⟨#[]⟩,0⟩::([⟨3,⟨#[]⟩,0⟩]++[⟨1,wbS c,0⟩])))))):=by rw[q3h,if_neg h];rfl
theorem z2m{w0:World}{b:Nat}(K:Fo)(hE:EAL w0 b K)(hs:z3e K.D<=1000)(I:K.len<=1000)(o c:ByteArray)(ho:o.size<=100)(hc:c.size<=100)(r:List Td)(w:World)(hW:LyE w0 b (K.N++r) w):
  Calls prog 214 #[.pointer (some ⟨b,0,none⟩),.string o,.int .i64 (K.len:Int),.string c] w fun e w'=>NdG w0 b w (q3h (btL o) (btL c) K.D).N r e w':=by
 have A:Hid (Lk w0 b w (K.N++r) w):=hW.lk;by_cases G:K.len=0
 ·have B:Hid ((q3h (btL o) (btL c) K.D).N=[⟨1,o++c,0⟩]):=by
   show _=_;rw[y5j _ _ _ (by rw[q6q];exact G)];have e:wbS (btL o++btL c)=o++c:=by rw[<-q1y,z1b,z1b]
   rw[e]
  have hr:K.N++r=r:=by
   cases K with
   | nil=>rfl
   | cons=>simp[Fo.len]at G
  rw[hr]at A;rw[G]
  generalize(q3h (btL o) (btL c) K.D).N=R at B⊢
  clear hE hs I G hr hW;have Ab:¬9223372036854775807<o.size+c.size:=by omega
  go_in;go_wp2_with fail;refine(q2k _ _).mono ?_;rintro e i J
  have a:Hid (NdG w0 b w R r e i):=by
   have h:=J.gof A.o;show NdG w0 b w R r e i;rw[B.o];exact h
  obtain⟨v1,rfl,_,_⟩:=J.val;clear J A B;go_wp2;go_ret;exact a.o
 ·have B:Hid ((q3h (btL o) (btL c) K.D).N=⟨8,⟨#[]⟩,0⟩::(⟨6,⟨#[]⟩,0⟩::([⟨1,o,0⟩]++(⟨6,⟨#[]⟩,0⟩::((⟨7,⟨#[]⟩,2⟩::(⟨6,⟨#[]⟩,0⟩::([⟨3,⟨#[]⟩,0⟩]++(kdD K.D).N)))++(⟨6,⟨#[]⟩,0⟩::([⟨3,⟨#[]⟩,0⟩]++[⟨1,c,0⟩]))))))):=by
   show _=_;rw[y2c _ _ _ (by rw[q6q];exact G),z1b,z1b]
  have X:Hid (∀W,LyE w0 b (K.N++r) W->Calls prog 243 #[.pointer (some ⟨b,0,none⟩),.int .i64 (K.len:Int)] W fun e w'=>NdG w0 b W (kdD K.D).N r e w'):=fun W hW=>k1l K hE G hs I r W hW
  have P:=k9w K.D
  generalize(q3h (btL o) (btL c) K.D).N=R at B⊢
  generalize(kdD K.D).N=ks at X B P
  generalize z3e K.D=sd at hs P;generalize K.N++r=r0 at A X;generalize K.len=kl at X G⊢;have Aa:((kl:Int)==0)=false:=by simp;omega
  clear hE I hW;go_in;go_wp2_with fail;refine(k1o _).mono ?_;rintro e i J;obtain⟨v1,rfl,n1,q⟩:=J.valB A.o.in;replace A:=hid (A.o.step q);have U:=hid n1;clear J n1 q;go_wp2_with fail;refine(X.o _ A.o.ly).mono ?_;rintro e w2 u;obtain⟨v2,rfl,n2,g⟩:=u.val;replace A:=hid (A.o.then g);replace U:=hid (U.o.but g.bt);have p:=hid n2;clear u n2 g;go_wp2_with fail;refine(q1n _ U.o.val p.o.val (by first|(simp;done)|(simp;omega))).mono ?_;rintro e w3 v;obtain⟨v3,rfl,n3,s⟩:=v.valB A.o.in;replace A:=hid (A.o.step s);clear U;clear p;have j:=hid n3;clear v n3 s;go_wp2_with fail;refine(q9k _ j.o.val (by first|(simp;done)|(simp;omega))).mono ?_;rintro e w4 x;obtain⟨v4,rfl,n4,t⟩:=x.valB A.o.in;replace A:=hid (A.o.step t);clear j;have C:=hid n4;clear x n4 t;go_wp2_with fail;refine(q2k _ _).mono ?_;rintro e w5 y;obtain⟨v5,rfl,n5,d⟩:=y.valB A.o.in;replace A:=hid (A.o.step d);replace C:=hid (C.o.bel d);have E:=hid n5;clear y n5 d;go_wp2_with fail;refine(k1o _).mono ?_;rintro e w6 z;obtain⟨v6,rfl,n6,Y⟩:=z.valB A.o.in;replace A:=hid (A.o.step Y);replace C:=hid (C.o.bel Y);replace E:=hid (E.o.bel Y);have V:=hid n6;clear z n6 Y;go_wp2_with fail;refine(q2k _ _).mono ?_;rintro e w7 h7;obtain⟨v7,rfl,n7,M⟩:=h7.valB A.o.in;replace A:=hid (A.o.step M);replace C:=hid (C.o.bel M);replace E:=hid (E.o.bel M);replace V:=hid (V.o.bel M);have k:=hid n7;clear h7 n7 M;go_wp2_with fail;refine(q1n _ V.o.val k.o.val (by first|(simp;done)|(simp;omega))).mono ?_;rintro e w8 h8;obtain⟨v8,rfl,n8,Z⟩:=h8.valB A.o.in;replace A:=hid (A.o.step Z);clear V;clear k;replace C:=hid (C.o.bel Z);replace E:=hid (E.o.bel Z);have l:=hid n8;clear h8 n8 Z;go_wp2_with fail;refine(q1n _ C.o.val l.o.val (by first|(simp;done)|(simp;omega))).mono ?_;rintro e w9 h9;obtain⟨v9,rfl,n9,f⟩:=h9.valB A.o.in;replace A:=hid (A.o.step f);clear C;clear l;replace E:=hid (E.o.bel f);have m:=hid n9;clear h9 n9 f;go_wp2_with fail;refine(q1n _ E.o.val m.o.val (by first|(simp;done)|(simp;omega))).mono ?_;rintro e Ae O;obtain⟨Ac,rfl,Q,L⟩:=O.valB A.o.in;replace A:=hid (A.o.step L);clear E;clear m;have n:=hid Q;clear O Q L;go_wp2_with fail;refine(z1v _ n.o.val (by first|(simp;done)|(simp;omega))).mono ?_;rintro e S H
  have a:Hid (NdG w0 b w R r e S):=by
   have h:=H.gof A.o;show NdG w0 b w R r e S;rw[B.o];exact h
  obtain⟨Ad,rfl,_,_⟩:=H.val;clear H A B n;go_wp2;go_ret;exact a.o
theorem y1h{l:Nat}{x:Td}{D:Tr}(h:prc x<l):(inD l x D).N=⟨6,⟨#[]⟩,0⟩::([⟨1,⟨#[40]⟩,0⟩]++(⟨6,⟨#[]⟩,0⟩::(D.N++[⟨1,⟨#[41]⟩,0⟩]))):=by
 rw[inD,if_pos h];rfl
theorem y5c{l:Nat}{x:Td}{D:Tr}(h:¬prc x<l):(inD l x D).N=D.N:=by rw[inD,if_neg h]
theorem k1n{w0:World}{b:Nat}{y:Td}{k:Fo}(hX:ExL w0 b y k)(hz:(q0m y k.D).N.length<=1000)(op:Int)(O:op=5\/op=6)(s:Bool)(r:List Td)(w:World)(hW:LyE w0 b (y::(k.N++r)) w):
  Calls prog 244 #[.pointer (some ⟨b,0,none⟩),.int .i64 op,.bool s] w fun e w'=>NdG w0 b w (inD ((op-5).toNat+s.toNat) y (q0m y k.D)).N r e w':=by
 have B:Hid (∀W,Calls prog 237 #[.int .i64 y.op,.int .i64 op,.bool s] W fun e w'=>e=.returned (.bool (decide (prc y<(op-5).toNat+s.toNat)))/\W=w'):=fun W=>(j6x y op O s W).mono fun _ _ h=>⟨h.1,h.2.symm⟩
 have M:Hid (Calls prog 171 #[.pointer (some ⟨b,0,none⟩)] w fun e w'=>NdG w0 b w (q0m y k.D).N r e w'):=hX r w hW;have E:Hid (Lk w0 b w (y::(k.N++r)) w):=hW.lk;obtain⟨A,c,h⟩:=hW;obtain⟨t,u,rfl,X,U,_,_⟩:=h.td 0 (by simp);simp only[List.getElem_cons_zero,Nat.zero_mul,Nat.add_zero]at U;obtain⟨d,_⟩:=q1z h.bl;have e0:w.cell? ⟨t,u,none⟩=some (.int .i64 y.op):=(d _ _ X).trans U;have cR:w.cell? ⟨b,0,none⟩=some (.slice (some ⟨t,u,none⟩) (y::(k.N++r)).length c):=by rw[Lib.cell_of_heap h.x];rfl
 generalize j:(y::(k.N++r)).length=n at cR;have Aa:0<n:=by rw[<-j];simp
 have Ab:(0:Int)<(n:Int):=by omega
 have H:Hid (prc y<(op-5).toNat+s.toNat->(inD ((op-5).toNat+s.toNat) y (q0m y k.D)).N=⟨6,⟨#[]⟩,0⟩::([⟨1,⟨#[40]⟩,0⟩]++(⟨6,⟨#[]⟩,0⟩::((q0m y k.D).N++[⟨1,⟨#[41]⟩,0⟩])))):=y1h;have C:Hid (¬prc y<(op-5).toNat+s.toNat->(inD ((op-5).toNat+s.toNat) y (q0m y k.D)).N=(q0m y k.D).N):=y5c
 generalize(inD ((op-5).toNat+s.toNat) y (q0m y k.D)).N=R at H C⊢
 generalize(q0m y k.D).N=xs at M H C hz
 generalize y::(k.N++r)=r0 at E
 generalize(op-5).toNat+s.toNat=lv at B H C
 generalize prc y=py at B H C;generalize y.op=yo at B e0;clear h d U O j hX;by_cases L:py<lv
 ·have G:=(show Hid (_=_)from H.o L);rw[decide_eq_true L]at B;clear H C L;go_in;go_wp2_with fail;refine(B.o _).mono ?_;rintro e w1⟨rfl,rfl⟩;go_wp2_with fail;refine(M.o).mono ?_;rintro e Y K;obtain⟨v2,rfl,m,l⟩:=K.val;replace E:=hid (E.o.then l);have J:=hid m;clear K m l;go_wp2_with fail;refine(q2k _ _).mono ?_;rintro e w3 f;obtain⟨v3,rfl,o,Q⟩:=f.valB E.o.in;replace E:=hid (E.o.step Q);replace J:=hid (J.o.bel Q);have I:=hid o;clear f o Q;go_wp2_with fail;refine(q2k _ _).mono ?_;rintro e w4 g;obtain⟨v4,rfl,p,P⟩:=g.valB E.o.in;replace E:=hid (E.o.step P);replace J:=hid (J.o.bel P);replace I:=hid (I.o.bel P);have Z:=hid p;clear g p P;go_wp2_with fail;refine(q1n _ J.o.val Z.o.val (by first|(simp;done)|(simp;omega))).mono ?_;rintro e w5 i;obtain⟨v5,rfl,q,S⟩:=i.valB E.o.in;replace E:=hid (E.o.step S);clear J;clear Z;replace I:=hid (I.o.bel S);have a:=hid q;clear i q S;go_wp2_with fail;refine(q1n _ I.o.val a.o.val (by first|(simp;done)|(simp;omega))).mono ?_;rintro e v V
  have M:Hid (NdG w0 b w R r e v):=by
   have h:=V.gof E.o;show NdG w0 b w R r e v;rw[G.o];exact h
  obtain⟨v6,rfl,_,_⟩:=V.val;clear V E G I a;go_wp2;go_ret;exact M.o
 ·have G:=(show Hid (_=_)from C.o L);rw[decide_eq_false L]at B;clear H C L;go_in;go_wp2_with fail;refine(B.o _).mono ?_;rintro e w1⟨rfl,rfl⟩;go_wp2_with fail;refine M.o.mono ?_;rintro e Y K
  have z:Hid (NdG w0 b w R r e Y):=by
   show NdG w0 b w R r e Y;rw[G.o];exact K
  obtain⟨v2,rfl,_,_⟩:=K.val;clear K;go_wp2;go_ret;exact z.o
theorem z6n{w0:World}{b:Nat}{y z:Td}{k l:Fo}(hX:ExL w0 b y k)(hZ:ExL w0 b z l)(J:(q0m y k.D).N.length<=1000)(K:(q0m z l.D).N.length<=1000)(op:Int)(E:op=5\/op=6)(m:ByteArray)(r:List Td)(w:World)
  (hW:LyE w0 b (y::(k.N++(z::(l.N++r)))) w):
  Calls prog 215 #[.pointer (some ⟨b,0,none⟩),.int .i64 op,.string m] w fun e w'=>NdG w0 b w (grD (twD (inD (op-5).toNat y (q0m y k.D)) (dpD (twD blD (twD (wdD (btL m)) (inD ((op-5).toNat+1) z (q0m z l.D))))))).N r e w':=by
 have Q:Hid (Calls prog 244 #[.pointer (some ⟨b,0,none⟩),.int .i64 op,.bool false] w fun e w'=>NdG w0 b w (inD (op-5).toNat y (q0m y k.D)).N (z::(l.N++r)) e w'):=k1n hX J op E false _ w hW;have S:Hid (∀W,LyE w0 b (z::(l.N++r)) W->Calls prog 244 #[.pointer (some ⟨b,0,none⟩),.int .i64 op,.bool true] W fun e w'=>NdG w0 b W (inD ((op-5).toNat+1) z (q0m z l.D)).N r e w'):=fun W hW=>k1n hZ K op E true _ W hW
 have A:Hid (Lk w0 b w (y::(k.N++(z::(l.N++r)))) w):=hW.lk;have L:=k9v (op-5).toNat y (q0m y k.D);have M:=k9v ((op-5).toNat+1) z (q0m z l.D)
 have C:Hid ((grD (twD (inD (op-5).toNat y (q0m y k.D)) (dpD (twD blD (twD (wdD (btL m)) (inD ((op-5).toNat+1) z (q0m z l.D))))))).N=⟨8,⟨#[]⟩,0⟩::(⟨6,⟨#[]⟩,0⟩::((inD (op-5).toNat y (q0m y k.D)).N++(⟨7,⟨#[]⟩,2⟩::(⟨6,⟨#[]⟩,0⟩::([⟨2,⟨#[]⟩,0⟩]++(⟨6,⟨#[]⟩,0⟩::([⟨1,m,0⟩]++(inD ((op-5).toNat+1) z (q0m z l.D)).N)))))))):=by
  show _=_;have e:wbS (btL m)=m:=z1b m;simp only[Tr.N,e]
 generalize(grD (twD (inD (op-5).toNat y (q0m y k.D)) (dpD (twD blD (twD (wdD (btL m)) (inD ((op-5).toNat+1) z (q0m z l.D))))))).N=R at C⊢
 generalize(inD (op-5).toNat y (q0m y k.D)).N=xs at Q C L
 generalize(inD ((op-5).toNat+1) z (q0m z l.D)).N=ys at S C M
 have Aa:xs.length<=1004:=by omega
 have Ab:ys.length<=1004:=by omega
 generalize z::(l.N++r)=r1 at Q S A;generalize y::(k.N++r1)=r0 at A;clear hX hZ J K hW L M E;go_in;go_wp2_with fail;refine(Q.o).mono ?_;rintro e w1 i;obtain⟨v1,rfl,L,u⟩:=i.val;replace A:=hid (A.o.then u);have B:=hid L;clear i L u;go_wp2_with fail;refine(S.o _ A.o.ly).mono ?_;rintro e w2 j;obtain⟨v2,rfl,M,Y⟩:=j.val;replace A:=hid (A.o.then Y);replace B:=hid (B.o.but Y.bt);have H:=hid M;clear j M Y;go_wp2_with fail;refine(z1t _).mono ?_;rintro e w3 n;obtain⟨v3,rfl,v,O⟩:=n.valB A.o.in;replace A:=hid (A.o.step O);replace B:=hid (B.o.bel O);replace H:=hid (H.o.bel O);have G:=hid v;clear n v O;go_wp2_with fail;refine(q2k _ _).mono ?_;rintro e w4 o;obtain⟨v4,rfl,x,I⟩:=o.valB A.o.in;replace A:=hid (A.o.step I);replace B:=hid (B.o.bel I);replace H:=hid (H.o.bel I);replace G:=hid (G.o.bel I);have f:=hid x;clear o x I;go_wp2_with fail;refine(q1n _ f.o.val H.o.val (by first|(simp;done)|(simp;omega))).mono ?_;rintro e w5 p;obtain⟨v5,rfl,n5,P⟩:=p.valB A.o.in;replace A:=hid (A.o.step P);clear f;clear H;replace B:=hid (B.o.bel P);replace G:=hid (G.o.bel P);have Z:=hid n5;clear p n5 P;go_wp2_with fail;refine(q1n _ G.o.val Z.o.val (by first|(simp;done)|(simp;omega))).mono ?_;rintro e w6 q;obtain⟨v6,rfl,n6,U⟩:=q.valB A.o.in;replace A:=hid (A.o.step U);clear G;clear Z;replace B:=hid (B.o.bel U);have a:=hid n6;clear q n6 U;go_wp2_with fail;refine(q9k _ a.o.val (by first|(simp;done)|(simp;omega))).mono ?_;rintro e w7 s;obtain⟨v7,rfl,n7,V⟩:=s.valB A.o.in;replace A:=hid (A.o.step V);clear a;replace B:=hid (B.o.bel V);have c:=hid n7;clear s n7 V;go_wp2_with fail;refine(q1n _ B.o.val c.o.val (by first|(simp;done)|(simp;omega))).mono ?_;rintro e w8 t;obtain⟨v8,rfl,n8,g⟩:=t.valB A.o.in;replace A:=hid (A.o.step g);clear B;clear c;have d:=hid n8;clear t n8 g;go_wp2_with fail;refine(z1v _ d.o.val (by first|(simp;done)|(simp;omega))).mono ?_;rintro e w9 X
 have HX:Hid (NdG w0 b w R r e w9):=by
  have h:=X.gof A.o;show NdG w0 b w R r e w9;rw[C.o];exact h
 obtain⟨v9,rfl,_,_⟩:=X.val;clear X A C d;go_wp2;go_ret;exact HX.o
theorem v4i{w0:World}{b:Nat}(ht:j1m w0)(n:Int)(h0:0<=n)(h9:n<=999999)(tx:ByteArray):ExL w0 b ⟨1,tx,n⟩ Fo.nil:=by
 intro r w O;have J:Hid (Calls prog 169 #[.pointer (some ⟨b,0,none⟩)] w fun e w'=>e=.returned (tdV ⟨1,tx,n⟩)/\Lk w0 b w (Fo.nil.N++r) w'):=q4i O;have Q:Hid (j1m w0):=ht;clear ht;generalize M:(q0m ⟨1,tx,n⟩ Fo.nil.D).N=R;have E:Hid ((q0m ⟨1,tx,n⟩ Fo.nil.D).N=R):=M;clear O M;go_in;go_wp2_with fail;refine J.o.mono ?_;rintro e B⟨rfl,G⟩
 have I:Hid (∀W:World,Below B B W->Calls prog 154 #[.int .i64 n] W fun e w'=>e=.returned (.string (wbS (q7m n.toNat)))/\Below W W w'):=fun W hb=>v3y n h0 h9 W (by
  obtain⟨A,c,U⟩:=G.ly
  exact(Q.o.W U.bl).W hb)
 have K:Hid (∀W:World,Below B B W->Calls prog 172 #[.string (wbS (q7m n.toNat))] W fun e w'=>NdG w0 b w R r e w'):=fun W hb=>(q2k _ W).mono fun e w' h=>by
  rw[<-E.o];exact h.gof (G.step hb)
 generalize wbS (q7m n.toNat)=S at I K;clear G J;go_wp2_with fail;refine(I.o _ (q4c B _)).mono ?_;rintro e V⟨rfl,L⟩;have C:Hid (Below B B V):=q0e (q4c B _) Zl L;clear L;go_wp2_with fail;refine(K.o _ C.o).mono ?_;rintro e Y H;have P:=hid H;obtain⟨X,rfl,_,_⟩:=H.val;clear H;go_wp2;go_ret;exact P.o
theorem j5r{w0:World}{b:Nat}(tx:ByteArray)(Q:tx.size<=100)(n:Int):ExL w0 b ⟨2,tx,n⟩ Fo.nil:=by
 intro r w K;have G:Hid (Calls prog 169 #[.pointer (some ⟨b,0,none⟩)] w fun e w'=>e=.returned (tdV ⟨2,tx,n⟩)/\Lk w0 b w (Fo.nil.N++r) w'):=q4i K;generalize J:(q0m ⟨2,tx,n⟩ Fo.nil.D).N=R;have C:Hid ((q0m ⟨2,tx,n⟩ Fo.nil.D).N=R):=J;clear K J;go_in;go_wp2_with fail;refine G.o.mono ?_;rintro e A⟨rfl,I⟩;have L:Hid (∀W:World,Calls prog 51 #[.string tx] W fun e w'=>e=.returned (.string tx)/\Below W W w'):=fun W=>q8k tx W (by omega)
 have O:Hid (∀W:World,Below A A W->Calls prog 172 #[.string tx] W fun e w'=>NdG w0 b w R r e w'):=fun W hb=>(q2k _ W).mono fun e w' h=>by
  have P:(q0m ⟨2,tx,n⟩ Fo.nil.D).N=[⟨1,tx,0⟩]:=by
   show [(⟨1,wbS (btL tx),0⟩:Nd)]=_;rw[z1b]
  rw[<-C.o,P];exact h.gof (I.step hb)
 clear I G;go_wp2_with fail;refine(L.o _).mono ?_;rintro e S⟨rfl,H⟩;have B:Hid (Below A A S):=q0e (q4c A _) Zl H;clear H;go_wp2_with fail;refine(O.o _ B.o).mono ?_;rintro e V E;have M:=hid E;obtain⟨U,rfl,_,_⟩:=E.val;clear E;go_wp2;go_ret;exact M.o
theorem j5q{w0:World}{b:Nat}{F:Fo}(tx:ByteArray)(hE:EAL w0 b F)(hs:z3e F.D<=1000)(E:F.len<=1000):ExL w0 b ⟨4,tx,(F.len:Int)⟩ F:=by
 intro r w J;have H:Hid (Calls prog 169 #[.pointer (some ⟨b,0,none⟩)] w fun e w'=>e=.returned (tdV ⟨4,tx,(F.len:Int)⟩)/\Lk w0 b w (F.N++r) w'):=q4i J;generalize I:(q0m ⟨4,tx,(F.len:Int)⟩ F.D).N=R;have A:Hid ((q0m ⟨4,tx,(F.len:Int)⟩ F.D).N=R):=I;clear J I;go_in;go_wp2_with fail;refine H.o.mono ?_;rintro e G⟨rfl,B⟩
 have L:Hid (∀W:World,Below G G W->Calls prog 214 #[.pointer (some ⟨b,0,none⟩),.string ⟨#[91]⟩,.int .i64 (F.len:Int),.string ⟨#[93]⟩] W fun e w'=>NdG w0 b w R r e w'):=fun W hb=>(z2m F hE hs E ⟨#[91]⟩ ⟨#[93]⟩ (by decide) (by decide) r W (B.step hb).ly).mono fun e w' h=>by
  have M:q0m ⟨4,tx,(F.len:Int)⟩ F.D=q3h (btL ⟨#[91]⟩) (btL ⟨#[93]⟩) F.D:=rfl;rw[<-A.o,M];exact NdG.then (B.step hb) h
 clear B H hE hs;go_wp2_with fail;refine(L.o _ (q4c G _)).mono ?_;rintro e P C;have K:=hid C;obtain⟨O,rfl,_,_⟩:=C.val;clear C;go_wp2;go_ret;exact K.o
theorem j2w(tx:ByteArray):btL (tx++(⟨#[40]⟩:ByteArray))=btL tx++[40]:=by
 have e:wbS (btL tx)++wbS [40]=wbS (btL tx++[40]):=q1y _ _;rw[z1b]at e;have A:tx++(⟨#[40]⟩:ByteArray)=wbS (btL tx++[40]):=e;rw[A];rfl
theorem y2x(tx:ByteArray):(tx++(⟨#[40]⟩:ByteArray)).size=tx.size+1:=by
 rw[<-q0b,j2w,List.length_append,q0b];rfl
theorem j5p{w0:World}{b:Nat}{F:Fo}(tx:ByteArray)(P:tx.size<=80)(hE:EAL w0 b F)(hs:z3e F.D<=1000)(E:F.len<=1000):ExL w0 b ⟨3,tx,(F.len:Int)⟩ F:=by
 intro r w J;have H:Hid (Calls prog 169 #[.pointer (some ⟨b,0,none⟩)] w fun e w'=>e=.returned (tdV ⟨3,tx,(F.len:Int)⟩)/\Lk w0 b w (F.N++r) w'):=q4i J;generalize I:(q0m ⟨3,tx,(F.len:Int)⟩ F.D).N=R;have A:Hid ((q0m ⟨3,tx,(F.len:Int)⟩ F.D).N=R):=I;clear J I;go_in;go_wp2_with fail;refine H.o.mono ?_;rintro e G⟨rfl,B⟩
 have L:Hid (∀W:World,Below G G W->Calls prog 214 #[.pointer (some ⟨b,0,none⟩),.string (tx++(⟨#[40]⟩:ByteArray)),.int .i64 (F.len:Int),.string ⟨#[41]⟩] W fun e w'=>NdG w0 b w R r e w'):=fun W hb=>(z2m F hE hs E (tx++(⟨#[40]⟩:ByteArray)) ⟨#[41]⟩ (by rw[y2x];omega) (by decide) r W (B.step hb).ly).mono fun e w' h=>by
  have M:q0m ⟨3,tx,(F.len:Int)⟩ F.D=q3h (btL (tx++(⟨#[40]⟩:ByteArray))) (btL ⟨#[41]⟩) F.D:=by rw[j2w];rfl
  rw[<-A.o,M];exact NdG.then (B.step hb) h
 have O:¬9223372036854775807<tx.size+1:=by omega
 clear B H hE hs;go_wp2_with fail;refine(L.o _ (q4c G _)).mono ?_;rintro e S C;have K:=hid C;obtain⟨Q,rfl,_,_⟩:=C.val;clear C;go_wp2;go_ret;exact K.o
theorem v4j{w0:World}{b:Nat}{y z:Td}{k l:Fo}(tx:ByteArray)(n:Int)(hX:ExL w0 b y k)(hZ:ExL w0 b z l)(B:(q0m y k.D).N.length<=1000)(C:(q0m z l.D).N.length<=1000):ExL w0 b ⟨5,tx,n⟩ (Fo.cons y k (.cons z l .nil)):=by
 intro r w M;have K:Hid (Calls prog 169 #[.pointer (some ⟨b,0,none⟩)] w fun e w'=>e=.returned (tdV ⟨5,tx,n⟩)/\Lk w0 b w ((Fo.cons y k (.cons z l .nil)).N++r) w'):=q4i M;generalize L:(q0m ⟨5,tx,n⟩ (Fo.cons y k (.cons z l .nil)).D).N=R;have E:Hid ((q0m ⟨5,tx,n⟩ (Fo.cons y k (.cons z l .nil)).D).N=R):=L;clear M L;go_in;go_wp2_with fail;refine K.o.mono ?_;rintro e J⟨rfl,G⟩
 have P:Hid (∀W:World,Below J J W->Calls prog 215 #[.pointer (some ⟨b,0,none⟩),.int .i64 5,.string ⟨#[43,32]⟩] W fun e w'=>NdG w0 b w R r e w'):=fun W hb=>by
  rw[<-E.o];have A:=(G.step hb).ly;have I:(Fo.cons y k (.cons z l .nil)).N++r=y::(k.N++(z::(l.N++r))):=by simp[Fo.N]
  rw[I]at A;exact(z6n hX hZ B C 5 (by decide) ⟨#[43,32]⟩ r W A).mono fun e w' h=>NdG.then (G.step hb) h
 clear G K hX hZ B C;go_wp2_with fail;refine(P.o _ (q4c J _)).mono ?_;rintro e S H;have O:=hid H;obtain⟨Q,rfl,_,_⟩:=H.val;clear H;go_wp2;go_ret;exact O.o
theorem v4h{w0:World}{b:Nat}{y z:Td}{k l:Fo}(tx:ByteArray)(n:Int)(hX:ExL w0 b y k)(hZ:ExL w0 b z l)(B:(q0m y k.D).N.length<=1000)(C:(q0m z l.D).N.length<=1000):ExL w0 b ⟨6,tx,n⟩ (Fo.cons y k (.cons z l .nil)):=by
 intro r w M;have K:Hid (Calls prog 169 #[.pointer (some ⟨b,0,none⟩)] w fun e w'=>e=.returned (tdV ⟨6,tx,n⟩)/\Lk w0 b w ((Fo.cons y k (.cons z l .nil)).N++r) w'):=q4i M;generalize L:(q0m ⟨6,tx,n⟩ (Fo.cons y k (.cons z l .nil)).D).N=R;have E:Hid ((q0m ⟨6,tx,n⟩ (Fo.cons y k (.cons z l .nil)).D).N=R):=L;clear M L;go_in;go_wp2_with fail;refine K.o.mono ?_;rintro e J⟨rfl,G⟩
 have P:Hid (∀W:World,Below J J W->Calls prog 215 #[.pointer (some ⟨b,0,none⟩),.int .i64 6,.string ⟨#[42,32]⟩] W fun e w'=>NdG w0 b w R r e w'):=fun W hb=>by
  rw[<-E.o];have A:=(G.step hb).ly;have I:(Fo.cons y k (.cons z l .nil)).N++r=y::(k.N++(z::(l.N++r))):=by simp[Fo.N]
  rw[I]at A;exact(z6n hX hZ B C 6 (by decide) ⟨#[42,32]⟩ r W A).mono fun e w' h=>NdG.then (G.step hb) h
 clear G K hX hZ B C;go_wp2_with fail;refine(P.o _ (q4c J _)).mono ?_;rintro e S H;have O:=hid H;obtain⟨Q,rfl,_,_⟩:=H.val;clear H;go_wp2;go_ret;exact O.o
theorem k8a(x:Td)(k n:Fo):z3e k.D<=20*(Fo.cons x k n).N.length/\(q0m x k.D).N.length<=20*(Fo.cons x k n).N.length:=by
 have h:=z5x (.cons x k n);have B:=z5x k;rw[Fo.D,q2l]at h;have e:(x,q0m x k.D).2=q0m x k.D:=rfl;rw[e]at h;have A:k.N.length<=(Fo.cons x k n).N.length:=by simp only[Fo.N,List.length_cons,List.length_append];omega
 omega
theorem z8n{w0:World}{b:Nat}(ht:j1m w0):∀F:Fo,F.ok->F.exs->F.N.length<=50->EAL w0 b F
 | .nil,_,_,_=>trivial
 | .cons x k n,hok,hex,hlen=>by
  have hl1:k.N.length+n.N.length+1<=50:=by simp only[Fo.N,List.length_cons,List.length_append]at hlen;omega
  have J:EAL w0 b k:=z8n ht k hok.2.1 (fun y hy=>hex y (by simp[Fo.N,hy])) (by omega);have M:EAL w0 b n:=z8n ht n hok.2.2 (fun y hy=>hex y (by simp[Fo.N,hy])) (by omega);refine⟨?_,M⟩;have O:=hex x (by simp[Fo.N]);have A:=hok.1;have H:z3e k.D<=1000:=by have:=(k8a x k n).1;omega
  obtain⟨P,K,m⟩:=x;rcases q6d O with⟨B,E,G,I,C⟩|⟨B,E,G,C⟩|⟨B,E,G,I,C⟩|⟨B,E,G,I,C⟩|⟨B,E,G,C⟩|⟨B,E,G,C⟩
  ·rw[C]at A;cases k with
   | cons=>simp[Fo.len]at A
   | nil=>
    dsimp only at B G I;subst B;exact v4i ht m G I K
  ·rw[C]at A;cases k with
   | cons=>simp[Fo.len]at A
   | nil=>
    dsimp only at B E;subst B;have L:=q5p E;rw[q0b]at L;exact j5r K (by omega) m
  ·rw[C]at A;dsimp only at B E G I A;subst B
   have:m=(k.len:Int):=by omega
   subst this;have L:=q5p E;rw[q0b]at L;exact j5p K (by omega) J H (by omega)
  ·rw[C]at A;dsimp only at B G I A;subst B
   have:m=(k.len:Int):=by omega
   subst this;exact j5q K J H (by omega)
  all_goals
   rw[C]at A;dsimp only at B;subst B;cases k with
   | nil=>simp[Fo.len]at A
   | cons y ky r=>
    cases r with
    | nil=>simp[Fo.len]at A
    | cons z kz r2=>
     cases r2 with
     | cons=>simp[Fo.len]at A
     | nil=>
      have Q:=(k8a y ky (.cons z kz .nil)).2;have R:=(k8a z kz .nil).2;have S:(Fo.cons z kz .nil).N.length<=(Fo.cons y ky (.cons z kz .nil)).N.length:=by simp only[Fo.N,List.length_cons,List.length_append];omega
      first
       | exact v4j K m J.1 J.2.1 (by omega) (by omega)
       | exact v4h K m J.1 J.2.1 (by omega) (by omega)
end Go.Proofs.YthcpdohdppkmkaaGreatDoor
