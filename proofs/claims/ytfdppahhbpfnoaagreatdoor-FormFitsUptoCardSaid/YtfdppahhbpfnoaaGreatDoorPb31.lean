import Derived.Test.YtfdppahhbpfnoaaGreatDoorPb24
import Derived.Test.YtfdppahhbpfnoaaGreatDoorPb29
open Go.Proofs.Tryz
namespace Go.Proofs.YtfdppahhbpfnoaaGreatDoor
open Go Go.RowKit
set_option maxRecDepth 100000
set_option maxHeartbeats 1000000
theorem k9n{b:Nat}{wa:Option Addr}{wc:Nat}(i A:Int)(w:World)(c5:w.cell? ⟨b,5,none⟩=some (.slice wa 0 wc)):
  Calls prog 92 #[.pointer (some ⟨b,0,none⟩),.int .i64 i,.int .i64 A] w fun e w'=>e=.returned (q1m 2)/\w=w':=by
 rw[k1e];go_in;go_wp2;go_ret;exact⟨rfl,rfl⟩
theorem y8e{b s be b0 o0 o1 n cap wc:Nat}(i A m:Nat)(w:World)(_hbb:b0≠b)(K:s≠b)(E:be≠b)(_hn:n<=400)(G:(i:Int)<(n:Int))
  (c0:w.cell? ⟨b,0,none⟩=some (.slice (some ⟨s,o0,none⟩) n cap)) (d1:w.cell? ⟨s,o0+i*3,none⟩=some (.int .i64 8)) (_c1:w.cell? ⟨b,1,none⟩=some (.slice (some ⟨be,0,none⟩) n n))
  (c5:w.cell? ⟨b,5,none⟩=some (.slice (some ⟨b0,o1,none⟩) (m+1) wc)) (f5:w.frozen? ⟨b,5,none⟩=false) (L:m+1<=wc) (x1:w.cell? ⟨b0,o1,none⟩=some (.int .i64 0)) (Q:Value->World->Prop)
  (H:Calls prog 146 #[.pointer (some ⟨b,0,none⟩),.int .i64 i] (w.setCell ⟨b,5,none⟩ (.slice (if wc=1 then some ⟨b0,o1,none⟩else some ⟨b0,o1+1,none⟩) m (wc-1))) fun e w'=>∃v,e=.returned v/\Q v w'):
  Calls prog 92 #[.pointer (some ⟨b,0,none⟩),.int .i64 i,.int .i64 A] w fun e w'=>∃v,e=.returned v/\Q v w':=by
 have J:(1:Int)<=(m:Int)+1:=by omega
 have I:((m:Int)+1==0)=false:=beq_eq_false_iff_ne.2 (by omega);by_cases D:wc=1
 ·rw[if_pos D]at H;obtain rfl:m=0:=by omega
  subst D;have B:Hid (Calls prog 146 #[.pointer (some ⟨b,0,none⟩),.int .i64 i] (w.setCell ⟨b,5,none⟩ (.slice (some ⟨b0,o1,none⟩) 0 0)) fun e w'=>∃v,e=.returned v/\Q v w'):=H;clear H;go_in;go_wp2_with fail;refine B.o.mono ?_;rintro e M⟨v,rfl,C⟩;go_wp2;go_ret;exact⟨_,rfl,C⟩
 ·rw[if_neg D]at H;have B:Hid (Calls prog 146 #[.pointer (some ⟨b,0,none⟩),.int .i64 i] (w.setCell ⟨b,5,none⟩ (.slice (some ⟨b0,o1+1,none⟩) m (wc-1))) fun e w'=>∃v,e=.returned v/\Q v w'):=H;clear H;go_in;go_wp2_with fail;refine B.o.mono ?_;rintro e M⟨v,rfl,C⟩;go_wp2;go_ret;exact⟨_,rfl,C⟩
theorem y8f{b s be b0 o0 o1 n cap wc:Nat}(i A m:Nat)(w:World)(_hbb:b0≠b)(K:s≠b)(E:be≠b)(hn:n<=400)(G:(i:Int)<(n:Int))
  (c0:w.cell? ⟨b,0,none⟩=some (.slice (some ⟨s,o0,none⟩) n cap)) (d1:w.cell? ⟨s,o0+i*3,none⟩=some (.int .i64 8)) (_c1:w.cell? ⟨b,1,none⟩=some (.slice (some ⟨be,0,none⟩) n n))
  (c5:w.cell? ⟨b,5,none⟩=some (.slice (some ⟨b0,o1,none⟩) (m+1) wc)) (f5:w.frozen? ⟨b,5,none⟩=false) (L:m+1<=wc) (x1:w.cell? ⟨b0,o1,none⟩=some (.int .i64 1)) (Q:Value->World->Prop)
  (H:Calls prog 52 #[.pointer (some ⟨b,0,none⟩),.int .i64 ((i:Int)+1),.int .i64 A] (w.setCell ⟨b,5,none⟩ (.slice (if wc=1 then some ⟨b0,o1,none⟩else some ⟨b0,o1+1,none⟩) m (wc-1))) fun e w'=>∃v,e=.returned v/\Q v w'):
  Calls prog 92 #[.pointer (some ⟨b,0,none⟩),.int .i64 i,.int .i64 A] w fun e w'=>∃v,e=.returned v/\Q v w':=by
 have J:(1:Int)<=(m:Int)+1:=by omega
 have I:((m:Int)+1==0)=false:=beq_eq_false_iff_ne.2 (by omega);by_cases D:wc=1
 ·rw[if_pos D]at H;obtain rfl:m=0:=by omega
  subst D;have B:Hid (Calls prog 52 #[.pointer (some ⟨b,0,none⟩),.int .i64 ((i:Int)+1),.int .i64 A] (w.setCell ⟨b,5,none⟩ (.slice (some ⟨b0,o1,none⟩) 0 0)) fun e w'=>∃v,e=.returned v/\Q v w'):=H;clear H;go_in;go_wp2_with fail;refine B.o.mono ?_;rintro e M⟨v,rfl,C⟩;go_wp2;go_ret;exact⟨_,rfl,C⟩
 ·rw[if_neg D]at H;have B:Hid (Calls prog 52 #[.pointer (some ⟨b,0,none⟩),.int .i64 ((i:Int)+1),.int .i64 A] (w.setCell ⟨b,5,none⟩ (.slice (some ⟨b0,o1+1,none⟩) m (wc-1))) fun e w'=>∃v,e=.returned v/\Q v w'):=H;clear H;go_in;go_wp2_with fail;refine B.o.mono ?_;rintro e M⟨v,rfl,C⟩;go_wp2;go_ret;exact⟨_,rfl,C⟩
theorem y8g{b s be b0 o0 o1 n cap wc:Nat}(i A m:Nat)(w:World)(_hbb:b0≠b)(K:s≠b)(E:be≠b)(hn:n<=400)(G:(i:Int)<(n:Int))
  (c0:w.cell? ⟨b,0,none⟩=some (.slice (some ⟨s,o0,none⟩) n cap)) (d1:w.cell? ⟨s,o0+i*3,none⟩=some (.int .i64 9)) (_c1:w.cell? ⟨b,1,none⟩=some (.slice (some ⟨be,0,none⟩) n n))
  (c5:w.cell? ⟨b,5,none⟩=some (.slice (some ⟨b0,o1,none⟩) (m+1) wc)) (f5:w.frozen? ⟨b,5,none⟩=false) (L:m+1<=wc) (x1:w.cell? ⟨b0,o1,none⟩=some (.int .i64 0)) (Q:Value->World->Prop)
  (H:Calls prog 52 #[.pointer (some ⟨b,0,none⟩),.int .i64 ((i:Int)+1),.int .i64 A] (w.setCell ⟨b,5,none⟩ (.slice (if wc=1 then some ⟨b0,o1,none⟩else some ⟨b0,o1+1,none⟩) m (wc-1))) fun e w'=>∃v,e=.returned v/\Q v w'):
  Calls prog 92 #[.pointer (some ⟨b,0,none⟩),.int .i64 i,.int .i64 A] w fun e w'=>∃v,e=.returned v/\Q v w':=by
 have J:(1:Int)<=(m:Int)+1:=by omega
 have I:((m:Int)+1==0)=false:=beq_eq_false_iff_ne.2 (by omega);by_cases D:wc=1
 ·rw[if_pos D]at H;obtain rfl:m=0:=by omega
  subst D;have B:Hid (Calls prog 52 #[.pointer (some ⟨b,0,none⟩),.int .i64 ((i:Int)+1),.int .i64 A] (w.setCell ⟨b,5,none⟩ (.slice (some ⟨b0,o1,none⟩) 0 0)) fun e w'=>∃v,e=.returned v/\Q v w'):=H;clear H;go_in;go_wp2_with fail;refine B.o.mono ?_;rintro e M⟨v,rfl,C⟩;go_wp2;go_ret;exact⟨_,rfl,C⟩
 ·rw[if_neg D]at H;have B:Hid (Calls prog 52 #[.pointer (some ⟨b,0,none⟩),.int .i64 ((i:Int)+1),.int .i64 A] (w.setCell ⟨b,5,none⟩ (.slice (some ⟨b0,o1+1,none⟩) m (wc-1))) fun e w'=>∃v,e=.returned v/\Q v w'):=H;clear H;go_in;go_wp2_with fail;refine B.o.mono ?_;rintro e M⟨v,rfl,C⟩;go_wp2;go_ret;exact⟨_,rfl,C⟩
theorem y8h{b s be b0 o0 o1 n cap wc:Nat}(i A m:Nat)(w:World)(_hbb:b0≠b)(L:s≠b)(E:be≠b)(hn:n<=400)(I:(i:Int)<(n:Int))(G:(i:Int)+1<(n:Int))(j:Nat)(e1:w.cell? ⟨be,i+1,none⟩=some (.int .i64 (j:Int)))
  (c0:w.cell? ⟨b,0,none⟩=some (.slice (some ⟨s,o0,none⟩) n cap)) (d1:w.cell? ⟨s,o0+i*3,none⟩=some (.int .i64 9)) (c1:w.cell? ⟨b,1,none⟩=some (.slice (some ⟨be,0,none⟩) n n))
  (c5:w.cell? ⟨b,5,none⟩=some (.slice (some ⟨b0,o1,none⟩) (m+1) wc)) (f5:w.frozen? ⟨b,5,none⟩=false) (M:m+1<=wc) (x1:w.cell? ⟨b0,o1,none⟩=some (.int .i64 1)) (Q:Value->World->Prop)
  (H:Calls prog 52 #[.pointer (some ⟨b,0,none⟩),.int .i64 (j:Int),.int .i64 A] (w.setCell ⟨b,5,none⟩ (.slice (if wc=1 then some ⟨b0,o1,none⟩else some ⟨b0,o1+1,none⟩) m (wc-1))) fun e w'=>∃v,e=.returned v/\Q v w'):
  Calls prog 92 #[.pointer (some ⟨b,0,none⟩),.int .i64 i,.int .i64 A] w fun e w'=>∃v,e=.returned v/\Q v w':=by
 have K:(1:Int)<=(m:Int)+1:=by omega
 have J:((m:Int)+1==0)=false:=beq_eq_false_iff_ne.2 (by omega);by_cases D:wc=1
 ·rw[if_pos D]at H;obtain rfl:m=0:=by omega
  subst D;have B:Hid (Calls prog 52 #[.pointer (some ⟨b,0,none⟩),.int .i64 (j:Int),.int .i64 A] (w.setCell ⟨b,5,none⟩ (.slice (some ⟨b0,o1,none⟩) 0 0)) fun e w'=>∃v,e=.returned v/\Q v w'):=H;clear H;go_in;go_wp2_with fail;refine B.o.mono ?_;rintro e N⟨v,rfl,C⟩;go_wp2;go_ret;exact⟨_,rfl,C⟩
 ·rw[if_neg D]at H;have B:Hid (Calls prog 52 #[.pointer (some ⟨b,0,none⟩),.int .i64 (j:Int),.int .i64 A] (w.setCell ⟨b,5,none⟩ (.slice (some ⟨b0,o1+1,none⟩) m (wc-1))) fun e w'=>∃v,e=.returned v/\Q v w'):=H;clear H;go_in;go_wp2_with fail;refine B.o.mono ?_;rintro e N⟨v,rfl,C⟩;go_wp2;go_ret;exact⟨_,rfl,C⟩
set_option maxHeartbeats 8000000
theorem k1k:∀n:Fo,n.len<=n.N.length
 | .nil=>Nat.le_refl _
 | .cons x k m=>by
  have:=k1k m
  simp only[Fo.len,Fo.N,List.length_cons,List.length_append];omega
theorem z4a{ds:List Td}{a:Option Addr}{cap:Nat}(hs:v9z ds):∀(K:Fo)(pos:Nat)(r:List Td),ds.drop pos=K.N++r->K.ok->DcA ds a cap K->K.len≠0->∀W:World,Tds W a ds->
  Calls prog 62 #[.slice a ds.length cap,.int .i64 (pos:Int),.int .i64 (K.len:Int)] W fun e w'=>NdR W (kdD K.D).N e w'
 | .nil,_,_,_,_,_,h0,_,_=>absurd rfl h0
 | .cons y ky .nil,pos,r,hd,hok,hk,_,W,hN=>by
  have HD:Hid (Calls prog 26 #[.slice a ds.length cap,.int .i64 (pos:Int)] W fun e w'=>NdR W (q0g y ky.D).N e w'):=hk.1 pos r hd W hN;show Calls prog 62 #[.slice a ds.length cap,.int .i64 (pos:Int),.int .i64 1] W fun e w'=>NdR W (q0g y ky.D).N e w'
  generalize(q0g y ky.D).N=xs at HD⊢
  clear hd hok hk hN;go_in;go_wp2_with fail;refine HD.o.mono ?_;rintro e w1 h1;have HR:Hid (NdR W xs e w1):=h1;obtain⟨v1,rfl,_,_⟩:=h1.val;clear h1;go_wp2;go_ret;exact HR.o
 | .cons y ky (.cons z kz n),pos,r,hd,hok,hk,_,W,hN=>by
  have hz:=z2v hs hd;obtain⟨hp,ey,_,ene,edn⟩:=j0o hd hok;generalize hj:pos+1+ky.N.length=j at ene edn;have HD:Hid (∀W':World,Below W W W'->Calls prog 26 #[.slice a ds.length cap,.int .i64 (pos:Int)] W' fun e w'=>NdR W' (q0g y ky.D).N e w'):=fun W' hb=>hk.1 pos r hd W' (hN.W hb)
  have HEN:Hid (∀W':World,Below W W W'->Calls prog 24 #[.slice a ds.length cap,.int .i64 (pos:Int)] W' fun e w'=>e=.returned (.int .i64 (j:Int))/\Below W' W' w'):=fun W' hb=>k7q (cap:=cap) hs ene hp W' (hN.W hb)
  have HKS:Hid (∀W':World,Below W W W'->Calls prog 62 #[.slice a ds.length cap,.int .i64 (j:Int),.int .i64 ((n.len:Int)+1)] W' fun e w'=>NdR W' (kdD (Fo.cons z kz n).D).N e w'):=fun W' hb=>by
   have h:=z4a hs (.cons z kz n) j r edn hok.2.2 hk.2 (by simp[Fo.len]) W' (hN.W hb);have e:(((Fo.cons z kz n).len:Nat):Int)=(n.len:Int)+1:=by simp[Fo.len]
   rw[e]at h;exact h
  have Aa:n.len<=100:=by
   have i:=congrArg List.length hd;rw[List.length_drop,List.length_append]at i;have h7:n.N.length<=(Fo.cons y ky (.cons z kz n)).N.length:=by simp only[Fo.N,List.length_cons,List.length_append];omega
   have k:=k1k n
   have:=hs.l
   omega
  have P:(q0g y ky.D).N.length<=800/\(kdD (Fo.cons z kz n).D).N.length<=801:=by
   have h1:=j0z (Fo.cons z kz n).D;have x:z2y (Fo.cons y ky (.cons z kz n)).D=(q0g y ky.D).N.length+5+z2y (Fo.cons z kz n).D:=by rw[Fo.D,q1y]
   omega
  have V:Hid ((kdD (Fo.cons y ky (.cons z kz n)).D).N=⟨6,⟨#[]⟩,0⟩::((⟨6,⟨#[]⟩,0⟩::((q0g y ky.D).N++[⟨1,⟨#[44]⟩,0⟩]))++(⟨6,⟨#[]⟩,0⟩::([⟨2,⟨#[]⟩,0⟩]++(kdD (Fo.cons z kz n).D).N)))):=rfl;have H:(((Fo.cons y ky (.cons z kz n)).len:Nat):Int)=(n.len:Int)+1+1:=by simp[Fo.len]
  rw[V.o,H]
  generalize(q0g y ky.D).N=xs at HD P⊢
  generalize(kdD (Fo.cons z kz n).D).N=ks at HKS P⊢
  generalize n.len=m at HKS Aa⊢;have Ac:((m:Int)+1+1==1)=false:=beq_false_of_ne (by omega);have Ad:¬(m:Int)+1+1=1:=by omega
  obtain⟨Ae,Ab⟩:=P;clear hd hok hk hN hz ey ene edn hj V H;go_in;go_wp2_with fail;refine(HD.o _ Zb).mono ?_;rintro e w1 h1;obtain⟨v1,rfl,n1,b1⟩:=h1.val;have c:NdV (w1.alloc (.cells #[.int .i64 2,.string ⟨#[]⟩,.int .i64 0] 107)) (.slice (some ⟨w1,0,none⟩) 1 1) [⟨2,⟨#[]⟩,0⟩]:=(q5j.one w1 ⟨2,⟨#[]⟩,0⟩).val;have O:Below w1 w1 (w1.alloc (.cells #[.int .i64 2,.string ⟨#[]⟩,.int .i64 0] 107)):= Zb.alloc Zl _;have A:=(show Hid (NdV (w1.alloc (.cells #[.int .i64 2,.string ⟨#[]⟩,.int .i64 0] 107)) (.slice (some ⟨w1,0,none⟩) 1 1) [⟨2,⟨#[]⟩,0⟩])from c);have M:Hid (NdV (w1.alloc (.cells #[.int .i64 2,.string ⟨#[]⟩,.int .i64 0] 107)) v1 xs):=n1.W O;have I:Hid (Below W W (w1.alloc (.cells #[.int .i64 2,.string ⟨#[]⟩,.int .i64 0] 107))):=q0d b1 Zl O;clear h1 n1 b1 c O;go_wp2_with fail;generalize w1.alloc (.cells #[.int .i64 2,.string ⟨#[]⟩,.int .i64 0] 107)=w2 at A M I⊢;refine(q1f _ _).mono ?_;rintro e p h3;obtain⟨v3,rfl,n3,d⟩:=h3.val;have Q:Hid (Below W W p):=q0d I.o Zl d;have X:Hid (NdV p v1 xs):=M.o.W d;have S:Hid (NdV p v3 [⟨1,⟨#[44]⟩,0⟩]):=n3;have B:Hid (NdV p (.slice (some ⟨w1,0,none⟩) 1 1) [⟨2,⟨#[]⟩,0⟩]):=A.o.W d;clear h3 n3 d I M A;go_wp2_with fail;refine(q0u _ X.o S.o (by simp;omega)).mono ?_;rintro e w4 x;obtain⟨o,rfl,n4,v⟩:=x.val;have J:Hid (Below W W w4):=q0d Q.o Zl v;have Y:Hid (NdV w4 o (⟨6,⟨#[]⟩,0⟩::(xs++[⟨1,⟨#[44]⟩,0⟩]))):=n4;have C:Hid (NdV w4 (.slice (some ⟨w1,0,none⟩) 1 1) [⟨2,⟨#[]⟩,0⟩]):=B.o.W v;clear x n4 v Q X S B;go_wp2_with fail;refine(HEN.o _ J.o).mono ?_;rintro e w5⟨rfl,f⟩;have L:Hid (Below W W w5):=q0d J.o Zl f;have Z:Hid (NdV w5 o (⟨6,⟨#[]⟩,0⟩::(xs++[⟨1,⟨#[44]⟩,0⟩]))):=Y.o.W f;have E:Hid (NdV w5 (.slice (some ⟨w1,0,none⟩) 1 1) [⟨2,⟨#[]⟩,0⟩]):=C.o.W f;clear f J Y C;go_wp2_with fail;refine(HKS.o _ L.o).mono ?_;rintro e q i;obtain⟨v6,rfl,n6,g⟩:=i.val;have R:Hid (Below W W q):=q0d L.o Zl g;have b:Hid (NdV q o (⟨6,⟨#[]⟩,0⟩::(xs++[⟨1,⟨#[44]⟩,0⟩]))):=Z.o.W g;have U:Hid (NdV q v6 ks):=n6;have G:Hid (NdV q (.slice (some ⟨w1,0,none⟩) 1 1) [⟨2,⟨#[]⟩,0⟩]):=E.o.W g;clear i n6 g L Z E;go_wp2_with fail;refine(q0u _ G.o U.o (by simp;omega)).mono ?_;rintro e w7 h7;obtain⟨v7,rfl,n7,w⟩:=h7.val;have s:Hid (Below W W w7):=q0d R.o Zl w;have u:Hid (NdV w7 o (⟨6,⟨#[]⟩,0⟩::(xs++[⟨1,⟨#[44]⟩,0⟩]))):=b.o.W w;have t:Hid (NdV w7 v7 (⟨6,⟨#[]⟩,0⟩::([⟨2,⟨#[]⟩,0⟩]++ks))):=n7;clear h7 n7 w R b U G;go_wp2_with fail;refine(q0u _ u.o t.o (by simp;omega)).mono ?_;rintro e w8 k;have HR:Hid (NdR W (⟨6,⟨#[]⟩,0⟩::((⟨6,⟨#[]⟩,0⟩::(xs++[⟨1,⟨#[44]⟩,0⟩]))++(⟨6,⟨#[]⟩,0⟩::([⟨2,⟨#[]⟩,0⟩]++ks)))) e w8):=k.from s.o;obtain⟨v8,rfl,_,_⟩:=k.val;clear k;go_wp2;go_ret;exact HR.o
def F1(R:List Pl)(k:Nat):Nat->Q:=fun j=>if k<=j then q1 (q1e R j)else q0
theorem v9t{R:List Pl}{i:Nat}:upd (F1 R (i+1)) i (q1 (q1e R i))=F1 R i:=by
 funext j
 simp only[upd,F1];by_cases e:j=i
 ·subst e;simp
 ·by_cases h:i+1<=j
  ·rw[if_neg e,if_pos h,if_pos (by omega)]
  ·rw[if_neg e,if_neg h,if_neg (by omega)]
structure Tl(R:List Pl)(L M i:Nat)(F:Nat->Q):Prop where
 op:∀j,j<R.length->(F j).op=(q1e R j).nd.op
 tx:∀j,j<R.length->(F j).tx=(q1e R j).nd.tx
 n:∀j,j<R.length->(F j).n=(q1e R j).nd.n
 en:∀j,j<R.length->(F j).en=(q1e R j).en
 nx:∀j,j<R.length->(j=0\/∃p,p<i/\j2e R L M p j)->(F j).nx=(q1e R j).nx
 dp:∀j,j<R.length->(j=0\/∃p,p<i/\j2e R L M p j)->(F j).dp=(q1e R j).dp
 lg:∀j,j<R.length->j<i->(F j).lg=(q1e R j).lg
 l0:∀j,j<R.length->i<=j->(F j).lg=0
theorem Tl.tell{R:List Pl}{L M i j:Nat}{F:Nat->Q}{x y:Int}(h:Tl R L M i F)(hx:x=(q1e R j).nx)(hy:y=(q1e R j).dp):Tl R L M i (upd F j {F j with nx:=x,dp:=y}) where
 op k hk:=by by_cases e:k=j;subst e;rw[q0l];exact h.op k hk;rw[q1b e];exact h.op k hk
 tx k hk:=by by_cases e:k=j;subst e;rw[q0l];exact h.tx k hk;rw[q1b e];exact h.tx k hk
 n k hk:=by by_cases e:k=j;subst e;rw[q0l];exact h.n k hk;rw[q1b e];exact h.n k hk
 en k hk:=by by_cases e:k=j;subst e;rw[q0l];exact h.en k hk;rw[q1b e];exact h.en k hk
 nx k hk hp:=by by_cases e:k=j;subst e;rw[q0l];exact hx;rw[q1b e];exact h.nx k hk hp
 dp k hk hp:=by by_cases e:k=j;subst e;rw[q0l];exact hy;rw[q1b e];exact h.dp k hk hp
 lg k hk hp:=by by_cases e:k=j;subst e;rw[q0l];exact h.lg k hk hp;rw[q1b e];exact h.lg k hk hp
 l0 k hk hp:=by by_cases e:k=j;subst e;rw[q0l];exact h.l0 k hk hp;rw[q1b e];exact h.l0 k hk hp
theorem Tl.next{R:List Pl}{L M i:Nat}{F:Nat->Q}(h:Tl R L M i F)(hp:∀j,j<R.length->j2e R L M i j->(F j).nx=(q1e R j).nx/\(F j).dp=(q1e R j).dp)(hl:(F i).lg=(q1e R i).lg):Tl R L M (i+1) F where
 op:=h.op
 tx:=h.tx
 n:=h.n
 en:=h.en
 nx k hk hq:=by
  rcases hq with e|⟨p,B,A⟩
  ·exact h.nx k hk (.inl e)
  ·by_cases e:p=i
   ·subst e;exact(hp k hk A).1
   ·exact h.nx k hk (.inr ⟨p,by omega,A⟩)
 dp k hk hq:=by
  rcases hq with e|⟨p,B,A⟩
  ·exact h.dp k hk (.inl e)
  ·by_cases e:p=i
   ·subst e;exact(hp k hk A).2
   ·exact h.dp k hk (.inr ⟨p,by omega,A⟩)
 lg k hk hq:=by
  by_cases e:k=i
  ·subst e;exact hl
  ·exact h.lg k hk (by omega)
 l0 k hk hq:=h.l0 k hk (by omega)
theorem Tl.setLg{R:List Pl}{L M i:Nat}{F:Nat->Q}{x:Int}(h:Tl R L M i F):Tl R L M i F->∀k,k<R.length->(upd F i {F i with lg:=x} k).op=(F k).op/\(upd F i {F i with lg:=x} k).tx=(F k).tx/\(upd F i {F i with lg:=x} k).n=(F k).n/\(upd F i {F i with lg:=x} k).en=(F k).en/\(upd F i {F i with lg:=x} k).nx=(F k).nx/\(upd F i {F i with lg:=x} k).dp=(F k).dp:=by
 intro _ k _;by_cases e:k=i
 ·subst e;rw[q0l];exact⟨rfl,rfl,rfl,rfl,rfl,rfl⟩
 ·rw[q1b e];exact⟨rfl,rfl,rfl,rfl,rfl,rfl⟩
theorem Tl.nextLg{R:List Pl}{L M i:Nat}{F:Nat->Q}(h:Tl R L M i F)(hp:∀j,j<R.length->j2e R L M i j->(F j).nx=(q1e R j).nx/\(F j).dp=(q1e R j).dp):Tl R L M (i+1) (upd F i {F i with lg:=(q1e R i).lg}) where
 op k hk:=by rw[(h.setLg h k hk).1];exact h.op k hk
 tx k hk:=by rw[(h.setLg h k hk).2.1];exact h.tx k hk
 n k hk:=by rw[(h.setLg h k hk).2.2.1];exact h.n k hk
 en k hk:=by rw[(h.setLg h k hk).2.2.2.1];exact h.en k hk
 nx k hk hq:=by
  rw[(h.setLg h k hk).2.2.2.2.1];rcases hq with e|⟨p,B,A⟩
  ·exact h.nx k hk (.inl e)
  ·by_cases e:p=i
   ·subst e;exact(hp k hk A).1
   ·exact h.nx k hk (.inr ⟨p,by omega,A⟩)
 dp k hk hq:=by
  rw[(h.setLg h k hk).2.2.2.2.2];rcases hq with e|⟨p,B,A⟩
  ·exact h.dp k hk (.inl e)
  ·by_cases e:p=i
   ·subst e;exact(hp k hk A).2
   ·exact h.dp k hk (.inr ⟨p,by omega,A⟩)
 lg k hk hq:=by
  by_cases e:k=i
  ·subst e;rw[q0l]
  ·rw[q1b e];exact h.lg k hk (by omega)
 l0 k hk hq:=by rw[q1b (by omega)];exact h.l0 k hk (by omega)
theorem Tl.all{t:Tr}{F:Nat->Q}(ht:t.Wf)(h:Tl (q0a t) t.lf t.dsum (q0a t).length F):∀j,j<(q0a t).length->F j=q2 (q1e (q0a t) j):=by
 intro j A
 have C:j=0\/∃p,p<(q0a t).length/\j2e (q0a t) t.lf t.dsum p j:=by
  rcases Nat.eq_zero_or_pos j with e|e
  ·exact .inl e
  ·obtain⟨p,L,B⟩:=k2x ht e A;exact .inr ⟨p,by omega,B⟩
 have D:=h.op j A;have E:=h.tx j A;have G:=h.n j A;have H:=h.en j A;have I:=h.nx j A C;have J:=h.dp j A C;have K:=h.lg j A A;unfold q2;rw[<-D,<-E,<-G,<-H,<-I,<-J,<-K]
theorem Tl.start{t:Tr}:Tl (q0a t) t.lf t.dsum 0 (upd (F1 (q0a t) 0) 0 {F1 (q0a t) 0 0 with nx:=t.sz}):=by
 have A:∀j,F1 (q0a t) 0 j=q1 (q1e (q0a t) j):=fun j=>by simp[F1]
 have C:q1e (q0a t) 0=z6p t 0 t.sz 0 []:=by
  obtain⟨r,e⟩:=j8u t 0 t.sz 0 [];rw[q1e,List.getD,q0a,e];rfl
 have B:∀(P:Q->Prop)k,(k=0->P {F1 (q0a t) 0 0 with nx:=t.sz})->(k≠0->P (F1 (q0a t) 0 k))->P (upd (F1 (q0a t) 0) 0 {F1 (q0a t) 0 0 with nx:=t.sz} k):=by
  intro P k D E;by_cases e:k=0
  ·subst e;rw[q0l];exact D rfl
  ·rw[q1b e];exact E e
 refine⟨fun j _=>?_,fun j _=>?_,fun j _=>?_,fun j _=>?_,fun j _ hq=>?_,fun j _ hq=>?_,fun j _ hq=>?_,fun j _ _=>?_⟩
 ·refine B (fun q=>q.op=_) j (fun e=>?_) (fun _=>?_)
  ·subst e;rw[A];rfl
  ·rw[A];rfl
 ·refine B (fun q=>q.tx=_) j (fun e=>?_) (fun _=>?_)
  ·subst e;rw[A];rfl
  ·rw[A];rfl
 ·refine B (fun q=>q.n=_) j (fun e=>?_) (fun _=>?_)
  ·subst e;rw[A];rfl
  ·rw[A];rfl
 ·refine B (fun q=>q.en=_) j (fun e=>?_) (fun _=>?_)
  ·subst e;rw[A];rfl
  ·rw[A];rfl
 ·rcases hq with e|⟨p,G,_⟩
  ·subst e;rw[q0l,C];rfl
  ·omega
 ·rcases hq with e|⟨p,G,_⟩
  ·subst e;rw[q0l,A,C];rfl
  ·omega
 ·omega
 ·refine B (fun q=>q.lg=0) j (fun e=>?_) (fun _=>?_)
  ·rw[A];rfl
  ·rw[A];rfl
theorem y0s{R:List Pl}{L M i nx dp:Nat}{ks:List (Nat × Tr)}{t:Tr}(bp g:Nat)(F:Nat->Q)(w:World)(hR:R.length<=400)(hM:M<=3200)(h:Sp R L M i t nx dp ks)(hT:Tl R L M i F)(h0:i=0\/∃p,p<i/\j2e R L M p i)(c:bp≠g)
  (c0:w.cell? ⟨bp,0,none⟩=some (.slice (some ⟨g,0,none⟩) R.length R.length)) (hp:PwR w g R.length F):
  Calls prog 161 #[.pointer (some ⟨bp,0,none⟩),.int .i64 i] w fun e w'=>e=.returned (.tuple #[])/\(∃F',PwR w' g R.length F'/\Tl R L M i F'/\∀j,j<R.length->j2e R L M i j->(F' j).nx=(q1e R j).nx/\(F' j).dp=(q1e R j).dp)/\q0p w g w w':=by
 have d:=h.lt;have W:=h.at;have I:=hT.op i d;have s:=hT.n i d;have S:=hT.nx i d h0;have O:=hT.dp i d h0;rw[W]at I s S O;have v:=h.bd;cases t with
 | leaf x=>
  have B:(F i).op=x.op:=I
  have J:∀k:Int,k=6\/k=9\/k=7\/k=8->((F i).op==k)=false:=fun k hk=>beq_eq_false_iff_ne.2 (by
   rw[B]
   rcases q5d h.wf.1 h.wf.2 with e|e|e|e|e<;>omega)
  refine(v2o bp g R.length i F w d c0 hp (J 6 (by omega)) (J 9 (by omega)) (J 7 (by omega)) (J 8 (by omega))).mono ?_;rintro e q⟨rfl,U,V⟩;refine⟨rfl,⟨F,U,hT,fun j hj hpt=>?_⟩,V⟩;rcases hpt with⟨f,X,_,_,_,C,_⟩|⟨f,X,r,_,_,_,C,_⟩
  ·have:=C.at;rw[W]at this;simp[z6p]at this
  ·have:=C.at;rw[W]at this;simp[z6p]at this
 | one x a=>
  have B:(F i).op=x.op:=I;have l:(F i).n=x.n:=s;have D:(F i).nx=(nx:Int):=S;have A:(F i).dp=(dp:Int):=O;have C:=h.one;have y:0<=x.n/\x.n<=8:=by have:=q2a h.wf.1;omega
  have u:IntKind.i64.wrap ((F i).dp+(F i).n)=((dp+x.n.toNat:Nat):Int):=by
   rw[A,l,IntKind.wrap_i64];omega
  refine(y0t bp g R.length i F w hR C.lt c0 hp (by rw[B];exact z2f h.wf.2.1) _ u).mono ?_;rintro e q⟨rfl,U,V⟩;have K:(F i).nx=(q1e R (i+1)).nx:=by rw[D,C.at];rfl
  have N:((dp+x.n.toNat:Nat):Int)=(q1e R (i+1)).dp:=by rw[C.at];rfl
  refine⟨rfl,⟨_,U,hT.tell K N,fun j hj hpt=>?_⟩,V⟩
  have m:j=i+1:=by
   rcases hpt with⟨f,X,_,_,_,E,e⟩|⟨f,X,r,_,_,_,E,_⟩
   ·exact e
   ·have:=E.at;rw[W]at this;simp[z6p]at this
  subst m;rw[q0l];exact⟨K,N⟩
 | two x a b=>
  have B:(F i).op=x.op:=I;have D:(F i).nx=(nx:Int):=S;have A:(F i).dp=(dp:Int):=O;have G:=h.two2
  have H:∀j,j2e R L M i j->j=i+1\/j=i+1+a.sz:=fun j hpt=>by
   rcases hpt with⟨f,X,_,_,_,E,_⟩|⟨f,X,r,_,_,_,E,e⟩
   ·have:=E.at;rw[W]at this;simp[z6p]at this
   ·have:=E.at
    rw[W]at this;simp only[z6p,Pl.mk.injEq,Tr.two.injEq]at this;rw[this.2.2.2.2.2.1.2.1];exact e
  rcases z0s h.wf.2.1 with e|e
  ·have C:=h.both1 e;have P:(F (i+1)).en=((i+1+a.sz:Nat):Int):=by rw[hT.en _ C.lt,C.at];rfl
   refine(y0u bp g R.length i (i+1+a.sz) F w hR C.lt G.lt c c0 hp (by rw[B,e]) P).mono ?_;rintro e q⟨rfl,U,V⟩;have K:((i+1+a.sz:Nat):Int)=(q1e R (i+1)).nx:=by rw[C.at];rfl
   have N:(F i).dp=(q1e R (i+1)).dp:=by rw[A,C.at];rfl
   have Y:(F i).nx=(q1e R (i+1+a.sz)).nx:=by rw[D,G.at];rfl
   have Z:(F i).dp=(q1e R (i+1+a.sz)).dp:=by rw[A,G.at];rfl
   refine⟨rfl,⟨_,U,(hT.tell K N).tell Y Z,fun j hj hpt=>?_⟩,V⟩;have o:=k9f a;rcases H j hpt with rfl|rfl
   ·rw[q1b (by omega),q0l];exact⟨K,N⟩
   ·rw[q0l];exact⟨Y,Z⟩
  ·have C:=h.either1 (by omega);have P:(F (i+1)).en=((i+1+a.sz:Nat):Int):=by rw[hT.en _ C.lt,C.at];rfl
   refine(v2p bp g R.length i (i+1+a.sz) F w hR C.lt G.lt c c0 hp (by rw[B,e]) P).mono ?_;rintro e q⟨rfl,U,V⟩;have K:(F i).nx=(q1e R (i+1)).nx:=by rw[D,C.at];rfl
   have N:(F i).dp=(q1e R (i+1)).dp:=by rw[A,C.at];rfl
   have Y:(F i).nx=(q1e R (i+1+a.sz)).nx:=by rw[D,G.at];rfl
   have Z:(F i).dp=(q1e R (i+1+a.sz)).dp:=by rw[A,G.at];rfl
   refine⟨rfl,⟨_,U,(hT.tell K N).tell Y Z,fun j hj hpt=>?_⟩,V⟩;have o:=k9f a;rcases H j hpt with rfl|rfl
   ·rw[q1b (by omega),q0l];exact⟨K,N⟩
   ·rw[q0l];exact⟨Y,Z⟩
set_option maxHeartbeats 16000000
abbrev Sev(W:World)(N:Nat)(w:World):Prop:=Six W w/\w.cell? ⟨W,2,none⟩=some (.int .i64 ((N:Nat):Int))
theorem q0w.sev{W:World}{o:Int}{t:ByteArray}{N:Nat}{w:World}(h:q0w W ⟨o,t,((N:Nat):Int)⟩ w):Sev W N w:=⟨h.six,h.n.2.2.2⟩
theorem y4h(t:ByteArray)(c:UInt8):t++(⟨#[c]⟩:ByteArray)=wbS (btL t++[c]):=by
 have e:wbS (btL t)++wbS [c]=wbS (btL t++[c]):=q2l _ _;exact e
theorem k2m(op cl:List UInt8):(q1g op cl []).N=[⟨1,wbS (op++cl),0⟩]:=rfl
theorem k2l{op cl:List UInt8}{ps:List (Td × Tr)}(h:ps.length≠0):(q1g op cl ps).N=⟨8,⟨#[]⟩,0⟩::(⟨6,⟨#[]⟩,0⟩::([⟨1,wbS op,0⟩]++(⟨6,⟨#[]⟩,0⟩::((⟨7,⟨#[]⟩,2⟩::(⟨6,⟨#[]⟩,0⟩::([⟨3,⟨#[]⟩,0⟩]++(kdD ps).N)))++(⟨6,⟨#[]⟩,0⟩::([⟨3,⟨#[]⟩,0⟩]++[⟨1,wbS cl,0⟩])))))):=by
 rw[q1g,if_neg h];rfl
theorem k7p(k:Nat){o:Int}{xu l:ByteArray}{rb:UInt8}{ds:List Td}{a:Option Addr}{cap i N:Nat}{xt:ByteArray}(hk:k=0/\o=3/\xt=xu/\l=xt++(⟨#[40]⟩:ByteArray)/\rb=41\/k=1/\o=4/\xu=⟨#[]⟩/\l=⟨#[91]⟩/\rb=93)(hl:ds.length<=40)(hi:i<ds.length)(Ax:N<=6)(A2:xt.size<=8)(W:World)(hN:Tds W a ds)(he:ds[i]=⟨o,xu,((N:Nat):Int)⟩)(ks:List Nd)(Az:ks.length<=900)
  (hK:N≠0->∀W':World,Below W W W'->Calls prog 62 #[.slice a ds.length cap,.int .i64 ((i:Int)+1),.int .i64 ((N:Nat):Int)] W' fun e w'=>NdR W' ks e w'):
  Calls prog 26 #[.slice a ds.length cap,.int .i64 (i:Int)] W fun e w'=>NdR W (if N=0 then [⟨1,(l)++(⟨#[rb]⟩:ByteArray),0⟩]else⟨8,⟨#[]⟩,0⟩::(⟨6,⟨#[]⟩,0⟩::([⟨1,l,0⟩]++(⟨6,⟨#[]⟩,0⟩::((⟨7,⟨#[]⟩,2⟩::(⟨6,⟨#[]⟩,0⟩::([⟨3,⟨#[]⟩,0⟩]++ks)))++(⟨6,⟨#[]⟩,0⟩::([⟨3,⟨#[]⟩,0⟩]++[⟨1,(⟨#[rb]⟩:ByteArray),0⟩]))))))) e w':=by
 have A:Tag k:=.mk;rcases hk with⟨rfl,rfl,rfl,rfl,rfl⟩|⟨rfl,rfl,rfl,rfl,rfl⟩
 all_goals
  obtain⟨b,o,rfl,hb,c1,c2,c3⟩:=hN i hi;have Ay:(i:Int)<(ds.length:Int):=by omega
  rw[he]at c1 c2 c3;simp only at c1 c2 c3;have Q:Hid (q0w W ⟨↑(sel A (3:Int) 4),↑(sel A xt ⟨#[]⟩),((N:Nat):Int)⟩ (dcW W ↑(sel A (3:Int) 4) ↑(sel A xt ⟨#[]⟩) ((N:Nat):Int))):=k1b W ⟨↑(sel A (3:Int) 4),↑(sel A xt ⟨#[]⟩),((N:Nat):Int)⟩;have A0:(xt++(⟨#[40]⟩:ByteArray)).size=xt.size+1:=by rw[ByteArray.size_append];rfl
  have g1:¬(9223372036854775807:Int)<(xt.size:Int)+1:=by omega
  have g2:¬(9223372036854775807:Int)<(xt.size:Int)+1+1:=by omega
  have A1:IntKind.i64.wrap ((i:Int)+1)=(i:Int)+1:=by rw[IntKind.wrap_i64];omega
  have d:Hid (N≠0->∀W':World,Below W W W'->Calls prog 62 #[.slice (some ⟨b,o,none⟩) ds.length cap,.int .i64 ((i:Int)+1),.int .i64 ((N:Nat):Int)] W' fun e w'=>NdR W' ks e w'):=hK;clear hN he hK;by_cases h0:N=0
  ·subst h0;rw[if_pos rfl];go_in;go_wp2_with fail;refine(q1f _ _).mono ?_;rintro e E h3;have HR:Hid (NdR W [⟨1,(↑(sel A (xt++(⟨#[40]⟩:ByteArray)) ⟨#[91]⟩))++(⟨#[↑(sel A (41:UInt8) 93)]⟩:ByteArray),0⟩] e E):=h3.from Q.o.b;obtain⟨v3,rfl,_,_⟩:=h3.val;clear h3;go_wp2;go_ret;exact HR.o
  ·rw[if_neg h0];have Av:(((N:Nat):Int)==0)=false:=beq_false_of_ne (by omega);have Aw:¬((N:Nat):Int)=0:=by omega
   have f:Hid (∀W':World,Below W W W'->Calls prog 62 #[.slice (some ⟨b,o,none⟩) ds.length cap,.int .i64 ((i:Int)+1),.int .i64 ((N:Nat):Int)] W' fun e w'=>NdR W' ks e w'):=d.o h0;clear d h0;go_in;go_wp2_with fail;generalize Aa:((((W.alloc (.cells #[.int .i64 ↑(sel A (3:Int) 4),.string ↑(sel A xt ⟨#[]⟩),.int .i64 ((N:Nat):Int)] 47)).alloc (.cells #[.int .i64 2,.string ⟨#[]⟩,.int .i64 0] 107)).alloc (.cells #[.int .i64 3,.string ⟨#[]⟩,.int .i64 0] 107)).alloc (.cells #[.int .i64 8,.string ⟨#[]⟩,.int .i64 0] 107)).alloc (.cells #[.int .i64 7,.string ⟨#[]⟩,.int .i64 2] 107)=E
   have C:Hid (q0w W ⟨↑(sel A (3:Int) 4),↑(sel A xt ⟨#[]⟩),((N:Nat):Int)⟩ E):=by
    show q0w _ _ _;rw[<-Aa];exact Q.o
   have s:Hid (Sev W N E):=C.o.sev;have I:Hid (Sev W N E.drew):=C.o.sev;have G:Hid (Below E E E.drew):= Zb.drew;have Y:Hid (Below W W E.drew):=C.o.b.drew;clear Aa Q c1 c2 c3
   go_region_held3 (fun w'=>Sev W N w') (first|with_reducible exact I.o|with_reducible exact s.o|with_reducible exact t.o|with_reducible exact u.o|with_reducible exact v.o)
    (first
      | (go_at_call 60;refine((q2w ⟨7,⟨#[]⟩,2⟩ (w5) Ad.o (by simp<;>omega))).mono ?_;rintro e L h6;obtain⟨v6,rfl,n6,b6⟩:=h6.val;have O:Hid (q0w W ⟨↑(sel A (3:Int) 4),↑(sel A xt ⟨#[]⟩),((N:Nat):Int)⟩ L):=M.o.W b6;have v:Hid (Sev W N L):=O.o.sev;have Ag:Hid (NdV L v6 (⟨7,⟨#[]⟩,2⟩::(⟨6,⟨#[]⟩,0⟩::([⟨3,⟨#[]⟩,0⟩]++ks)))):=n6;clear h6 n6 b6)
      | (go_at_call 61;refine((q0u (w4) H.o.sf Ak.o (by simp<;>omega))).mono ?_;rintro e w5 h5;obtain⟨v5,rfl,n5,b5⟩:=h5.val;have M:Hid (q0w W ⟨↑(sel A (3:Int) 4),↑(sel A xt ⟨#[]⟩),((N:Nat):Int)⟩ w5):=H.o.W b5;have u:Hid (Sev W N w5):=M.o.sev;have Ad:Hid (NdV w5 v5 (⟨6,⟨#[]⟩,0⟩::([⟨3,⟨#[]⟩,0⟩]++ks))):=n5;clear h5 n5 b5)
      | (go_at_call 62;refine((f.o (E.drew) Y.o).mono fun _ _ h=>h.from G.o).mono ?_;rintro e w4 h4;obtain⟨v4,rfl,n4,b4⟩:=h4.val;have H:Hid (q0w W ⟨↑(sel A (3:Int) 4),↑(sel A xt ⟨#[]⟩),((N:Nat):Int)⟩ w4):=C.o.W b4;have t:Hid (Sev W N w4):=H.o.sev;have Ak:Hid (NdV w4 v4 (ks)):=n4;clear h4 n4 b4))
   all_goals
    clear I G Y;have I:Hid (Sev W N L.drew):=O.o.sev;have G:Hid (Below L L L.drew):= Zb.drew;clear f s t u C H M;go_wp2_with fail
    go_region_held3 (fun w'=>Sev W N w') (first|with_reducible exact I.o|with_reducible exact v.o|with_reducible exact Ap.o|with_reducible exact Aq.o|with_reducible exact Ar.o|with_reducible exact p.o|with_reducible exact q.o|with_reducible exact r.o)
     (first
      | (go_at_call 60;refine((q2w ⟨8,⟨#[]⟩,0⟩ (J) c.o (by simp<;>omega))).mono ?_;rintro e U S;have Ao:Hid (NdR W (⟨8,⟨#[]⟩,0⟩::(⟨6,⟨#[]⟩,0⟩::([⟨1,↑(sel A (xt++(⟨#[40]⟩:ByteArray)) ⟨#[91]⟩),0⟩]++(⟨6,⟨#[]⟩,0⟩::((⟨7,⟨#[]⟩,2⟩::(⟨6,⟨#[]⟩,0⟩::([⟨3,⟨#[]⟩,0⟩]++ks)))++(⟨6,⟨#[]⟩,0⟩::([⟨3,⟨#[]⟩,0⟩]++[⟨1,(⟨#[↑(sel A (41:UInt8) 93)]⟩:ByteArray),0⟩]))))))) e U):=S.from B.o.b;obtain⟨A3,rfl,As,x⟩:=S.val;have j:Hid (q0w W ⟨↑(sel A (3:Int) 4),↑(sel A xt ⟨#[]⟩),((N:Nat):Int)⟩ U):=B.o.W x;have r:Hid (Sev W N U):=j.o.sev;clear S As x)
      | (go_at_call 61;refine((q0u (D) g.o Z.o (by simp<;>omega))).mono ?_;rintro e J z;obtain⟨Au,rfl,Ac,w⟩:=z.val;have B:Hid (q0w W ⟨↑(sel A (3:Int) 4),↑(sel A xt ⟨#[]⟩),((N:Nat):Int)⟩ J):=K.o.W w;have q:Hid (Sev W N J):=B.o.sev;have c:Hid (NdV J Au (⟨6,⟨#[]⟩,0⟩::([⟨1,↑(sel A (xt++(⟨#[40]⟩:ByteArray)) ⟨#[91]⟩),0⟩]++(⟨6,⟨#[]⟩,0⟩::((⟨7,⟨#[]⟩,2⟩::(⟨6,⟨#[]⟩,0⟩::([⟨3,⟨#[]⟩,0⟩]++ks)))++(⟨6,⟨#[]⟩,0⟩::([⟨3,⟨#[]⟩,0⟩]++[⟨1,(⟨#[↑(sel A (41:UInt8) 93)]⟩:ByteArray),0⟩]))))))):=Ac;clear z Ac w)
      | (go_at_call 61;refine((q0u (X) Aj.o Af.o (by simp<;>omega))).mono ?_;rintro e D y;obtain⟨At,rfl,Ab,R⟩:=y.val;have K:Hid (q0w W ⟨↑(sel A (3:Int) 4),↑(sel A xt ⟨#[]⟩),((N:Nat):Int)⟩ D):=n.o.W R;have p:Hid (Sev W N D):=K.o.sev;have g:Hid (NdV D v7 ([⟨1,↑(sel A (xt++(⟨#[40]⟩:ByteArray)) ⟨#[91]⟩),0⟩])):=An.o.W R;have Z:Hid (NdV D At (⟨6,⟨#[]⟩,0⟩::((⟨7,⟨#[]⟩,2⟩::(⟨6,⟨#[]⟩,0⟩::([⟨3,⟨#[]⟩,0⟩]++ks)))++(⟨6,⟨#[]⟩,0⟩::([⟨3,⟨#[]⟩,0⟩]++[⟨1,(⟨#[↑(sel A (41:UInt8) 93)]⟩:ByteArray),0⟩]))))):=Ab;clear y Ab R)
      | (go_at_call 61;refine((q0u (V) P.o.sf Ae.o (by simp<;>omega))).mono ?_;rintro e X h9;obtain⟨v9,rfl,n9,b9⟩:=h9.val;have n:Hid (q0w W ⟨↑(sel A (3:Int) 4),↑(sel A xt ⟨#[]⟩),((N:Nat):Int)⟩ X):=P.o.W b9;have Ar:Hid (Sev W N X):=n.o.sev;have Aj:Hid (NdV X v6 (⟨7,⟨#[]⟩,2⟩::(⟨6,⟨#[]⟩,0⟩::([⟨3,⟨#[]⟩,0⟩]++ks)))):=Ai.o.W b9;have An:Hid (NdV X v7 ([⟨1,↑(sel A (xt++(⟨#[40]⟩:ByteArray)) ⟨#[91]⟩),0⟩])):=Am.o.W b9;have Af:Hid (NdV X v9 (⟨6,⟨#[]⟩,0⟩::([⟨3,⟨#[]⟩,0⟩]++[⟨1,(⟨#[↑(sel A (41:UInt8) 93)]⟩:ByteArray),0⟩]))):=n9;clear h9 n9 b9)
      | (go_at_call 57;refine((q1f _ (w7))).mono ?_;rintro e V h8;obtain⟨v8,rfl,n8,b8⟩:=h8.val;have P:Hid (q0w W ⟨↑(sel A (3:Int) 4),↑(sel A xt ⟨#[]⟩),((N:Nat):Int)⟩ V):=m.o.W b8;have Aq:Hid (Sev W N V):=P.o.sev;have Ai:Hid (NdV V v6 (⟨7,⟨#[]⟩,2⟩::(⟨6,⟨#[]⟩,0⟩::([⟨3,⟨#[]⟩,0⟩]++ks)))):=Ah.o.W b8;have Am:Hid (NdV V v7 ([⟨1,↑(sel A (xt++(⟨#[40]⟩:ByteArray)) ⟨#[91]⟩),0⟩])):=Al.o.W b8;have Ae:Hid (NdV V v8 ([⟨1,(⟨#[↑(sel A (41:UInt8) 93)]⟩:ByteArray),0⟩])):=n8;clear h8 n8 b8)
      | (go_at_call 57;refine((q1f _ (L.drew)).mono fun _ _ h=>h.from G.o).mono ?_;rintro e w7 h7;obtain⟨v7,rfl,n7,b7⟩:=h7.val;have m:Hid (q0w W ⟨↑(sel A (3:Int) 4),↑(sel A xt ⟨#[]⟩),((N:Nat):Int)⟩ w7):=O.o.W b7;have Ap:Hid (Sev W N w7):=m.o.sev;have Ah:Hid (NdV w7 v6 (⟨7,⟨#[]⟩,2⟩::(⟨6,⟨#[]⟩,0⟩::([⟨3,⟨#[]⟩,0⟩]++ks)))):=Ag.o.W b7;have Al:Hid (NdV w7 v7 ([⟨1,↑(sel A (xt++(⟨#[40]⟩:ByteArray)) ⟨#[91]⟩),0⟩])):=n7;clear h7 n7 b7))
    all_goals
     go_wp2;go_ret;exact Ao.o
structure ChB(w wx:World)(i c:Nat)(q:Q):Prop where
 a0:wx.cell? ⟨w,0,none⟩=some (.int .i64 i)
 a1:wx.cell? ⟨w,1,none⟩=some (.int .i64 c)
 r0:wx.cell? ⟨w.heap.size+1,0,none⟩=some (.int .i64 0)
 r1:wx.cell? ⟨w.heap.size+1,1,none⟩=some (.int .i64 0)
 r2:wx.cell? ⟨w.heap.size+1,2,none⟩=some (.int .i64 0)
 r3:wx.cell? ⟨w.heap.size+1,3,none⟩=some (.int .i64 0)
 r4:wx.cell? ⟨w.heap.size+1,4,none⟩=some (.int .i64 0)
 fr:z3g wx (w.heap.size+1)
 q0:wx.cell? ⟨w.heap.size+1+1,0,none⟩=some (.int .i64 q.op)
 q1:wx.cell? ⟨w.heap.size+1+1,1,none⟩=some (.string q.tx)
 q2:wx.cell? ⟨w.heap.size+1+1,2,none⟩=some (.int .i64 q.n)
 q3:wx.cell? ⟨w.heap.size+1+1,3,none⟩=some (.int .i64 q.en)
 q4:wx.cell? ⟨w.heap.size+1+1,4,none⟩=some (.int .i64 q.nx)
 q5:wx.cell? ⟨w.heap.size+1+1,5,none⟩=some (.int .i64 q.dp)
 q6:wx.cell? ⟨w.heap.size+1+1,6,none⟩=some (.int .i64 q.lg)
 lt:w.heap.size+1+1<wx.heap.size
theorem ChB.kept{w wx wy:World}{i c mb:Nat}{q:Q}(h:ChB w wx i c q)(hb:q0p wx mb wx wy)(hm:mb<w.heap.size):ChB w wy i c q:=by
 have A:∀b o v,b≠mb->wx.cell? ⟨b,o,none⟩=some v->wy.cell? ⟨b,o,none⟩=some v:=fun b o v he hv=>(hb.cell (p:=⟨b,o,none⟩) (World.block_lt_of_cell? wx ⟨b,o,none⟩ hv) he).trans hv
 exact⟨A _ _ _ (by omega) h.a0,A _ _ _ (by omega) h.a1,A _ _ _ (by omega) h.r0,A _ _ _ (by omega) h.r1,A _ _ _ (by omega) h.r2,A _ _ _ (by omega) h.r3,A _ _ _ (by omega) h.r4,h.fr.kept (hb.block _ h.fr.lt (by omega)),
  A _ _ _ (by omega) h.q0,A _ _ _ (by omega) h.q1,A _ _ _ (by omega) h.q2,A _ _ _ (by omega) h.q3,A _ _ _ (by omega) h.q4,A _ _ _ (by omega) h.q5,A _ _ _ (by omega) h.q6,Nat.lt_of_lt_of_le h.lt hb.size⟩
theorem j3o{sb g mb wd i c:Nat}{R:List Pl}{S:Nat->Nat->Bool}{w w1:World}(h:Sk1 sb g mb wd i c R S w w1)(q:Q):ChB w (w1.alloc (q5e q)).drew i c q:=by
 have A:=heap_alloc_new w1 (q5e q);rw[h.sz]at A;have B:∀o v,(w1.alloc (q5e q)).cell? ⟨w.heap.size+1+1,o,none⟩=v->(w1.alloc (q5e q)).drew.cell? ⟨w.heap.size+1+1,o,none⟩=v:=fun _ _ h=>h
 refine⟨ka h.a0 _,ka h.a1 _,ka h.r0 _,ka h.r1 _,ka h.r2 _,ka h.r3 _,ka h.r4 _,h.fr.kept (Below.heap_alloc _ _ _ h.fr.lt),B _ _ ?_,B _ _ ?_,B _ _ ?_,B _ _ ?_,B _ _ ?_,B _ _ ?_,B _ _ ?_,?_⟩
 ·simp[World.cell?,A,q5e]
 ·simp[World.cell?,A,q5e]
 ·simp[World.cell?,A,q5e]
 ·simp[World.cell?,A,q5e]
 ·simp[World.cell?,A,q5e]
 ·simp[World.cell?,A,q5e]
 ·simp[World.cell?,A,q5e]
 ·show w.heap.size+1+1<(w1.alloc (q5e q)).heap.size;simp[h.sz]
end Go.Proofs.YtfdppahhbpfnoaaGreatDoor
