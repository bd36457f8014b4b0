import Derived.Test.YthcpdohdppkmkaaGreatDoorPl41
import Derived.Test.YthcpdohdppkmkaaGreatDoorPl28
open Go.Proofs.Tryz
namespace Go.Proofs.YthcpdohdppkmkaaGreatDoor
open Go Go.RowKit
set_option maxRecDepth 100000
set_option maxHeartbeats 16000000
abbrev Sev(W:World)(N:Nat)(w:World):Prop:=Six W w/\w.cell? ⟨W,2,none⟩=some (.int .i64 ((N:Nat):Int))
theorem q1f.sev{W:World}{o:Int}{t:ByteArray}{N:Nat}{w:World}(h:q1f W ⟨o,t,((N:Nat):Int)⟩ w):Sev W N w:=⟨h.six,h.n.2.2.2⟩
theorem y3n(t:ByteArray)(c:UInt8):t++(⟨#[c]⟩:ByteArray)=wbS (btL t++[c]):=by
 have e:wbS (btL t)++wbS [c]=wbS (btL t++[c]):=q1y _ _;exact e
theorem k1s(op cl:List UInt8):(q3h op cl []).N=[⟨1,wbS (op++cl),0⟩]:=rfl
theorem k1r{op cl:List UInt8}{ps:List (Td × Tr)}(h:ps.length≠0):(q3h op cl ps).N=⟨8,⟨#[]⟩,0⟩::(⟨6,⟨#[]⟩,0⟩::([⟨1,wbS op,0⟩]++(⟨6,⟨#[]⟩,0⟩::((⟨7,⟨#[]⟩,2⟩::(⟨6,⟨#[]⟩,0⟩::([⟨3,⟨#[]⟩,0⟩]++(kdD ps).N)))++(⟨6,⟨#[]⟩,0⟩::([⟨3,⟨#[]⟩,0⟩]++[⟨1,wbS cl,0⟩])))))):=by
 rw[q3h,if_neg h];rfl
theorem k6e(k:Nat){o:Int}{xu l:ByteArray}{rb:UInt8}{ds:List Td}{a:Option Addr}{cap i N:Nat}{xt:ByteArray}(hk:k=0/\o=3/\xt=xu/\l=xt++(⟨#[40]⟩:ByteArray)/\rb=41\/k=1/\o=4/\xu=⟨#[]⟩/\l=⟨#[91]⟩/\rb=93)(hl:ds.length<=40)(hi:i<ds.length)(Ax:N<=6)(A2:xt.size<=8)(W:World)(hN:Tds W a ds)(he:ds[i]=⟨o,xu,((N:Nat):Int)⟩)(ks:List Nd)(Az:ks.length<=900)
  (hK:N≠0->∀W':World,Below W W W'->Calls prog 130 #[.slice a ds.length cap,.int .i64 ((i:Int)+1),.int .i64 ((N:Nat):Int)] W' fun e w'=>NdR W' ks e w'):
  Calls prog 79 #[.slice a ds.length cap,.int .i64 (i:Int)] W fun e w'=>NdR W (if N=0 then [⟨1,(l)++(⟨#[rb]⟩:ByteArray),0⟩]else⟨8,⟨#[]⟩,0⟩::(⟨6,⟨#[]⟩,0⟩::([⟨1,l,0⟩]++(⟨6,⟨#[]⟩,0⟩::((⟨7,⟨#[]⟩,2⟩::(⟨6,⟨#[]⟩,0⟩::([⟨3,⟨#[]⟩,0⟩]++ks)))++(⟨6,⟨#[]⟩,0⟩::([⟨3,⟨#[]⟩,0⟩]++[⟨1,(⟨#[rb]⟩:ByteArray),0⟩]))))))) e w':=by
 have A:Tag k:=.mk;rcases hk with⟨rfl,rfl,rfl,rfl,rfl⟩|⟨rfl,rfl,rfl,rfl,rfl⟩
 all_goals
  obtain⟨b,o,rfl,hb,c1,c2,c3⟩:=hN i hi;have Ay:(i:Int)<(ds.length:Int):=by omega
  rw[he]at c1 c2 c3;simp only at c1 c2 c3;have Q:Hid (q1f W ⟨↑(sel A (3:Int) 4),↑(sel A xt ⟨#[]⟩),((N:Nat):Int)⟩ (dcW W ↑(sel A (3:Int) 4) ↑(sel A xt ⟨#[]⟩) ((N:Nat):Int))):=k0o W ⟨↑(sel A (3:Int) 4),↑(sel A xt ⟨#[]⟩),((N:Nat):Int)⟩;have A0:(xt++(⟨#[40]⟩:ByteArray)).size=xt.size+1:=by rw[ByteArray.size_append];rfl
  have g1:¬(9223372036854775807:Int)<(xt.size:Int)+1:=by omega
  have g2:¬(9223372036854775807:Int)<(xt.size:Int)+1+1:=by omega
  have A1:IntKind.i64.wrap ((i:Int)+1)=(i:Int)+1:=by rw[IntKind.wrap_i64];omega
  have d:Hid (N≠0->∀W':World,Below W W W'->Calls prog 130 #[.slice (some ⟨b,o,none⟩) ds.length cap,.int .i64 ((i:Int)+1),.int .i64 ((N:Nat):Int)] W' fun e w'=>NdR W' ks e w'):=hK;clear hN he hK;by_cases h0:N=0
  ·subst h0;rw[if_pos rfl];go_in;go_wp2_with fail;refine(q1q _ _).mono ?_;rintro e E h3;have HR:Hid (NdR W [⟨1,(↑(sel A (xt++(⟨#[40]⟩:ByteArray)) ⟨#[91]⟩))++(⟨#[↑(sel A (41:UInt8) 93)]⟩:ByteArray),0⟩] e E):=h3.from Q.o.b;obtain⟨v3,rfl,_,_⟩:=h3.val;clear h3;go_wp2;go_ret;exact HR.o
  ·rw[if_neg h0];have Av:(((N:Nat):Int)==0)=false:=beq_false_of_ne (by omega);have Aw:¬((N:Nat):Int)=0:=by omega
   have f:Hid (∀W':World,Below W W W'->Calls prog 130 #[.slice (some ⟨b,o,none⟩) ds.length cap,.int .i64 ((i:Int)+1),.int .i64 ((N:Nat):Int)] W' fun e w'=>NdR W' ks e w'):=d.o h0;clear d h0;go_in;go_wp2_with fail;generalize Aa:((((W.alloc (.cells #[.int .i64 ↑(sel A (3:Int) 4),.string ↑(sel A xt ⟨#[]⟩),.int .i64 ((N:Nat):Int)] 71)).alloc (.cells #[.int .i64 2,.string ⟨#[]⟩,.int .i64 0] 177)).alloc (.cells #[.int .i64 3,.string ⟨#[]⟩,.int .i64 0] 177)).alloc (.cells #[.int .i64 8,.string ⟨#[]⟩,.int .i64 0] 177)).alloc (.cells #[.int .i64 7,.string ⟨#[]⟩,.int .i64 2] 177)=E
   have C:Hid (q1f W ⟨↑(sel A (3:Int) 4),↑(sel A xt ⟨#[]⟩),((N:Nat):Int)⟩ E):=by
    show q1f _ _ _;rw[<-Aa];exact Q.o
   have s:Hid (Sev W N E):=C.o.sev;have I:Hid (Sev W N E.drew):=C.o.sev;have G:Hid (Below E E E.drew):= Zb.drew;have Y:Hid (Below W W E.drew):=C.o.b.drew;clear Aa Q c1 c2 c3
   go_region_held3 (fun w'=>Sev W N w') (first|with_reducible exact I.o|with_reducible exact s.o|with_reducible exact t.o|with_reducible exact u.o|with_reducible exact v.o)
    (first
      | (go_at_call 128;refine((q3g ⟨7,⟨#[]⟩,2⟩ (w5) Ad.o (by simp<;>omega))).mono ?_;rintro e L h6;obtain⟨v6,rfl,n6,b6⟩:=h6.val;have O:Hid (q1f W ⟨↑(sel A (3:Int) 4),↑(sel A xt ⟨#[]⟩),((N:Nat):Int)⟩ L):=M.o.W b6;have v:Hid (Sev W N L):=O.o.sev;have Ag:Hid (NdV L v6 (⟨7,⟨#[]⟩,2⟩::(⟨6,⟨#[]⟩,0⟩::([⟨3,⟨#[]⟩,0⟩]++ks)))):=n6;clear h6 n6 b6)
      | (go_at_call 129;refine((q1a (w4) H.o.sf Ak.o (by simp<;>omega))).mono ?_;rintro e w5 h5;obtain⟨v5,rfl,n5,b5⟩:=h5.val;have M:Hid (q1f W ⟨↑(sel A (3:Int) 4),↑(sel A xt ⟨#[]⟩),((N:Nat):Int)⟩ w5):=H.o.W b5;have u:Hid (Sev W N w5):=M.o.sev;have Ad:Hid (NdV w5 v5 (⟨6,⟨#[]⟩,0⟩::([⟨3,⟨#[]⟩,0⟩]++ks))):=n5;clear h5 n5 b5)
      | (go_at_call 130;refine((f.o (E.drew) Y.o).mono fun _ _ h=>h.from G.o).mono ?_;rintro e w4 h4;obtain⟨v4,rfl,n4,b4⟩:=h4.val;have H:Hid (q1f W ⟨↑(sel A (3:Int) 4),↑(sel A xt ⟨#[]⟩),((N:Nat):Int)⟩ w4):=C.o.W b4;have t:Hid (Sev W N w4):=H.o.sev;have Ak:Hid (NdV w4 v4 (ks)):=n4;clear h4 n4 b4))
   all_goals
    clear I G Y;have I:Hid (Sev W N L.drew):=O.o.sev;have G:Hid (Below L L L.drew):= Zb.drew;clear f s t u C H M;go_wp2_with fail
    go_region_held3 (fun w'=>Sev W N w') (first|with_reducible exact I.o|with_reducible exact v.o|with_reducible exact Ap.o|with_reducible exact Aq.o|with_reducible exact Ar.o|with_reducible exact p.o|with_reducible exact q.o|with_reducible exact r.o)
     (first
      | (go_at_call 128;refine((q3g ⟨8,⟨#[]⟩,0⟩ (J) c.o (by simp<;>omega))).mono ?_;rintro e U S;have Ao:Hid (NdR W (⟨8,⟨#[]⟩,0⟩::(⟨6,⟨#[]⟩,0⟩::([⟨1,↑(sel A (xt++(⟨#[40]⟩:ByteArray)) ⟨#[91]⟩),0⟩]++(⟨6,⟨#[]⟩,0⟩::((⟨7,⟨#[]⟩,2⟩::(⟨6,⟨#[]⟩,0⟩::([⟨3,⟨#[]⟩,0⟩]++ks)))++(⟨6,⟨#[]⟩,0⟩::([⟨3,⟨#[]⟩,0⟩]++[⟨1,(⟨#[↑(sel A (41:UInt8) 93)]⟩:ByteArray),0⟩]))))))) e U):=S.from B.o.b;obtain⟨A3,rfl,As,x⟩:=S.val;have j:Hid (q1f W ⟨↑(sel A (3:Int) 4),↑(sel A xt ⟨#[]⟩),((N:Nat):Int)⟩ U):=B.o.W x;have r:Hid (Sev W N U):=j.o.sev;clear S As x)
      | (go_at_call 129;refine((q1a (D) g.o Z.o (by simp<;>omega))).mono ?_;rintro e J z;obtain⟨Au,rfl,Ac,w⟩:=z.val;have B:Hid (q1f W ⟨↑(sel A (3:Int) 4),↑(sel A xt ⟨#[]⟩),((N:Nat):Int)⟩ J):=K.o.W w;have q:Hid (Sev W N J):=B.o.sev;have c:Hid (NdV J Au (⟨6,⟨#[]⟩,0⟩::([⟨1,↑(sel A (xt++(⟨#[40]⟩:ByteArray)) ⟨#[91]⟩),0⟩]++(⟨6,⟨#[]⟩,0⟩::((⟨7,⟨#[]⟩,2⟩::(⟨6,⟨#[]⟩,0⟩::([⟨3,⟨#[]⟩,0⟩]++ks)))++(⟨6,⟨#[]⟩,0⟩::([⟨3,⟨#[]⟩,0⟩]++[⟨1,(⟨#[↑(sel A (41:UInt8) 93)]⟩:ByteArray),0⟩]))))))):=Ac;clear z Ac w)
      | (go_at_call 129;refine((q1a (X) Aj.o Af.o (by simp<;>omega))).mono ?_;rintro e D y;obtain⟨At,rfl,Ab,R⟩:=y.val;have K:Hid (q1f W ⟨↑(sel A (3:Int) 4),↑(sel A xt ⟨#[]⟩),((N:Nat):Int)⟩ D):=n.o.W R;have p:Hid (Sev W N D):=K.o.sev;have g:Hid (NdV D v7 ([⟨1,↑(sel A (xt++(⟨#[40]⟩:ByteArray)) ⟨#[91]⟩),0⟩])):=An.o.W R;have Z:Hid (NdV D At (⟨6,⟨#[]⟩,0⟩::((⟨7,⟨#[]⟩,2⟩::(⟨6,⟨#[]⟩,0⟩::([⟨3,⟨#[]⟩,0⟩]++ks)))++(⟨6,⟨#[]⟩,0⟩::([⟨3,⟨#[]⟩,0⟩]++[⟨1,(⟨#[↑(sel A (41:UInt8) 93)]⟩:ByteArray),0⟩]))))):=Ab;clear y Ab R)
      | (go_at_call 129;refine((q1a (V) P.o.sf Ae.o (by simp<;>omega))).mono ?_;rintro e X h9;obtain⟨v9,rfl,n9,b9⟩:=h9.val;have n:Hid (q1f W ⟨↑(sel A (3:Int) 4),↑(sel A xt ⟨#[]⟩),((N:Nat):Int)⟩ X):=P.o.W b9;have Ar:Hid (Sev W N X):=n.o.sev;have Aj:Hid (NdV X v6 (⟨7,⟨#[]⟩,2⟩::(⟨6,⟨#[]⟩,0⟩::([⟨3,⟨#[]⟩,0⟩]++ks)))):=Ai.o.W b9;have An:Hid (NdV X v7 ([⟨1,↑(sel A (xt++(⟨#[40]⟩:ByteArray)) ⟨#[91]⟩),0⟩])):=Am.o.W b9;have Af:Hid (NdV X v9 (⟨6,⟨#[]⟩,0⟩::([⟨3,⟨#[]⟩,0⟩]++[⟨1,(⟨#[↑(sel A (41:UInt8) 93)]⟩:ByteArray),0⟩]))):=n9;clear h9 n9 b9)
      | (go_at_call 125;refine((q1q _ (w7))).mono ?_;rintro e V h8;obtain⟨v8,rfl,n8,b8⟩:=h8.val;have P:Hid (q1f W ⟨↑(sel A (3:Int) 4),↑(sel A xt ⟨#[]⟩),((N:Nat):Int)⟩ V):=m.o.W b8;have Aq:Hid (Sev W N V):=P.o.sev;have Ai:Hid (NdV V v6 (⟨7,⟨#[]⟩,2⟩::(⟨6,⟨#[]⟩,0⟩::([⟨3,⟨#[]⟩,0⟩]++ks)))):=Ah.o.W b8;have Am:Hid (NdV V v7 ([⟨1,↑(sel A (xt++(⟨#[40]⟩:ByteArray)) ⟨#[91]⟩),0⟩])):=Al.o.W b8;have Ae:Hid (NdV V v8 ([⟨1,(⟨#[↑(sel A (41:UInt8) 93)]⟩:ByteArray),0⟩])):=n8;clear h8 n8 b8)
      | (go_at_call 125;refine((q1q _ (L.drew)).mono fun _ _ h=>h.from G.o).mono ?_;rintro e w7 h7;obtain⟨v7,rfl,n7,b7⟩:=h7.val;have m:Hid (q1f W ⟨↑(sel A (3:Int) 4),↑(sel A xt ⟨#[]⟩),((N:Nat):Int)⟩ w7):=O.o.W b7;have Ap:Hid (Sev W N w7):=m.o.sev;have Ah:Hid (NdV w7 v6 (⟨7,⟨#[]⟩,2⟩::(⟨6,⟨#[]⟩,0⟩::([⟨3,⟨#[]⟩,0⟩]++ks)))):=Ag.o.W b7;have Al:Hid (NdV w7 v7 ([⟨1,↑(sel A (xt++(⟨#[40]⟩:ByteArray)) ⟨#[91]⟩),0⟩])):=n7;clear h7 n7 b7))
    all_goals
     go_wp2;go_ret;exact Ao.o
theorem k3n{ds:List Td}{a:Option Addr}{cap:Nat}(hs:v9w ds):∀F:Fo,F.ok->F.exs->DcA ds a cap F
 | .nil,_,_=>trivial
 | .cons x k n,hok,hex=>by
  have hexk:k.exs:=fun y hy=>hex y (by simp[Fo.N,hy])
  have ihk:=k3n (a:=a) (cap:=cap) hs k hok.2.1 hexk;have ihn:=k3n (a:=a) (cap:=cap) hs n hok.2.2 fun y hy=>hex y (by simp[Fo.N,hy])
  have hx:=hex x (by simp[Fo.N]);refine⟨?_,ihn⟩
  have kids:∀(i:Nat)(r:List Td),ds.drop i=(Fo.cons x k n).N++r->∀W:World,Tds W a ds->∃hp:i<ds.length,ds[i]=x/\(kdD k.D).N.length<=900/\(k.len≠0->∀W':World,Below W W W'->Calls prog 130 #[.slice a ds.length cap,.int .i64 ((i:Int)+1),.int .i64 (k.len:Int)] W' fun e w'=>NdR W' (kdD k.D).N e w'):=fun i r hi W hN=>by
   obtain⟨hp,e1,e2,_,_⟩:=k9j hi hok;refine⟨hp,e1,?_,fun h0 W' hb=>?_⟩
   ·have h1:=z2y hs e2;have h2:=k9w k.D;omega
   ·have h:=z4d (cap:=cap) hs k (i+1) _ e2 hok.2.1 ihk h0 W' (hN.W hb);rw[show((i+1:Nat):Int)=(i:Int)+1 by omega]at h;exact h
  rcases q6d hx with⟨ho,_⟩|⟨ho,_⟩|⟨ho,hnm,h0,h6,hkd⟩|⟨ho,htx,h0,h6,hkd⟩|⟨ho,_⟩|⟨ho,_⟩
  ·exact k6d hs hok hx (.inl ho)
  ·exact k6d hs hok hx (.inr ho)
  ·intro i r hi W hN;obtain⟨hp,e1,hkl,hK⟩:=kids i r hi W hN;have hlen:k.len=x.n.toNat:=hok.1.trans hkd
   have e3:x=⟨3,x.tx,((k.len:Nat):Int)⟩:=by
    obtain⟨H,xt,G⟩:=x;simp only at ho h0 hlen⊢;rw[ho,hlen,Int.toNat_of_nonneg h0]
   have E:x.tx.size<=8:=by rw[<-q0b];exact q5p hnm
   have h:=k6e 0 (.inl ⟨rfl,rfl,rfl,rfl,rfl⟩) (cap:=cap) hs.l hp (N:=k.len) (xt:=x.tx) (by omega) E W hN (by rw[e1];exact e3) (kdD k.D).N hkl hK
   have B:(q0m x k.D).N=if k.len=0 then [⟨1,(x.tx++(⟨#[40]⟩:ByteArray))++(⟨#[41]⟩:ByteArray),0⟩]else⟨8,⟨#[]⟩,0⟩::(⟨6,⟨#[]⟩,0⟩::([⟨1,x.tx++(⟨#[40]⟩:ByteArray),0⟩]++(⟨6,⟨#[]⟩,0⟩::((⟨7,⟨#[]⟩,2⟩::(⟨6,⟨#[]⟩,0⟩::([⟨3,⟨#[]⟩,0⟩]++(kdD k.D).N)))++(⟨6,⟨#[]⟩,0⟩::([⟨3,⟨#[]⟩,0⟩]++[⟨1,(⟨#[41]⟩:ByteArray),0⟩])))))):=by
    rw[show q0m x k.D=q3h (btL x.tx++[40]) [41] k.D by simp[q0m,ho],y3n x.tx 40];by_cases A:k.len=0
    ·have:k.D=[]:=List.eq_nil_of_length_eq_zero (by rw[q6q];exact A)
     rw[if_pos A,this,k1s];have C:wbS (btL x.tx++[40])++(⟨#[41]⟩:ByteArray)=wbS (btL x.tx++[40]++[41]):=q1y _ _;rw[C]
    ·rw[if_neg A,k1r (by rw[q6q];exact A)];rfl
   show Calls _ _ _ _ _;rw[B];exact h
  ·intro i r hi W hN;obtain⟨hp,e1,hkl,hK⟩:=kids i r hi W hN;have hlen:k.len=x.n.toNat:=hok.1.trans hkd
   have e3:x=⟨4,⟨#[]⟩,((k.len:Nat):Int)⟩:=by
    obtain⟨H,xt,G⟩:=x;simp only at ho h0 hlen htx⊢;rw[ho,htx,hlen,Int.toNat_of_nonneg h0]
   have h:=k6e 1 (.inr ⟨rfl,rfl,rfl,rfl,rfl⟩) (cap:=cap) hs.l hp (N:=k.len) (xt:=⟨#[]⟩) (by omega) (by decide) W hN (by rw[e1];exact e3) (kdD k.D).N hkl hK
   have B:(q0m x k.D).N=if k.len=0 then [⟨1,(⟨#[91]⟩:ByteArray)++(⟨#[93]⟩:ByteArray),0⟩]else⟨8,⟨#[]⟩,0⟩::(⟨6,⟨#[]⟩,0⟩::([⟨1,(⟨#[91]⟩:ByteArray),0⟩]++(⟨6,⟨#[]⟩,0⟩::((⟨7,⟨#[]⟩,2⟩::(⟨6,⟨#[]⟩,0⟩::([⟨3,⟨#[]⟩,0⟩]++(kdD k.D).N)))++(⟨6,⟨#[]⟩,0⟩::([⟨3,⟨#[]⟩,0⟩]++[⟨1,(⟨#[93]⟩:ByteArray),0⟩])))))):=by
    rw[show q0m x k.D=q3h [91] [93] k.D by simp[q0m,ho]];by_cases A:k.len=0
    ·have:k.D=[]:=List.eq_nil_of_length_eq_zero (by rw[q6q];exact A)
     rw[if_pos A,this,k1s];rfl
    ·rw[if_neg A,k1r (by rw[q6q];exact A)];rfl
   show Calls _ _ _ _ _;rw[B];exact h
  ·exact j3r hs hok hex (.inl ho) ihk
  ·exact j3r hs hok hex (.inr ho) ihk
abbrev Eig(W:World)(xt:ByteArray)(w:World):Prop:=Six W w/\w.cell? ⟨W,1,none⟩=some (.string xt)
theorem q1f.eig{W:World}{o n:Int}{t:ByteArray}{w:World}(h:q1f W ⟨o,t,n⟩ w):Eig W t w:=⟨h.six,h.n.2.2.1⟩
theorem y0w{ds:List Td}{a:Option Addr}{cap:Nat}{xt:ByteArray}(hl:ds.length<=40)(hi:0<ds.length)(Ac:xt.size<=8)(W:World)(hN:Tds W a ds)(he:ds[0]=⟨7,xt,0⟩)(xs:List Nd)(Ab:xs.length<=900)
  (hD:∀W':World,Below W W W'->Calls prog 79 #[.slice a ds.length cap,.int .i64 1] W' fun e w'=>NdR W' xs e w'):
  Calls prog 79 #[.slice a ds.length cap,.int .i64 0] W fun e w'=>NdR W (⟨8,⟨#[]⟩,0⟩::(⟨6,⟨#[]⟩,0⟩::([⟨1,(⟨#[108,101,116,32]⟩:ByteArray)++xt++(⟨#[32,61]⟩:ByteArray),0⟩]++(⟨7,⟨#[]⟩,2⟩::(⟨6,⟨#[]⟩,0⟩::([⟨2,⟨#[]⟩,0⟩]++(⟨6,⟨#[]⟩,0⟩::(xs++[⟨1,⟨#[59]⟩,0⟩])))))))) e w':=by
 obtain⟨b,o,rfl,hb,u,v,w⟩:=hN 0 hi;have Aa:(0:Int)<(ds.length:Int):=by omega
 rw[he]at u v w;simp only[Nat.zero_mul,Nat.add_zero]at u v w;have E:Hid (q1f W ⟨7,xt,0⟩ (dcW W 7 xt 0)):=k0o W ⟨7,xt,0⟩;have HD:Hid (∀W':World,Below W W W'->Calls prog 79 #[.slice (some ⟨b,o,none⟩) ds.length cap,.int .i64 1] W' fun e w'=>NdR W' xs e w'):=hD;have g1:¬9223372036854775807<4+xt.size:=by omega
 have g2:¬9223372036854775807<4+xt.size+2:=by omega
 clear hN he hD;go_in;go_wp2_with fail;refine(HD.o _ E.o.b).mono ?_;rintro e w1 h1;obtain⟨v1,rfl,n1,b1⟩:=h1.val;have G:Hid (q1f W ⟨7,xt,0⟩ w1):=E.o.W b1;have L:Hid (NdV w1 v1 xs):=n1;clear h1 n1 b1 E;go_wp2_with fail;refine(q1q _ _).mono ?_;rintro e z h2;obtain⟨v2,rfl,n2,q⟩:=h2.val;have H:Hid (q1f W ⟨7,xt,0⟩ z):=G.o.W q;have M:Hid (NdV z v1 xs):=L.o.W q;have K:Hid (NdV z v2 [⟨1,⟨#[59]⟩,0⟩]):=n2;clear h2 n2 q G L;go_wp2_with fail;refine(q1a _ M.o K.o (by simp<;>omega)).mono ?_;rintro e A h3;obtain⟨v3,rfl,n3,b3⟩:=h3.val;have B:Hid (q1f W ⟨7,xt,0⟩ A):=H.o.W b3;have f:Hid (NdV A v3 (⟨6,⟨#[]⟩,0⟩::(xs++[⟨1,⟨#[59]⟩,0⟩]))):=n3;have i:Hid (Eig W xt A):=B.o.eig;have p:Hid (Eig W xt A.drew):=B.o.eig;have S:Hid (Below A A A.drew):= Zb.drew;clear h3 n3 b3 H M K HD u v w;go_wp2_with fail
 go_region_held3 (fun w'=>Eig W xt w') (first|with_reducible exact p.o|with_reducible exact i.o|with_reducible exact j.o|with_reducible exact k.o|with_reducible exact l.o|with_reducible exact m.o|with_reducible exact n.o)
  (first
     | (go_at_call 128;refine((q3g ⟨8,⟨#[]⟩,0⟩ (Q) V.o (by simp<;>omega))).mono ?_;rintro e w8 x;have Y:Hid (NdR W (⟨8,⟨#[]⟩,0⟩::(⟨6,⟨#[]⟩,0⟩::([⟨1,(⟨#[108,101,116,32]⟩:ByteArray)++xt++(⟨#[32,61]⟩:ByteArray),0⟩]++(⟨7,⟨#[]⟩,2⟩::(⟨6,⟨#[]⟩,0⟩::([⟨2,⟨#[]⟩,0⟩]++(⟨6,⟨#[]⟩,0⟩::(xs++[⟨1,⟨#[59]⟩,0⟩])))))))) e w8):=x.from D.o.b;obtain⟨v8,rfl,n8,b8⟩:=x.val;have X:Hid (q1f W ⟨7,xt,0⟩ w8):=D.o.W b8;have n:Hid (Eig W xt w8):=X.o.eig;clear x n8 b8)
     | (go_at_call 129;refine((q1a (P) d.o U.o (by simp<;>omega))).mono ?_;rintro e Q h7;obtain⟨v7,rfl,n7,b7⟩:=h7.val;have D:Hid (q1f W ⟨7,xt,0⟩ Q):=J.o.W b7;have m:Hid (Eig W xt Q):=D.o.eig;have V:Hid (NdV Q v7 (⟨6,⟨#[]⟩,0⟩::([⟨1,(⟨#[108,101,116,32]⟩:ByteArray)++xt++(⟨#[32,61]⟩:ByteArray),0⟩]++(⟨7,⟨#[]⟩,2⟩::(⟨6,⟨#[]⟩,0⟩::([⟨2,⟨#[]⟩,0⟩]++(⟨6,⟨#[]⟩,0⟩::(xs++[⟨1,⟨#[59]⟩,0⟩])))))))):=n7;clear h7 n7 b7)
     | (go_at_call 128;refine((q3g ⟨7,⟨#[]⟩,2⟩ (O) R.o (by simp<;>omega))).mono ?_;rintro e P h6;obtain⟨v6,rfl,n6,t⟩:=h6.val;have J:Hid (q1f W ⟨7,xt,0⟩ P):=I.o.W t;have l:Hid (Eig W xt P):=J.o.eig;have d:Hid (NdV P y ([⟨1,(⟨#[108,101,116,32]⟩:ByteArray)++xt++(⟨#[32,61]⟩:ByteArray),0⟩])):=c.o.W t;have U:Hid (NdV P v6 (⟨7,⟨#[]⟩,2⟩::(⟨6,⟨#[]⟩,0⟩::([⟨2,⟨#[]⟩,0⟩]++(⟨6,⟨#[]⟩,0⟩::(xs++[⟨1,⟨#[59]⟩,0⟩])))))):=n6;clear h6 n6 t)
     | (go_at_call 129;refine((q1a (N) C.o.bl g.o (by simp<;>omega))).mono ?_;rintro e O h5;obtain⟨v5,rfl,n5,s⟩:=h5.val;have I:Hid (q1f W ⟨7,xt,0⟩ O):=C.o.W s;have k:Hid (Eig W xt O):=I.o.eig;have c:Hid (NdV O y ([⟨1,(⟨#[108,101,116,32]⟩:ByteArray)++xt++(⟨#[32,61]⟩:ByteArray),0⟩])):=Z.o.W s;have R:Hid (NdV O v5 (⟨6,⟨#[]⟩,0⟩::([⟨2,⟨#[]⟩,0⟩]++(⟨6,⟨#[]⟩,0⟩::(xs++[⟨1,⟨#[59]⟩,0⟩]))))):=n5;clear h5 n5 s)
     | (go_at_call 125;refine((q1q _ (A.drew)).mono fun _ _ h=>h.from S.o).mono ?_;rintro e N h4;obtain⟨y,rfl,n4,r⟩:=h4.val;have C:Hid (q1f W ⟨7,xt,0⟩ N):=B.o.W r;have j:Hid (Eig W xt N):=C.o.eig;have g:Hid (NdV N v3 (⟨6,⟨#[]⟩,0⟩::(xs++[⟨1,⟨#[59]⟩,0⟩]))):=f.o.W r;have Z:Hid (NdV N y ([⟨1,(⟨#[108,101,116,32]⟩:ByteArray)++xt++(⟨#[32,61]⟩:ByteArray),0⟩])):=n4;clear h4 n4 r))
 all_goals
  go_wp2;go_ret;exact Y.o
theorem y4r{ds:List Td}{a:Option Addr}{cap:Nat}(hl:ds.length<=40)(hi:0<ds.length)(W:World)(hN:Tds W a ds)(he:ds[0]=⟨8,⟨#[]⟩,0⟩)(xs:List Nd)(Z:xs.length<=900)
  (hD:∀W':World,Below W W W'->Calls prog 79 #[.slice a ds.length cap,.int .i64 1] W' fun e w'=>NdR W' xs e w'):
  Calls prog 79 #[.slice a ds.length cap,.int .i64 0] W fun e w'=>NdR W (⟨6,⟨#[]⟩,0⟩::(xs++[⟨1,⟨#[59]⟩,0⟩])) e w':=by
 obtain⟨b,o,rfl,f,M,N,O⟩:=hN 0 hi;have Y:(0:Int)<(ds.length:Int):=by omega
 rw[he]at M N O;simp only[Nat.zero_mul,Nat.add_zero]at M N O;have A:Hid (q1f W ⟨8,⟨#[]⟩,0⟩ (dcW W 8 ⟨#[]⟩ 0)):=k0o W ⟨8,⟨#[]⟩,0⟩;have X:Hid (∀W':World,Below W W W'->Calls prog 79 #[.slice (some ⟨b,o,none⟩) ds.length cap,.int .i64 1] W' fun e w'=>NdR W' xs e w'):=hD;clear hN he hD;go_in;go_wp2_with fail;refine(X.o _ A.o.b).mono ?_;rintro e V P;obtain⟨U,rfl,R,L⟩:=P.val;have B:Hid (q1f W ⟨8,⟨#[]⟩,0⟩ V):=A.o.W L;have C:Hid (NdV V U xs):=R;clear P R L A;go_wp2_with fail;refine(q1q _ _).mono ?_;rintro e K Q;obtain⟨c,rfl,S,I⟩:=Q.val;have D:Hid (q1f W ⟨8,⟨#[]⟩,0⟩ K):=B.o.W I;have H:Hid (NdV K U xs):=C.o.W I;have G:Hid (NdV K c [⟨1,⟨#[59]⟩,0⟩]):=S;clear Q S I B C;go_wp2_with fail;refine(q1a _ H.o G.o (by simp<;>omega)).mono ?_;rintro e d J;have E:Hid (NdR W (⟨6,⟨#[]⟩,0⟩::(xs++[⟨1,⟨#[59]⟩,0⟩])) e d):=J.from D.o.b;obtain⟨g,rfl,_,_⟩:=J.val;clear J;go_wp2;go_ret;exact E.o
theorem y6j{t:List Td}{a:Option Addr}{cap:Nat}(h:q0c t=0)(h9:opT t≠9)(W:World)(hN:Tds W a t):Calls prog 79 #[.slice a t.length cap,.int .i64 0] W fun e w'=>NdR W (q0s t).N e w':=by
 obtain⟨K,V,_,_⟩:=q4b h;have R:v9w t:=⟨K,V⟩;obtain⟨x,y,k,rfl,H,L,Y,Z⟩:=z9j h h9;have B:0<(x::(Fo.cons y k .nil).N).length:=by simp
 have E:=k3n (a:=a) (cap:=cap) R (.cons y k .nil) H L;have Q:(x::(Fo.cons y k .nil).N).drop 1=(Fo.cons y k .nil).N++[]:=by simp
 have P:∀W':World,Below W W W'->Calls prog 79 #[.slice a (x::(Fo.cons y k .nil).N).length cap,.int .i64 1] W' fun e w'=>NdR W' (q0m y k.D).N e w':=fun W' hb=>E.1 1 [] Q W' (hN.W hb)
 have G:(q0m y k.D).N.length<=900:=by
  have O:=z2y R Q;rw[Fo.D,q2l]at O;simp only at O;omega
 have S:q0s (x::(Fo.cons y k .nil).N)=stD x (q0m y k.D):=z9h H Y;rw[S];rcases Z with⟨C,M,A⟩|⟨C,I,A⟩
 ·have X:x.tx.size<=8:=by rw[<-q0b];exact q5p M
  have J:=y0w (cap:=cap) K B X W hN (by obtain⟨f,g,d⟩:=x;simp only at C A;subst C A;rfl) _ G P
  have U:(⟨#[108,101,116,32]⟩:ByteArray)++x.tx++(⟨#[32,61]⟩:ByteArray)=wbS ([108,101,116,32]++btL x.tx++[32,61]):=by
   have b:wbS [108,101,116,32]++wbS (btL x.tx)=wbS ([108,101,116,32]++btL x.tx):=q1y _ _;have c:wbS ([108,101,116,32]++btL x.tx)++wbS [32,61]=wbS ([108,101,116,32]++btL x.tx++[32,61]):=q1y _ _;rw[<-c,<-b];rfl
  rw[U]at J;rw[stD,if_pos C];exact J
 ·have J:=y4r (cap:=cap) K B W hN (by obtain⟨f,g,d⟩:=x;simp only at C A I;subst C A I;rfl) _ G P;rw[stD,if_neg (by omega)];exact J
theorem k2i(wd:Int)(w:World):Calls prog 10 #[.int .i64 wd] w fun e w'=>e=.returned (.bool (decide (¬(wd<10\/100<wd))))/\w=w':=by
 by_cases B:wd<10
 ·rw[show decide (¬(wd<10\/100<wd))=false by simp;omega];have A:¬10<=wd:=by omega
  go_in;go_wp2;go_ret;exact⟨rfl,rfl⟩
 ·have A:10<=wd:=by omega
  by_cases C:wd<=100
  ·rw[show decide (¬(wd<10\/100<wd))=true by simp;omega];go_in;go_wp2;go_ret;exact⟨rfl,rfl⟩
  ·rw[show decide (¬(wd<10\/100<wd))=false by simp;omega];go_in;go_wp2;go_ret;exact⟨rfl,rfl⟩
def fwW(t:List Td):Prop:=opT t=9\/(q0s t).ways.length<=300
inductive j1u (t:List Td) (wd:Nat):Ending->Prop where
 | ok (h:pgE t=0) (hf:fwW t):j1u t wd (.returned (.tuple #[.string (wbS (z4l wd t)),.int .i64 0,.bool true]))
 | full (h:pgE t≠0):j1u t wd (.returned (.tuple #[.string ⟨#[]⟩,.int .i64 (pgE t),.bool true]))
 | many (s:ByteArray) (hm:¬fwW t):j1u t wd (.returned (.tuple #[.string s,.int .i64 0,.bool false]))
theorem y2h(A:List UInt8)(l:ByteArray):wbS A++(⟨#[35,32]⟩:ByteArray)++l++(⟨#[10]⟩:ByteArray)=wbS (A++ntF l):=by
 have B:wbS A++wbS [35,32]=wbS (A++[35,32]):=q1y _ _;have C:wbS (A++[35,32])++wbS (btL l)=wbS (A++[35,32]++btL l):=q1y _ _;have D:wbS (A++[35,32]++btL l)++wbS [10]=wbS (A++[35,32]++btL l++[10]):=q1y _ _;have E:A++ntF l=A++[35,32]++btL l++[10]:=by simp[ntF]
 rw[E,<-D,<-C,<-B,z1b];rfl
theorem v3r{ls:List ByteArray}{i:Nat}(h:i<ls.length):(ls.take (i+1)).flatMap ntF=(ls.take i).flatMap ntF++ntF ls[i]:=by
 rw[List.take_succ_eq_append_getElem h,List.flatMap_append];simp
theorem j0b{t:List Td}(h:q0c t=0)(h9:opT t=9)(wd:Nat)(Af:10<=wd)(Ag:wd<=100)(a:Option Addr)(cap:Nat)(w:World)(hN:Tds w a t):
  Calls prog 40 #[.slice a t.length cap,.int .i64 (wd:Int)] w fun e w'=>e=.returned (.tuple #[.string (wbS (z4l wd t)),.int .i64 0,.bool true])/\Below w w w':=by
 obtain⟨Aa,b,o,rfl,hb,c1,c2⟩:=z4o h hN;have Ad:(0:Int)<(t.length:Int):=by omega
 have O:=k4r h h9;have j:=z8u O;rw[z4m h h9];rw[h9]at c1;have Ae:(txT t).size<=2000:=by rw[<-q0b];exact(z8v O).2.1
 have G:Hid (Calls prog 34 #[.string (txT t)] w fun e w'=>(∃A c,e=.returned (.slice A (q0f (btL (txT t))).length c)/\q1x w (.slice A (q0f (btL (txT t))).length c) ((q0f (btL (txT t))).map wbS) w')/\Below w w w'):=q4e (txT t) w (by omega);have D:Hid (ntL wd (txT t)=if q0f (btL (txT t))=[]then [35,10]else(q1t (wd-2) ((q0f (btL (txT t))).map wbS)).flatMap ntF):=rfl;generalize ntL wd (txT t)=L at D⊢
 have C:Hid (∀(A:Option Addr)(c:Nat)(W:World),q1x w (.slice A (q0f (btL (txT t))).length c) ((q0f (btL (txT t))).map wbS) W->Calls prog 78 #[.slice A (q0f (btL (txT t))).length c,.int .i64 ((wd:Int)-2)] W fun e w'=>(∃L c,e=.returned (.slice L (q1t (wd-2) ((q0f (btL (txT t))).map wbS)).length c)/\Wds w' L (q1t (wd-2) ((q0f (btL (txT t))).map wbS)))/\Below W W w'):=fun A c W hS=>by
  obtain⟨q1,q2,_⟩:=z4u hS;have e:((wd:Int)-2)=((wd-2:Nat):Int):=by omega
  rw[e];have h3:=k9f ((q0f (btL (txT t))).map wbS) A c (wd-2) W (by omega) j (by omega) (q3p hS);rw[List.length_map]at h3;refine h3.mono ?_;rintro e w'⟨⟨L,c,rfl,hL⟩,hb⟩;exact⟨⟨L,c,rfl,q3p hL⟩,hb⟩
 have Q:q0f (btL (txT t))=[]->(q1t (wd-2) ((q0f (btL (txT t))).map wbS))=[]:=fun e=>by rw[e];exact q4g _
 have R:q0f (btL (txT t))≠[]->(q1t (wd-2) ((q0f (btL (txT t))).map wbS))≠[]:=fun e=>by
  rw[q3v _ (by simpa using e)];simp
 have P:=z8f (wd-2) _ _ Zl j;have N:=q7q (wd-2) _ ((q0f (btL (txT t))).map wbS) Zl;have p:=j.1;generalize q1t (wd-2) ((q0f (btL (txT t))).map wbS)=ls at D C Q R P N;have v:ls.length<=60:=by omega
 have I:Hid (ls=[]->L=[35,10]):=fun e=>by
  have:q0f (btL (txT t))=[]:=by
   rcases Classical.em (q0f (btL (txT t))=[])with h|h
   ·exact h
   ·exact absurd e (R h)
  rw[D.o,if_pos this]
 have J:Hid (ls≠[]->L=ls.flatMap ntF):=fun e=>by
  have:q0f (btL (txT t))≠[]:=fun h=>e (Q h)
  rw[D.o,if_neg this]
 generalize(q0f (btL (txT t))).length=nw at G C
 generalize(q0f (btL (txT t))).map wbS=ws at G C p j N
 generalize txT t=tx at *;have g:Hid (∀l∈ls,l.size<=1260):=P;clear h h9 hN O j Q R P N D;go_in;go_wp2_with fail;refine G.o.mono ?_;rintro e q⟨⟨A1,k1,rfl,k⟩,b1⟩;have Z:Hid (Calls prog 78 #[.slice A1 nw k1,.int .i64 ((wd:Int)-2)] q fun e w'=>(∃L c,e=.returned (.slice L ls.length c)/\Wds w' L ls)/\Below q q w'):=C.o A1 k1 q k;have V:Hid (Below w w q):=b1;clear k b1 G C c1 c2;go_wp2_with fail;refine Z.o.mono ?_;rintro e w2⟨⟨A2,k2,rfl,m⟩,b2⟩;have Y:Hid (Below w w w2):=q0e V.o Zl b2;have r:Hid (Wds w2 A2 ls):=m;clear m b2 Z V;generalize hn:ls.length=n at v⊢;have K:Hid (ls.length=n):=hn;clear hn;go_wp2_with fail
 go_loopw [8,9] (fun s x wr=>w2=wr/\∃i:Nat,i<=n/\x=.int .i64 (i:Int)/\s=.string (wbS ((ls.take i).flatMap ntF))) (fun _ x _=>n-(intOf x).toNat)
 case atStart=>exact⟨rfl,0,Nat.zero_le _,rfl,rfl⟩
 case round=>
  obtain⟨rfl,i,hi,rfl,rfl⟩:=hrel;have H:=K.o;by_cases y:i<n
  ·have u:(i:Int)<(n:Int):=by omega
   obtain⟨b0,o0,rfl,Ab,d0⟩:=r.o i (by omega);have z:ls[i].size<=1260:=g.o _ (List.getElem_mem _)
   have h1:=k3r (f:=ntF) (b:=1300) (ls.take i) fun l hl=>by
    have:=g.o l (List.mem_of_mem_take hl)
    simp only[ntF,List.length_cons,List.length_append,List.length_nil,q0b];omega
   have h2:(ls.take i).length*1300<=60*1300:=Nat.mul_le_mul_right _ (by rw[List.length_take];omega);have d:=(show Hid (_=_)from v3r (ls:=ls) (i:=i) (by omega));have U:Hid (∀l:ByteArray,wbS ((ls.take i).flatMap ntF)++(⟨#[35,32]⟩:ByteArray)++l++(⟨#[10]⟩:ByteArray)=wbS ((ls.take i).flatMap ntF++ntF l)):=fun l=>y2h _ l
   have hq:(wbS ((ls.take i).flatMap ntF)).size<=100000:=by rw[z1c];omega
   generalize ls[i]=l at d0 z d;generalize wbS ((ls.take i).flatMap ntF)=S at U hq⊢;have g1:¬9223372036854775807<S.size+2:=by omega
   have g2:¬9223372036854775807<S.size+2+l.size:=by omega
   have g3:¬9223372036854775807<S.size+2+l.size+1:=by omega
   clear h1 h2 H;go_wp2;refine⟨⟨trivial,i+1,y,by go_num,?_⟩,?_⟩
   ·rw[d.o,<-U.o l]
   ·simp[intOf];omega
  ·have u:¬(i:Int)<(n:Int):=by omega
   have M:ls.take i=ls:=List.take_of_length_le (by omega);rw[M];by_cases h0:n=0
   ·have B:ls=[]:=List.eq_nil_of_length_eq_zero (by omega);have E:=(show Hid (_=_)from I.o B);subst h0;clear H M I J K B;generalize ls.flatMap ntF=X;go_wp2;go_ret3;exact⟨by rw[E.o];rfl,Y.o⟩
   ·have B:ls≠[]:=fun e=>h0 (by rw[<-H,e];rfl)
    have E:Hid (wbS L=wbS (ls.flatMap ntF)):=(show _=_ by rw[J.o B]);have Ac:((n:Int)==0)=false:=by simp;omega
    clear H M I J K B;generalize wbS (ls.flatMap ntF)=X at E⊢;go_wp2;go_ret3;exact⟨by rw[E.o];rfl,Y.o⟩
theorem y4q{t:List Td}{wd:Nat}{u:List Int}(h:(q0s t).best wd=some ((q0s t).cst wd u,u))(hl:q8z t=0):∃s,shS ((q0s t).show u)=wbS s/\dcL wd t=s++[10]/\s.length<=2000000:=by
 have B:(q0s t).best wd=some (bs wd 0 [(0,q0s t)]):=by rw[q9t,q3l]
 obtain⟨_,A,_⟩:=q6b B;rw[B]at h
 have e:(bs wd 0 [(0,q0s t)]).2=u:=by
  have:=congrArg Prod.snd (Option.some.inj h)
  exact this
 rw[e]at A;refine⟨(q0s t).txt u,?_,?_,j5f hl A⟩
 ·rw[A];rfl
 ·rw[dcL,e]
theorem j8m{t:List Td}(h:q0c t=0)(h9:opT t≠9)(wd:Nat)(a:Option Addr)(cap:Nat)(w:World)(hN:Tds w a t):
  Calls prog 40 #[.slice a t.length cap,.int .i64 (wd:Int)] w fun e w'=>j1u t wd e/\Below w w w':=by
 obtain⟨z,b,o,rfl,hb,k,v⟩:=z4o h hN;have Aa:(0:Int)<(t.length:Int):=by omega
 have L:(opT t==9)=false:=by simp[h9]
 have H:Hid (Calls prog 79 #[.slice (some ⟨b,o,none⟩) t.length cap,.int .i64 0] w fun e w'=>NdR w (q0s t).N e w'):=y6j h h9 w hN;have U:=(z5z h h9).n;by_cases Q:400<(q0s t).N.length
 ·have m:pgE t=3:=by rw[pgE,if_neg h9,if_pos Q]
  have Y:Hid (j1u t wd (.returned (.tuple #[.string ⟨#[]⟩,.int .i64 3,.bool true]))):=by
   have:=j1u.full (t:=t) (wd:=wd) (by rw[m];decide)
   rw[m]at this;exact this
  generalize(q0s t).N=xs at H Q U
  generalize opT t=op0 at k L;have R:(400:Int)<(xs.length:Int):=by omega
  clear h h9 hN v m;go_in;go_wp2_with fail;refine H.o.mono ?_;rintro e X⟨i,r,rfl,_,Z⟩;go_wp2;go_ret3;exact⟨Y.o,Z⟩
 ·have l:pgE t=0:=by rw[pgE,if_neg h9,if_neg Q]
  have P:q8z t=0:=by rw[<-k4z h h9];exact l
  have D:Hid (∀(A:Option Addr)(c:Nat)(W:World),q1u W A (q0s t).N->Calls prog 80 #[.slice A (q0s t).N.length c,.int .i64 (wd:Int)] W fun e w'=>BOR (q0s t) wd W e w'):=fun A c W f=>k8p (q0s t) (z5z h h9).w (q0s t).N rfl (by omega) wd A c W f
  have I:Hid (∀u,(q0s t).best wd=some ((q0s t).cst wd u,u)->∃s,shS ((q0s t).show u)=wbS s/\dcL wd t=s++[10]/\s.length<=2000000):=fun u hu=>y4q hu P
  have Y:Hid (∀s,(q0s t).ways.length<=300->dcL wd t=s++[10]->j1u t wd (.returned (.tuple #[.string (wbS s++(⟨#[10]⟩:ByteArray)),.int .i64 0,.bool true]))):=fun s hfw hs=>by
   have f:=j1u.ok (t:=t) (wd:=wd) l (.inr hfw);rw[z8y h h9,hs,<-q1y]at f;exact f
  have j:Hid (∀s,300<(q0s t).ways.length->j1u t wd (.returned (.tuple #[.string s,.int .i64 0,.bool false]))):=fun s hfw=>.many s fun q=>q.elim h9 fun q=>by omega
  generalize(q0s t).N=xs at H Q U D
  generalize opT t=op0 at k L;have R:¬(400:Int)<(xs.length:Int):=by omega
  clear h h9 hN v l P;go_in;go_wp2_with fail;refine H.o.mono ?_;rintro e X⟨i,r,rfl,M,Z⟩;have E:Hid (Below w w X):=Z;have G:Hid (Calls prog 80 #[.slice i xs.length r,.int .i64 (wd:Int)] X fun e w'=>BOR (q0s t) wd X e w'):=D.o i r X M.nods;clear M Z D H k;generalize xs.length=nx at G Q R⊢;go_wp2_with fail;refine G.o.mono ?_;rintro e g⟨⟨B,u,wa,wc,O,rfl,_⟩|⟨B,rfl⟩,d⟩
  ·obtain⟨s,x,y,V⟩:=I.o u O;rw[x];have J:=hid (Y.o s B y);have C:Hid (Below w w g):=q0e E.o Zl d;have p:(wbS s).size<=2000000:=by rw[z1c];exact V
   clear x y V d O I Y B;generalize wbS s=S at J p
   generalize((q0s t).cst wd u).1=q1
   generalize((q0s t).cst wd u).2=q2
   generalize u.length=ul;have g1:¬9223372036854775807<S.size+1:=by omega
   go_wp2;go_ret3;exact⟨J.o,q0e C.o Zl (q4c g _)⟩
  ·have C:Hid (Below w w g):=q0e E.o Zl d;have K:=hid (fun s=>j.o s B);clear d B;go_wp2;go_ret3;exact⟨K.o _,q0e C.o Zl (q4c g _)⟩
theorem j0g{t:List Td}(h:q0c t=0)(wd:Nat)(B:10<=wd)(C:wd<=100)(a:Option Addr)(cap:Nat)(w:World)(hN:Tds w a t):
  Calls prog 40 #[.slice a t.length cap,.int .i64 (wd:Int)] w fun e w'=>j1u t wd e/\Below w w w':=by
 by_cases A:opT t=9
 ·refine(j0b h A wd B C a cap w hN).mono ?_;rintro e w'⟨rfl,D⟩;exact⟨.ok (z9b A) (.inl A),D⟩
 ·exact j8m h A wd a cap w hN
end Go.Proofs.YthcpdohdppkmkaaGreatDoor
