/- Texts as one: LayV, LyS, But. -/
import Derived.Test.YthjapabokcajhaaGreatDoorPf35
import Derived.Test.YthjapabokcajhaaGreatDoorPf02
import Derived.Test.YthjapabokcajhaaGreatDoorPf32
import Derived.Test.YthjapabokcajhaaGreatDoorPf05
import Derived.Lib.AppendZerosOnto
import Derived.Lib.SliceRun
namespace Go.Proofs.YthjapabokcajhaaGreatDoor
open Go Go.RowKit
set_option maxRecDepth 100000
set_option maxHeartbeats 8000000
theorem z6f{ds:List Td}{a:Option Addr}{cap:Nat}(hs:j4i ds):∀F:Fo,F.ok->F.exs->DcA ds a cap F
 | .nil,_,_=>trivial
 | .cons x k n,hok,hex=>by
  have hexk:k.exs:=fun y hy=>hex y (by simp[Fo.nodes,hy])
  have ihk:=z6f (a:=a) (cap:=cap) hs k hok.2.1 hexk;have ihn:=z6f (a:=a) (cap:=cap) hs n hok.2.2 fun y hy=>hex y (by simp[Fo.nodes,hy])
  have hx:=hex x (by simp[Fo.nodes]);refine⟨?_,ihn⟩
  have kids:∀(i:Nat)(r:List Td),ds.drop i=(Fo.cons x k n).nodes++r->∀W:World,Tds W a ds->∃hp:i<ds.length,ds[i]=x/\(kdD k.dcs).nodes.length<=900/\(k.len≠0->∀W':World,Below W.heap.size W W'->Calls Tryz.prog 62 #[.slice a ds.length cap,.int .i64 ((i:Int)+1),.int .i64 (k.len:Int)] W' fun e w'=>NdR W' (kdD k.dcs).nodes e w'):=fun i r hi W hN=>by
   obtain⟨hp,e1,e2,_,_⟩:=k0j hi hok;refine⟨hp,e1,?_,fun h0 W' hb=>?_⟩
   ·have h1:=q8p hs e2;have h2:=k0r k.dcs;omega
   ·have h:=q9m (cap:=cap) hs k (i+1) _ e2 hok.2.1 ihk h0 W' (hN.below hb);rw[show((i+1:Nat):Int)=(i:Int)+1 by omega]at h;exact h
  rcases q1n hx with⟨ho,_⟩|⟨ho,_⟩|⟨ho,hnm,h0,h6,hkd⟩|⟨ho,htx,h0,h6,hkd⟩|⟨ho,_⟩|⟨ho,_⟩
  ·exact z8a hs hok hx (.inl ho)
  ·exact z8a hs hok hx (.inr ho)
  ·intro i r hi W hN;obtain⟨hp,e1,hkl,hK⟩:=kids i r hi W hN;have hlen:k.len=x.n.toNat:=hok.1.trans hkd
   have e3:x=⟨3,x.tx,((k.len:Nat):Int)⟩:=by
    obtain⟨xo,xt,xn⟩:=x;simp only at ho h0 hlen⊢;rw[ho,hlen,Int.toNat_of_nonneg h0]
   have h8:x.tx.size<=8:=by rw[<-q0h];exact q1v hnm
   have h:=k3h (cap:=cap) hs.l hp (N:=k.len) (xt:=x.tx) (by omega) h8 W hN (by rw[e1];exact e3) (kdD k.dcs).nodes hkl hK
   have e4:(q0d x k.dcs).nodes=if k.len=0 then [⟨1,(x.tx++(⟨#[40]⟩:ByteArray))++(⟨#[41]⟩:ByteArray),0⟩]else⟨8,⟨#[]⟩,0⟩::(⟨6,⟨#[]⟩,0⟩::([⟨1,x.tx++(⟨#[40]⟩:ByteArray),0⟩]++(⟨6,⟨#[]⟩,0⟩::((⟨7,⟨#[]⟩,2⟩::(⟨6,⟨#[]⟩,0⟩::([⟨3,⟨#[]⟩,0⟩]++(kdD k.dcs).nodes)))++(⟨6,⟨#[]⟩,0⟩::([⟨3,⟨#[]⟩,0⟩]++[⟨1,(⟨#[41]⟩:ByteArray),0⟩])))))):=by
    rw[show q0d x k.dcs=q1d (btL x.tx++[40]) [41] k.dcs by simp[q0d,ho],j7z x.tx 40];by_cases hz:k.len=0
    ·have:k.dcs=[]:=List.eq_nil_of_length_eq_zero (by rw[q2m];exact hz)
     rw[if_pos hz,this,z4t];have e5:wbS (btL x.tx++[40])++(⟨#[41]⟩:ByteArray)=wbS (btL x.tx++[40]++[41]):=q1q _ _;rw[e5]
    ·rw[if_neg hz,z4s (by rw[q2m];exact hz)];rfl
   show Calls _ _ _ _ _;rw[e4];exact h
  ·intro i r hi W hN;obtain⟨hp,e1,hkl,hK⟩:=kids i r hi W hN;have hlen:k.len=x.n.toNat:=hok.1.trans hkd
   have e3:x=⟨4,⟨#[]⟩,((k.len:Nat):Int)⟩:=by
    obtain⟨xo,xt,xn⟩:=x;simp only at ho h0 hlen htx⊢;rw[ho,htx,hlen,Int.toNat_of_nonneg h0]
   have h:=k3i (cap:=cap) hs.l hp (N:=k.len) (xt:=⟨#[]⟩) (by omega) (by decide) W hN (by rw[e1];exact e3) (kdD k.dcs).nodes hkl hK
   have e4:(q0d x k.dcs).nodes=if k.len=0 then [⟨1,(⟨#[91]⟩:ByteArray)++(⟨#[93]⟩:ByteArray),0⟩]else⟨8,⟨#[]⟩,0⟩::(⟨6,⟨#[]⟩,0⟩::([⟨1,(⟨#[91]⟩:ByteArray),0⟩]++(⟨6,⟨#[]⟩,0⟩::((⟨7,⟨#[]⟩,2⟩::(⟨6,⟨#[]⟩,0⟩::([⟨3,⟨#[]⟩,0⟩]++(kdD k.dcs).nodes)))++(⟨6,⟨#[]⟩,0⟩::([⟨3,⟨#[]⟩,0⟩]++[⟨1,(⟨#[93]⟩:ByteArray),0⟩])))))):=by
    rw[show q0d x k.dcs=q1d [91] [93] k.dcs by simp[q0d,ho]];by_cases hz:k.len=0
    ·have:k.dcs=[]:=List.eq_nil_of_length_eq_zero (by rw[q2m];exact hz)
     rw[if_pos hz,this,z4t];rfl
    ·rw[if_neg hz,z4s (by rw[q2m];exact hz)];rfl
   show Calls _ _ _ _ _;rw[e4];exact h
  ·exact k3j hs hok hex (.inl ho) ihk
  ·exact k3j hs hok hex (.inr ho) ihk
abbrev Eig(W:World)(xt:ByteArray)(w:World):Prop:=Six W w/\w.cell? ⟨W.heap.size,1,none⟩=some (.string xt)
theorem q0n.eig{W:World}{o n:Int}{t:ByteArray}{w:World}(h:q0n W ⟨o,t,n⟩ w):Eig W t w:=⟨h.six,h.n.2.2.1⟩
theorem j5n{ds:List Td}{a:Option Addr}{cap:Nat}{xt:ByteArray}(hl:ds.length<=40)(hi:0<ds.length)(hx8:xt.size<=8)(W:World)(hN:Tds W a ds)(he:ds[0]=⟨7,xt,0⟩)(xs:List Nd)(hkl:xs.length<=900)
  (hD:∀W':World,Below W.heap.size W W'->Calls Tryz.prog 26 #[.slice a ds.length cap,.int .i64 1] W' fun e w'=>NdR W' xs e w'):
  Calls Tryz.prog 26 #[.slice a ds.length cap,.int .i64 0] W fun e w'=>NdR W (⟨8,⟨#[]⟩,0⟩::(⟨6,⟨#[]⟩,0⟩::([⟨1,(⟨#[108,101,116,32]⟩:ByteArray)++xt++(⟨#[32,61]⟩:ByteArray),0⟩]++(⟨7,⟨#[]⟩,2⟩::(⟨6,⟨#[]⟩,0⟩::([⟨2,⟨#[]⟩,0⟩]++(⟨6,⟨#[]⟩,0⟩::(xs++[⟨1,⟨#[59]⟩,0⟩])))))))) e w':=by
 obtain⟨b,o,rfl,hb,c1,c2,c3⟩:=hN 0 hi;have hii:(0:Int)<(ds.length:Int):=by omega
 rw[he]at c1 c2 c3;simp only[Nat.zero_mul,Nat.add_zero]at c1 c2 c3;have HPR:Hid (q0n W ⟨7,xt,0⟩ (dcW W 7 xt 0)):=z0r W ⟨7,xt,0⟩;have HD:Hid (∀W':World,Below W.heap.size W W'->Calls Tryz.prog 26 #[.slice (some ⟨b,o,none⟩) ds.length cap,.int .i64 1] W' fun e w'=>NdR W' xs e w'):=hD;have g1:¬9223372036854775807<4+xt.size:=by omega
 have g2:¬9223372036854775807<4+xt.size+2:=by omega
 clear hN he hD;go_in;go_wp2_with fail;refine(HD.out _ HPR.out.b).mono ?_;rintro e w1 h1;obtain⟨v1,rfl,n1,b1⟩:=h1.val;have HP1:Hid (q0n W ⟨7,xt,0⟩ w1):=HPR.out.below b1;have HV1:Hid (NdV w1 v1 xs):=n1;clear h1 n1 b1 HPR;go_wp2_with fail;refine(q0q _ _).mono ?_;rintro e w2 h2;obtain⟨v2,rfl,n2,b2⟩:=h2.val;have HP2:Hid (q0n W ⟨7,xt,0⟩ w2):=HP1.out.below b2;have HV2:Hid (NdV w2 v1 xs):=HV1.out.below b2;have HS2:Hid (NdV w2 v2 [⟨1,⟨#[59]⟩,0⟩]):=n2;clear h2 n2 b2 HP1 HV1;go_wp2_with fail;refine(q0m _ HV2.out HS2.out (by simp<;>omega)).mono ?_;rintro e w3 h3;obtain⟨v3,rfl,n3,b3⟩:=h3.val;have HP3:Hid (q0n W ⟨7,xt,0⟩ w3):=HP2.out.below b3;have HX3:Hid (NdV w3 v3 (⟨6,⟨#[]⟩,0⟩::(xs++[⟨1,⟨#[59]⟩,0⟩]))):=n3;have SK3:Hid (Eig W xt w3):=HP3.out.eig;have SKD:Hid (Eig W xt w3.drew):=HP3.out.eig;have HD0:Hid (Below w3.heap.size w3 w3.drew):=(Below.refl _ _).drew;clear h3 n3 b3 HP2 HV2 HS2 HD c1 c2 c3;go_wp2_with fail
 go_region_held3 (fun w'=>Eig W xt w') (first|with_reducible exact SKD.out|with_reducible exact SK3.out|with_reducible exact SK4.out|with_reducible exact SK5.out|with_reducible exact SK6.out|with_reducible exact SK7.out|with_reducible exact SK8.out)
  (first
     | (go_at_call 60;refine((q1k ⟨8,⟨#[]⟩,0⟩ (w7) HE7.out (by simp<;>omega))).mono ?_;rintro e w8 h8;have HR9:Hid (NdR W (⟨8,⟨#[]⟩,0⟩::(⟨6,⟨#[]⟩,0⟩::([⟨1,(⟨#[108,101,116,32]⟩:ByteArray)++xt++(⟨#[32,61]⟩:ByteArray),0⟩]++(⟨7,⟨#[]⟩,2⟩::(⟨6,⟨#[]⟩,0⟩::([⟨2,⟨#[]⟩,0⟩]++(⟨6,⟨#[]⟩,0⟩::(xs++[⟨1,⟨#[59]⟩,0⟩])))))))) e w8):=h8.from HP7.out.b;obtain⟨v8,rfl,n8,b8⟩:=h8.val;have HP8:Hid (q0n W ⟨7,xt,0⟩ w8):=HP7.out.below b8;have SK8:Hid (Eig W xt w8):=HP8.out.eig;clear h8 n8 b8)
     | (go_at_call 61;refine((q0m (w6) HS6.out HD6.out (by simp<;>omega))).mono ?_;rintro e w7 h7;obtain⟨v7,rfl,n7,b7⟩:=h7.val;have HP7:Hid (q0n W ⟨7,xt,0⟩ w7):=HP6.out.below b7;have SK7:Hid (Eig W xt w7):=HP7.out.eig;have HE7:Hid (NdV w7 v7 (⟨6,⟨#[]⟩,0⟩::([⟨1,(⟨#[108,101,116,32]⟩:ByteArray)++xt++(⟨#[32,61]⟩:ByteArray),0⟩]++(⟨7,⟨#[]⟩,2⟩::(⟨6,⟨#[]⟩,0⟩::([⟨2,⟨#[]⟩,0⟩]++(⟨6,⟨#[]⟩,0⟩::(xs++[⟨1,⟨#[59]⟩,0⟩])))))))):=n7;clear h7 n7 b7)
     | (go_at_call 60;refine((q1k ⟨7,⟨#[]⟩,2⟩ (w5) HC5.out (by simp<;>omega))).mono ?_;rintro e w6 h6;obtain⟨v6,rfl,n6,b6⟩:=h6.val;have HP6:Hid (q0n W ⟨7,xt,0⟩ w6):=HP5.out.below b6;have SK6:Hid (Eig W xt w6):=HP6.out.eig;have HS6:Hid (NdV w6 v4 ([⟨1,(⟨#[108,101,116,32]⟩:ByteArray)++xt++(⟨#[32,61]⟩:ByteArray),0⟩])):=HS5.out.below b6;have HD6:Hid (NdV w6 v6 (⟨7,⟨#[]⟩,2⟩::(⟨6,⟨#[]⟩,0⟩::([⟨2,⟨#[]⟩,0⟩]++(⟨6,⟨#[]⟩,0⟩::(xs++[⟨1,⟨#[59]⟩,0⟩])))))):=n6;clear h6 n6 b6)
     | (go_at_call 61;refine((q0m (w4) HP4.out.bl HX4.out (by simp<;>omega))).mono ?_;rintro e w5 h5;obtain⟨v5,rfl,n5,b5⟩:=h5.val;have HP5:Hid (q0n W ⟨7,xt,0⟩ w5):=HP4.out.below b5;have SK5:Hid (Eig W xt w5):=HP5.out.eig;have HS5:Hid (NdV w5 v4 ([⟨1,(⟨#[108,101,116,32]⟩:ByteArray)++xt++(⟨#[32,61]⟩:ByteArray),0⟩])):=HS4.out.below b5;have HC5:Hid (NdV w5 v5 (⟨6,⟨#[]⟩,0⟩::([⟨2,⟨#[]⟩,0⟩]++(⟨6,⟨#[]⟩,0⟩::(xs++[⟨1,⟨#[59]⟩,0⟩]))))):=n5;clear h5 n5 b5)
     | (go_at_call 57;refine((q0q _ (w3.drew)).mono fun _ _ h=>h.from HD0.out).mono ?_;rintro e w4 h4;obtain⟨v4,rfl,n4,b4⟩:=h4.val;have HP4:Hid (q0n W ⟨7,xt,0⟩ w4):=HP3.out.below b4;have SK4:Hid (Eig W xt w4):=HP4.out.eig;have HX4:Hid (NdV w4 v3 (⟨6,⟨#[]⟩,0⟩::(xs++[⟨1,⟨#[59]⟩,0⟩]))):=HX3.out.below b4;have HS4:Hid (NdV w4 v4 ([⟨1,(⟨#[108,101,116,32]⟩:ByteArray)++xt++(⟨#[32,61]⟩:ByteArray),0⟩])):=n4;clear h4 n4 b4))
 all_goals
  go_wp2;go_ret;exact HR9.out
theorem j8o{ds:List Td}{a:Option Addr}{cap:Nat}(hl:ds.length<=40)(hi:0<ds.length)(W:World)(hN:Tds W a ds)(he:ds[0]=⟨8,⟨#[]⟩,0⟩)(xs:List Nd)(hkl:xs.length<=900)
  (hD:∀W':World,Below W.heap.size W W'->Calls Tryz.prog 26 #[.slice a ds.length cap,.int .i64 1] W' fun e w'=>NdR W' xs e w'):
  Calls Tryz.prog 26 #[.slice a ds.length cap,.int .i64 0] W fun e w'=>NdR W (⟨6,⟨#[]⟩,0⟩::(xs++[⟨1,⟨#[59]⟩,0⟩])) e w':=by
 obtain⟨b,o,rfl,hb,c1,c2,c3⟩:=hN 0 hi;have hii:(0:Int)<(ds.length:Int):=by omega
 rw[he]at c1 c2 c3;simp only[Nat.zero_mul,Nat.add_zero]at c1 c2 c3;have HPR:Hid (q0n W ⟨8,⟨#[]⟩,0⟩ (dcW W 8 ⟨#[]⟩ 0)):=z0r W ⟨8,⟨#[]⟩,0⟩;have HD:Hid (∀W':World,Below W.heap.size W W'->Calls Tryz.prog 26 #[.slice (some ⟨b,o,none⟩) ds.length cap,.int .i64 1] W' fun e w'=>NdR W' xs e w'):=hD;clear hN he hD;go_in;go_wp2_with fail;refine(HD.out _ HPR.out.b).mono ?_;rintro e w1 h1;obtain⟨v1,rfl,n1,b1⟩:=h1.val;have HP1:Hid (q0n W ⟨8,⟨#[]⟩,0⟩ w1):=HPR.out.below b1;have HV1:Hid (NdV w1 v1 xs):=n1;clear h1 n1 b1 HPR;go_wp2_with fail;refine(q0q _ _).mono ?_;rintro e w2 h2;obtain⟨v2,rfl,n2,b2⟩:=h2.val;have HP2:Hid (q0n W ⟨8,⟨#[]⟩,0⟩ w2):=HP1.out.below b2;have HV2:Hid (NdV w2 v1 xs):=HV1.out.below b2;have HS2:Hid (NdV w2 v2 [⟨1,⟨#[59]⟩,0⟩]):=n2;clear h2 n2 b2 HP1 HV1;go_wp2_with fail;refine(q0m _ HV2.out HS2.out (by simp<;>omega)).mono ?_;rintro e w3 h3;have HR9:Hid (NdR W (⟨6,⟨#[]⟩,0⟩::(xs++[⟨1,⟨#[59]⟩,0⟩])) e w3):=h3.from HP2.out.b;obtain⟨v3,rfl,_,_⟩:=h3.val;clear h3;go_wp2;go_ret;exact HR9.out
theorem v0h{t:List Td}{a:Option Addr}{cap:Nat}(h:q0b t=0)(h9:opT t≠9)(W:World)(hN:Tds W a t):Calls Tryz.prog 26 #[.slice a t.length cap,.int .i64 0] W fun e w'=>NdR W (q0i t).nodes e w':=by
 obtain⟨h1,h2,_,_⟩:=q1z h;have hs:j4i t:=⟨h1,h2⟩;obtain⟨x,y,k,rfl,hok,hex,hk,hx⟩:=q4j h h9;have hpos:0<(x::(Fo.cons y k .nil).nodes).length:=by simp
 have hall:=z6f (a:=a) (cap:=cap) hs (.cons y k .nil) hok hex;have hd:(x::(Fo.cons y k .nil).nodes).drop 1=(Fo.cons y k .nil).nodes++[]:=by simp
 have hD:∀W':World,Below W.heap.size W W'->Calls Tryz.prog 26 #[.slice a (x::(Fo.cons y k .nil).nodes).length cap,.int .i64 1] W' fun e w'=>NdR W' (q0d y k.dcs).nodes e w':=fun W' hb=>hall.1 1 [] hd W' (hN.below hb)
 have hnl:(q0d y k.dcs).nodes.length<=900:=by
  have h3:=q8p hs hd;rw[Fo.dcs,q1j]at h3;simp only at h3;omega
 have e0:q0i (x::(Fo.cons y k .nil).nodes)=stD x (q0d y k.dcs):=q5n hok hk;rw[e0];rcases hx with⟨ho,hnm,hn0⟩|⟨ho,htx,hn0⟩
 ·have h8:x.tx.size<=8:=by rw[<-q0h];exact q1v hnm
  have h5:=j5n (cap:=cap) h1 hpos h8 W hN (by obtain⟨xo,xt,xn⟩:=x;simp only at ho hn0;subst ho hn0;rfl) _ hnl hD
  have e6:(⟨#[108,101,116,32]⟩:ByteArray)++x.tx++(⟨#[32,61]⟩:ByteArray)=wbS ([108,101,116,32]++btL x.tx++[32,61]):=by
   have q1:wbS [108,101,116,32]++wbS (btL x.tx)=wbS ([108,101,116,32]++btL x.tx):=q1q _ _;have q2:wbS ([108,101,116,32]++btL x.tx)++wbS [32,61]=wbS ([108,101,116,32]++btL x.tx++[32,61]):=q1q _ _;rw[<-q2,<-q1];rfl
  rw[e6]at h5;rw[stD,if_pos ho];exact h5
 ·have h5:=j8o (cap:=cap) h1 hpos W hN (by obtain⟨xo,xt,xn⟩:=x;simp only at ho hn0 htx;subst ho hn0 htx;rfl) _ hnl hD;rw[stD,if_neg (by omega)];exact h5
end Go.Proofs.YthjapabokcajhaaGreatDoor
namespace Go.Proofs.YthjapabokcajhaaGreatDoor
open Go Go.RowKit
set_option maxRecDepth 100000
set_option maxHeartbeats 4000000
theorem k4r(n:Nat)(h1:0<n)(hn:n<=1000000)(w:World):
  Calls Tryz.prog 207 #[.slice none 0 0,.int .i64 (n:Int)] w fun e w'=>∃c,e=.returned (.slice (some ⟨w.heap.size,0,none⟩) 0 c)/\q3m w.heap.size (.slice (some ⟨w.heap.size,0,none⟩) 0 c) [] w'/\Below w.heap.size w w':=by
 obtain⟨i0,hi,hz0,hz1,hz2⟩:=info_parts j3e
 have hrz:∀ty,(Builtin.append_ #[49,3] ty #[.slice none 0 0,.int .i64 (n:Int)]).run Tryz.prog w=
   .ok (.slice (some ⟨w.heap.size,0,none⟩) n (grownCap w n 0 107)) (w.drew.alloc (.cells (#[]++Builtin.zeroCells (Value.agg #[.int .i64 0,.string ⟨#[]⟩,.int .i64 0]).cells n++Builtin.zeroCells (Value.agg #[.int .i64 0,.string ⟨#[]⟩,.int .i64 0]).cells (grownCap w n 0 107-n)) 107)):=fun ty=>by
  have hold:(Builtin.firstCells i0.size 0 (.slice none 0 0)).run Tryz.prog w.drew=.ok ([]:List Value).toArray w.drew:=run_firstCells_none w.drew i0.size 0 0 0;have h:=Lib.run_append_grow_zeros w 49 3 ty 107 i0 _ .i64 .i64 Tryz.underlying49 Tryz.underlying3 hi hz0 none 0 0 [] hold n h1 (by omega) (by omega) (by omega) (by rw[hz2];omega) (growslice_fits (by omega) (by rw[hz2];omega));simp only[Nat.zero_add]at h;exact h
 have hGn:n<=grownCap w n 0 107:=grownCap_ge w _ _ _;have hGm:=grownCap_le_maxLen w n 0 107 (by unfold maxLen;omega);generalize grownCap w n 0 107=G at hrz hGn hGm;have hG63:G<=9223372036854775807:=by unfold maxLen at hGm;omega
 have HO:Hid (q3m w.heap.size (.slice (some ⟨w.heap.size,0,none⟩) 0 G) [] (w.drew.alloc (.cells (#[]++Builtin.zeroCells (Value.agg #[.int .i64 0,.string ⟨#[]⟩,.int .i64 0]).cells n++Builtin.zeroCells (Value.agg #[.int .i64 0,.string ⟨#[]⟩,.int .i64 0]).cells (G-n)) 107))):=by
  refine⟨rfl,.inr ⟨w.heap.size,G,_,rfl,Nat.le_refl _,heap_alloc_new w.drew _,Nat.zero_le _,hGm,?_,rfl⟩⟩;simp only[Array.size_append,size_zeroCells,Array.size_empty];show 0+n*3+(G-n)*3=G*3;omega
 have hni:(0:Int)<(n:Int):=by omega
 generalize(#[]++Builtin.zeroCells (Value.agg #[.int .i64 0,.string ⟨#[]⟩,.int .i64 0]).cells n++Builtin.zeroCells (Value.agg #[.int .i64 0,.string ⟨#[]⟩,.int .i64 0]).cells (G-n))=Z at hrz HO
 clear hi hz0 hz1 hz2 hGm;go_in;go_wp2_with(at_builtin;refine Lib.wpList_append_run _ rfl _ _ _ _ rfl _ _ rfl rfl _ _ (hrz _) ?_);go_ret;exact⟨G,rfl,HO.out,Below.drew ((Below.refl _ _).alloc (Nat.le_refl _) _)⟩
def j4h(w:World)(a:Option Addr)(ps:List (List Nd)):Prop:=
 ∀i(h:i<ps.length),∃b o a' c',a=some ⟨b,o,none⟩/\b<w.heap.size/\w.cell? ⟨b,o+i,none⟩=some (.slice a' ps[i].length c')/\q1u w a' ps[i]/\(a'=none->ps[i].length=0/\c'=0)
theorem j4h.below{w w':World}{a:Option Addr}{ps:List (List Nd)}(h:j4h w a ps)(hb:Below w.heap.size w w'):j4h w' a ps:=by
 intro i hi;obtain⟨b,o,a',c',e,hlt,c1,c3,c4⟩:=h i hi;exact⟨b,o,a',c',e,Nat.lt_of_lt_of_le hlt hb.size,(hb.cell (p:=⟨b,_,none⟩) hlt).trans c1,c3.below hb,c4⟩
theorem z0v{ps:List (List Nd)}{i:Nat}(h:i<ps.length):(ps.take (i+1)).flatten=(ps.take i).flatten++ps[i]:=by
 rw[List.take_succ_eq_append_getElem h,List.flatten_append];simp
theorem q9i(ps:List (List Nd))(i:Nat):(ps.take i).flatten.length<=ps.flatten.length:=by
 have h:ps.flatten=(ps.take i).flatten++(ps.drop i).flatten:=by rw[<-List.flatten_append,List.take_append_drop]
 rw[h,List.length_append];omega
structure v1l(w:World)(ps:List (List Nd))(i:Nat)(v:Value)(wr:World):Prop where
 le:i<=ps.length
 o:q3m w.heap.size v (ps.take i).flatten wr
 b:Below w.heap.size w wr
theorem q9n(ps:List (List Nd))(a:Option Addr)(c:Nat)(w:World)(hP:j4h w a ps)(h0:0<ps.flatten.length)(hl:ps.flatten.length<=900000)(hp:ps.length<=10):
  Calls Tryz.prog 182 #[.slice a ps.length c] w fun e w'=>∃A c',e=.returned (.slice A ps.flatten.length c')/\q3m w.heap.size (.slice A ps.flatten.length c') ps.flatten w'/\Below w.heap.size w w':=by
 have HP:Hid (j4h w a ps):=hP;have HG:Hid (Calls Tryz.prog 207 #[.slice none 0 0,.int .i64 (ps.flatten.length:Int)] w fun e w'=>∃c,e=.returned (.slice (some ⟨w.heap.size,0,none⟩) 0 c)/\q3m w.heap.size (.slice (some ⟨w.heap.size,0,none⟩) 0 c) [] w'/\Below w.heap.size w w'):=k4r ps.flatten.length h0 (by omega) w;clear hP;generalize hN:ps.flatten.length=N at HG h0 hl⊢;have HN:Hid (ps.flatten.length=N):=hN;clear hN;go_in;go_wp2_with fail
 go_loopw [3,11] (fun s x wr=>w=wr/\∃i:Nat,i<=ps.length/\x=.int .i64 (i:Int)/\s=.int .i64 ((ps.take i).flatten.length:Int)) (fun _ x _=>ps.length-(intOf x).toNat)
 case atStart=>exact⟨rfl,0,Nat.zero_le _,rfl,rfl⟩
 case round=>
  obtain⟨rfl,i,hi,rfl,rfl⟩:=hrel;by_cases hlt:i<ps.length
  ·have hii:(i:Int)<(ps.length:Int):=by omega
   obtain⟨b0,o0,A0,c0,rfl,hb0,d0,_,_⟩:=HP.out i hlt;have hft:=congrArg List.length (z0v hlt);rw[List.length_append]at hft;have hfl:=q9i ps (i+1);rw[HN.out]at hfl;have HF:=(show Hid (_=_)from hft);have hs1:(ps.take i).flatten.length+ps[i].length<=900000:=by omega
   clear hft hfl;generalize ps[i].length=pn at HF d0 hs1
   generalize(ps.take i).flatten.length=sn at HF hs1⊢
   have hs2:¬(sn:Int)+(pn:Int)<0:=by omega
   go_wp2;refine⟨⟨trivial,i+1,hlt,by go_num,?_⟩,?_⟩
   ·rw[HF.out];go_num
   ·simp[intOf];omega
  ·have hii:¬(i:Int)<(ps.length:Int):=by omega
   have hie:(ps.take i).flatten.length=N:=by rw[List.take_of_length_le (by omega)];exact HN.out
   rw[hie];clear hie;go_wp2_with fail;refine HG.out.mono ?_;rintro e w1⟨c1,rfl,ho1,b1⟩;have HC1:Hid (v1l w ps 0 (.slice (some ⟨w.heap.size,0,none⟩) 0 c1) w1):=⟨Nat.zero_le _,ho1,b1⟩;clear ho1 b1;go_wp2_with fail
   go_loopw [6,27] (fun v x w'=>∃(i:Nat)(A:Option Addr)(n c:Nat),x=.int .i64 (i:Int)/\v=.slice A n c/\n=(ps.take i).flatten.length/\v1l w ps i (.slice A n c) w') (fun _ x _=>ps.length-(intOf x).toNat)
   case atStart=>exact⟨0,_,_,_,rfl,rfl,rfl,HC1.out⟩
   case round=>
    obtain⟨i,A,n,c2,rfl,rfl,hn,hC⟩:=hrel;have hfl:=q9i ps i;rw[HN.out,<-hn]at hfl;by_cases hlt:i<ps.length
    ·have hii:(i:Int)<(ps.length:Int):=by omega
     obtain⟨b0,o0,A0,c0,rfl,hb0,d0,hT,hnil⟩:=HP.out.below hC.b i hlt;have hft:=z0v hlt;have hfl2:=q9i ps (i+1);rw[hft,List.length_append,HN.out,<-hn]at hfl2;have HF:=(show Hid (_=_)from hft);have HO:Hid (q3m w.heap.size (.slice A n c2) (ps.take i).flatten wr):=hC.o;have HB:Hid (Below w.heap.size w wr):=hC.b;have hsz:=hC.b.size;have HT:Hid (q1u wr A0 ps[i]):=hT;have HNI:Hid (A0=none->ps[i].length=0/\c0=0):=hnil;have HL:Hid ((ps.take i).flatten.length=n):=hn.symm;have HPL:Hid (∃m,ps[i].length=m):=⟨_,rfl⟩;generalize hpn:ps[i].length=pn at d0 hfl2 HNI;have HPN:Hid (ps[i].length=pn):=hpn;clear hft hT hnil hn hC hpn HPL hfl;go_wp2_with(at_builtin;refine z1w rfl _ _ rfl w.heap.size _ (ps.take i).flatten rfl HO.out A0 pn ps[i] HPN.out c0 rfl HT.out HNI.out (n+pn) (by rw[HL.out]) (by omega) hsz ?_);intro A3 c3 w3 hown3 hgrow3
     have HX3:Hid (v1l w ps (i+1) (.slice A3 (n+pn) c3) w3):=by
      refine⟨hlt,?_,HB.out.grown hgrow3 hsz (fun k hk=>(World.ownsRow.lt HO.out k hk).1)⟩;rw[HF.out];exact hown3
     clear hown3 hgrow3;go_wp2;refine⟨⟨i+1,A3,n+pn,c3,by go_num,rfl,?_,HX3.out⟩,?_⟩
     ·rw[HF.out,List.length_append,HL.out,HPN.out]
     ·simp[intOf];omega
    ·have hii:¬(i:Int)<(ps.length:Int):=by omega
     have hie:ps.take i=ps:=List.take_of_length_le (by omega);obtain⟨_,ho,hb⟩:=hC;rw[hie]at ho hn;rw[HN.out]at hn;subst hn;have HO:Hid (q3m w.heap.size (.slice A n c2) ps.flatten wr):=ho;have HB:Hid (Below w.heap.size w wr):=hb;clear ho hb hie;go_wp2;go_ret;exact⟨A,c2,rfl,HO.out,HB.out⟩
end Go.Proofs.YthjapabokcajhaaGreatDoor
namespace Go.Proofs.YthjapabokcajhaaGreatDoor
open Go Go.RowKit
structure But(B b:Nat)(w w':World):Prop where
 os:w'.os=w.os
 tape:w'.tape=w.tape
 output:w'.output=w.output
 size:w.heap.size<=w'.heap.size
 block:∀k,k<B->k≠b->w'.heap[k]?=w.heap[k]?
section
variable {B b:Nat} {w w' a:World}
theorem But.refl(B b:Nat)(w:World):But B b w w:=⟨rfl,rfl,rfl,Nat.le_refl _,fun _ _ _=>rfl⟩
theorem But.trans{c:World}(h:But B b a w)(k:But B b w c):But B b a c:=
 ⟨k.os.trans h.os,k.tape.trans h.tape,k.output.trans h.output,Nat.le_trans h.size k.size,fun i hi hb=>(k.block i hi hb).trans (h.block i hi hb)⟩
theorem But.of(h:Below B w w'):But B b w w':=⟨h.os,h.tape,h.output,h.size,fun k hk _=>h.block k hk⟩
theorem But.below(h:But B b w w')(hB:B<=b):Below B w w':=⟨h.os,h.tape,h.output,h.size,fun k hk=>h.block k hk (by omega)⟩
theorem But.mono{B':Nat}(h:But B b w w')(hB:B'<=B):But B' b w w':=⟨h.os,h.tape,h.output,h.size,fun k hk=>h.block k (by omega)⟩
theorem But.setCell(h:But B b a w){p:Addr}(hp:p.block=b\/B<=p.block)(u:Value):But B b a (w.setCell p u):=
 h.trans ⟨rfl,rfl,rfl,by simp[World.setCell],fun k hk hb=>Below.heap_setCell _ _ _ _ (by omega)⟩
end
end Go.Proofs.YthjapabokcajhaaGreatDoor
