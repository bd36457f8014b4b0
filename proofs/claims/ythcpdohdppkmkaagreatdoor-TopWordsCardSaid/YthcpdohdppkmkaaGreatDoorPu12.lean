import Derived.Test.YthcpdohdppkmkaaGreatDoorPu11
open Go.Proofs.Tryz
namespace Go.Proofs.YthcpdohdppkmkaaGreatDoor
open Go Go.RowKit
set_option maxRecDepth 100000
set_option maxHeartbeats 8000000
abbrev ExL(w0:World)(b:Nat)(x:Td)(k:Fo):Prop:=∀(rest:List Td)(w:World),LyE w0 b (x::(k.N++rest)) w->
 Calls prog 171 #[.pointer (some ⟨b,0,none⟩)] w fun e w'=>NdG w0 b w (q0l x k.D).N rest e w'
def EAL(w0:World)(b:Nat):Fo->Prop
 | .nil=>True
 | .cons x k n=>ExL w0 b x k/\EAL w0 b n
theorem LyE.in{w0:World}{b:Nat}{ds:List Td}{w:World}(h:LyE w0 b ds w):b<w.heap.size:=by
 obtain⟨A,c,h⟩:=h;exact h.in
theorem LyE.lk{w0:World}{b:Nat}{ds:List Td}{w:World}(h:LyE w0 b ds w):Lk w0 b w ds w:=⟨But.refl _ _ _,h,h.in⟩
theorem k2x{w0:World}{b:Nat}:∀(K:Fo),EAL w0 b K->K.len≠0->z6t K.D<=1000->K.len<=1000->∀(r:List Td)(w:World),LyE w0 b (K.N++r) w->
  Calls prog 243 #[.pointer (some ⟨b,0,none⟩),.int .i64 (K.len:Int)] w fun e w'=>NdG w0 b w (kdD K.D).N r e w'
 | .nil,_,h0,_,_,_,_,_=>absurd rfl h0
 | .cons y ky .nil,hE,_,_,_,r,w,hW=>by
  have HX:Hid (Calls prog 171 #[.pointer (some ⟨b,0,none⟩)] w fun e w'=>NdG w0 b w (q0l y ky.D).N r e w'):=hE.1 r w (by simpa[Fo.N]using hW);show Calls prog 243 #[.pointer (some ⟨b,0,none⟩),.int .i64 1] w fun e w'=>NdG w0 b w (q0l y ky.D).N r e w'
  generalize(q0l y ky.D).N=xs at HX⊢
  clear hE hW;go_in;go_wp2_with fail;refine HX.o.mono ?_;rintro e w1 h1;have HR:Hid (NdG w0 b w xs r e w1):=h1;obtain⟨v1,rfl,_,_⟩:=h1.val;clear h1;go_wp2;go_ret;exact HR.o
 | .cons y ky (.cons z kz n),hE,_,hs,hkl,r,w,hW=>by
  have hs2:(q0l y ky.D).N.length+z6t (Fo.cons z kz n).D<=1000:=by
   rw[Fo.D,q4f]at hs;have h:(q0l y ky.D).N.length+5+z6t (Fo.cons z kz n).D<=1000:=hs;omega
  have hkd:=v8e (Fo.cons z kz n).D;have hln:n.len<=1000:=by simp only[Fo.len]at hkl;omega
  have HX:Hid (Calls prog 171 #[.pointer (some ⟨b,0,none⟩)] w fun e w'=>NdG w0 b w (q0l y ky.D).N ((Fo.cons z kz n).N++r) e w'):=hE.1 _ w (by simpa[Fo.N]using hW)
  have HK:Hid (∀W,LyE w0 b ((Fo.cons z kz n).N++r) W->Calls prog 243 #[.pointer (some ⟨b,0,none⟩),.int .i64 ((n.len:Int)+1)] W fun e w'=>NdG w0 b W (kdD (Fo.cons z kz n).D).N r e w'):=fun W hW=>by
   have h:=k2x (.cons z kz n) hE.2 (by simp[Fo.len]) (by omega) (by simp only[Fo.len]at hkl⊢;omega) r W hW;have e:(((Fo.cons z kz n).len:Nat):Int)=(n.len:Int)+1:=by simp[Fo.len]
   rw[e]at h;exact h
  have HL:Hid (Lk w0 b w ((Fo.cons y ky (.cons z kz n)).N++r) w):=hW.lk;have HRR:Hid ((kdD (Fo.cons y ky (.cons z kz n)).D).N=⟨6,⟨#[]⟩,0⟩::((⟨6,⟨#[]⟩,0⟩::((q0l y ky.D).N++[⟨1,⟨#[44]⟩,0⟩]))++(⟨6,⟨#[]⟩,0⟩::([⟨2,⟨#[]⟩,0⟩]++(kdD (Fo.cons z kz n).D).N)))):=rfl;have elen:(((Fo.cons y ky (.cons z kz n)).len:Nat):Int)=(n.len:Int)+1+1:=by simp[Fo.len]
  rw[elen]
  generalize(kdD (Fo.cons y ky (.cons z kz n)).D).N=R at HRR⊢
  generalize(q0l y ky.D).N=xs at HX HRR hs2
  generalize(kdD (Fo.cons z kz n).D).N=ks at HK HRR hkd
  generalize(Fo.cons z kz n).N++r=r1 at HX HK
  generalize(Fo.cons y ky (.cons z kz n)).N++r=r0 at HL
  generalize z6t (Fo.cons z kz n).D=sd at hs2 hkd;generalize n.len=nl at HK hln⊢;have hn1:((nl:Int)+1+1==1)=false:=by simp;omega
  clear hE hW hs hkl elen;go_in;go_wp2_with fail;refine(HX.o).mono ?_;rintro e w1 h1;obtain⟨v1,rfl,n1,l1⟩:=h1.val;replace HL:=hid (HL.o.then l1);have DX:=hid n1;clear h1 n1 l1;go_wp2_with fail;refine(q1x _ _).mono ?_;rintro e w2 h2;obtain⟨v2,rfl,n2,b2⟩:=h2.valB HL.o.in;replace HL:=hid (HL.o.step b2);replace DX:=hid (DX.o.bel b2);have DC:=hid n2;clear h2 n2 b2;go_wp2_with fail;refine(q1e _ DX.o.val DC.o.val (by first|(simp;done)|(simp;omega))).mono ?_;rintro e w3 h3;obtain⟨v3,rfl,n3,b3⟩:=h3.valB HL.o.in;replace HL:=hid (HL.o.step b3);clear DX;clear DC;have DP:=hid n3;clear h3 n3 b3;go_wp2_with fail;refine(z2l _).mono ?_;rintro e w4 h4;obtain⟨v4,rfl,n4,b4⟩:=h4.valB HL.o.in;replace HL:=hid (HL.o.step b4);replace DP:=hid (DP.o.bel b4);have DB:=hid n4;clear h4 n4 b4;go_wp2_with fail;refine(HK.o _ HL.o.ly).mono ?_;rintro e w5 h5;obtain⟨v5,rfl,n5,l5⟩:=h5.val;replace HL:=hid (HL.o.then l5);replace DP:=hid (DP.o.but l5.bt);replace DB:=hid (DB.o.but l5.bt);have DK:=hid n5;clear h5 n5 l5;go_wp2_with fail;refine(q1e _ DB.o.val DK.o.val (by first|(simp;done)|(simp;omega))).mono ?_;rintro e w6 h6;obtain⟨v6,rfl,n6,b6⟩:=h6.valB HL.o.in;replace HL:=hid (HL.o.step b6);clear DB;clear DK;replace DP:=hid (DP.o.bel b6);have DQ:=hid n6;clear h6 n6 b6;go_wp2_with fail;refine(q1e _ DP.o.val DQ.o.val (by first|(simp;done)|(simp;omega))).mono ?_;rintro e w7 h7
  have HX:Hid (NdG w0 b w R r e w7):=by
   have h:=h7.gof HL.o;show NdG w0 b w R r e w7;rw[HRR.o];exact h
  obtain⟨v7,rfl,_,_⟩:=h7.val;clear h7 HL HRR DP DQ;go_wp2;go_ret;exact HX.o
theorem g1k(o c:List UInt8)(ps:List (Td × Tr))(h:ps.length=0):(q1y o c ps).N=[⟨1,wbS (o++c),0⟩]:=by rw[q1y,if_pos h];rfl
theorem y6k(o c:List UInt8)(ps:List (Td × Tr))(h:¬ps.length=0):(q1y o c ps).N=⟨8,⟨#[]⟩,0⟩::(⟨6,⟨#[]⟩,0⟩::([⟨1,wbS o,0⟩]++(⟨6,⟨#[]⟩,0⟩::((⟨7,⟨#[]⟩,2⟩::(⟨6,⟨#[]⟩,0⟩::([⟨3,⟨#[]⟩,0⟩]++(kdD ps).N)))++(⟨6,⟨#[]⟩,0⟩::([⟨3,⟨#[]⟩,0⟩]++[⟨1,wbS c,0⟩])))))):=by rw[q1y,if_neg h];rfl
theorem z3c{w0:World}{b:Nat}(K:Fo)(hE:EAL w0 b K)(hs:z6t K.D<=1000)(hkl:K.len<=1000)(o c:ByteArray)(ho:o.size<=100)(hc:c.size<=100)(r:List Td)(w:World)(hW:LyE w0 b (K.N++r) w):
  Calls prog 214 #[.pointer (some ⟨b,0,none⟩),.string o,.int .i64 (K.len:Int),.string c] w fun e w'=>NdG w0 b w (q1y (btL o) (btL c) K.D).N r e w':=by
 have HL:Hid (Lk w0 b w (K.N++r) w):=hW.lk;by_cases h0:K.len=0
 ·have HRR:Hid ((q1y (btL o) (btL c) K.D).N=[⟨1,o++c,0⟩]):=by
   show _=_;rw[g1k _ _ _ (by rw[q7p];exact h0)];have e:wbS (btL o++btL c)=o++c:=by rw[<-q9q,z3h,z3h]
   rw[e]
  have hr:K.N++r=r:=by
   cases K with
   | nil=>rfl
   | cons=>simp[Fo.len]at h0
  rw[hr]at HL;rw[h0]
  generalize(q1y (btL o) (btL c) K.D).N=R at HRR⊢
  clear hE hs hkl h0 hr hW;have hsz:¬9223372036854775807<o.size+c.size:=by omega
  go_in;go_wp2_with fail;refine(q1x _ _).mono ?_;rintro e w1 h1
  have HX:Hid (NdG w0 b w R r e w1):=by
   have h:=h1.gof HL.o;show NdG w0 b w R r e w1;rw[HRR.o];exact h
  obtain⟨v1,rfl,_,_⟩:=h1.val;clear h1 HL HRR;go_wp2;go_ret;exact HX.o
 ·have HRR:Hid ((q1y (btL o) (btL c) K.D).N=⟨8,⟨#[]⟩,0⟩::(⟨6,⟨#[]⟩,0⟩::([⟨1,o,0⟩]++(⟨6,⟨#[]⟩,0⟩::((⟨7,⟨#[]⟩,2⟩::(⟨6,⟨#[]⟩,0⟩::([⟨3,⟨#[]⟩,0⟩]++(kdD K.D).N)))++(⟨6,⟨#[]⟩,0⟩::([⟨3,⟨#[]⟩,0⟩]++[⟨1,c,0⟩]))))))):=by
   show _=_;rw[y6k _ _ _ (by rw[q7p];exact h0),z3h,z3h]
  have HK:Hid (∀W,LyE w0 b (K.N++r) W->Calls prog 243 #[.pointer (some ⟨b,0,none⟩),.int .i64 (K.len:Int)] W fun e w'=>NdG w0 b W (kdD K.D).N r e w'):=fun W hW=>k2x K hE h0 hs hkl r W hW
  have hkd:=v8e K.D
  generalize(q1y (btL o) (btL c) K.D).N=R at HRR⊢
  generalize(kdD K.D).N=ks at HK HRR hkd
  generalize z6t K.D=sd at hs hkd;generalize K.N++r=r0 at HL HK;generalize K.len=kl at HK h0⊢;have hk0:((kl:Int)==0)=false:=by simp;omega
  clear hE hkl hW;go_in;go_wp2_with fail;refine(k3j _).mono ?_;rintro e w1 h1;obtain⟨v1,rfl,n1,b1⟩:=h1.valB HL.o.in;replace HL:=hid (HL.o.step b1);have DS:=hid n1;clear h1 n1 b1;go_wp2_with fail;refine(HK.o _ HL.o.ly).mono ?_;rintro e w2 h2;obtain⟨v2,rfl,n2,l2⟩:=h2.val;replace HL:=hid (HL.o.then l2);replace DS:=hid (DS.o.but l2.bt);have DK:=hid n2;clear h2 n2 l2;go_wp2_with fail;refine(q1e _ DS.o.val DK.o.val (by first|(simp;done)|(simp;omega))).mono ?_;rintro e w3 h3;obtain⟨v3,rfl,n3,b3⟩:=h3.valB HL.o.in;replace HL:=hid (HL.o.step b3);clear DS;clear DK;have DA:=hid n3;clear h3 n3 b3;go_wp2_with fail;refine(q9k _ DA.o.val (by first|(simp;done)|(simp;omega))).mono ?_;rintro e w4 h4;obtain⟨v4,rfl,n4,b4⟩:=h4.valB HL.o.in;replace HL:=hid (HL.o.step b4);clear DA;have DI:=hid n4;clear h4 n4 b4;go_wp2_with fail;refine(q1x _ _).mono ?_;rintro e w5 h5;obtain⟨v5,rfl,n5,b5⟩:=h5.valB HL.o.in;replace HL:=hid (HL.o.step b5);replace DI:=hid (DI.o.bel b5);have DO:=hid n5;clear h5 n5 b5;go_wp2_with fail;refine(k3j _).mono ?_;rintro e w6 h6;obtain⟨v6,rfl,n6,b6⟩:=h6.valB HL.o.in;replace HL:=hid (HL.o.step b6);replace DI:=hid (DI.o.bel b6);replace DO:=hid (DO.o.bel b6);have DT:=hid n6;clear h6 n6 b6;go_wp2_with fail;refine(q1x _ _).mono ?_;rintro e w7 h7;obtain⟨v7,rfl,n7,b7⟩:=h7.valB HL.o.in;replace HL:=hid (HL.o.step b7);replace DI:=hid (DI.o.bel b7);replace DO:=hid (DO.o.bel b7);replace DT:=hid (DT.o.bel b7);have DC:=hid n7;clear h7 n7 b7;go_wp2_with fail;refine(q1e _ DT.o.val DC.o.val (by first|(simp;done)|(simp;omega))).mono ?_;rintro e w8 h8;obtain⟨v8,rfl,n8,b8⟩:=h8.valB HL.o.in;replace HL:=hid (HL.o.step b8);clear DT;clear DC;replace DI:=hid (DI.o.bel b8);replace DO:=hid (DO.o.bel b8);have DE:=hid n8;clear h8 n8 b8;go_wp2_with fail;refine(q1e _ DI.o.val DE.o.val (by first|(simp;done)|(simp;omega))).mono ?_;rintro e w9 h9;obtain⟨v9,rfl,n9,b9⟩:=h9.valB HL.o.in;replace HL:=hid (HL.o.step b9);clear DI;clear DE;replace DO:=hid (DO.o.bel b9);have DF:=hid n9;clear h9 n9 b9;go_wp2_with fail;refine(q1e _ DO.o.val DF.o.val (by first|(simp;done)|(simp;omega))).mono ?_;rintro e w10 h10;obtain⟨v10,rfl,n10,b10⟩:=h10.valB HL.o.in;replace HL:=hid (HL.o.step b10);clear DO;clear DF;have DG:=hid n10;clear h10 n10 b10;go_wp2_with fail;refine(z2m _ DG.o.val (by first|(simp;done)|(simp;omega))).mono ?_;rintro e w11 h11
  have HX:Hid (NdG w0 b w R r e w11):=by
   have h:=h11.gof HL.o;show NdG w0 b w R r e w11;rw[HRR.o];exact h
  obtain⟨v11,rfl,_,_⟩:=h11.val;clear h11 HL HRR DG;go_wp2;go_ret;exact HX.o
theorem y5l{l:Nat}{x:Td}{D:Tr}(h:prc x<l):(inD l x D).N=⟨6,⟨#[]⟩,0⟩::([⟨1,⟨#[40]⟩,0⟩]++(⟨6,⟨#[]⟩,0⟩::(D.N++[⟨1,⟨#[41]⟩,0⟩]))):=by
 rw[inD,if_pos h];rfl
theorem g0x{l:Nat}{x:Td}{D:Tr}(h:¬prc x<l):(inD l x D).N=D.N:=by rw[inD,if_neg h]
theorem k3i{w0:World}{b:Nat}{y:Td}{k:Fo}(hX:ExL w0 b y k)(hz:(q0l y k.D).N.length<=1000)(op:Int)(hop:op=5\/op=6)(s:Bool)(r:List Td)(w:World)(hW:LyE w0 b (y::(k.N++r)) w):
  Calls prog 244 #[.pointer (some ⟨b,0,none⟩),.int .i64 op,.bool s] w fun e w'=>NdG w0 b w (inD ((op-5).toNat+s.toNat) y (q0l y k.D)).N r e w':=by
 have HNB:Hid (∀W,Calls prog 237 #[.int .i64 y.op,.int .i64 op,.bool s] W fun e w'=>e=.returned (.bool (decide (prc y<(op-5).toNat+s.toNat)))/\W=w'):=fun W=>(k3n y op hop s W).mono fun _ _ h=>⟨h.1,h.2.symm⟩
 have HX:Hid (Calls prog 171 #[.pointer (some ⟨b,0,none⟩)] w fun e w'=>NdG w0 b w (q0l y k.D).N r e w'):=hX r w hW;have HL:Hid (Lk w0 b w (y::(k.N++r)) w):=hW.lk;obtain⟨A,c,h⟩:=hW;obtain⟨tb,tq,rfl,hlt,d0,_,_⟩:=h.td 0 (by simp);simp only[List.getElem_cons_zero,Nat.zero_mul,Nat.add_zero]at d0;obtain⟨bc,_⟩:=q1c h.bl;have e0:w.cell? ⟨tb,tq,none⟩=some (.int .i64 y.op):=(bc _ _ hlt).trans d0;have cR:w.cell? ⟨b,0,none⟩=some (.slice (some ⟨tb,tq,none⟩) (y::(k.N++r)).length c):=by rw[Lib.cell_of_heap h.x];rfl
 generalize hn:(y::(k.N++r)).length=n at cR;have h1n:0<n:=by rw[<-hn];simp
 have hi1:(0:Int)<(n:Int):=by omega
 have HY:Hid (prc y<(op-5).toNat+s.toNat->(inD ((op-5).toNat+s.toNat) y (q0l y k.D)).N=⟨6,⟨#[]⟩,0⟩::([⟨1,⟨#[40]⟩,0⟩]++(⟨6,⟨#[]⟩,0⟩::((q0l y k.D).N++[⟨1,⟨#[41]⟩,0⟩])))):=y5l;have HNO:Hid (¬prc y<(op-5).toNat+s.toNat->(inD ((op-5).toNat+s.toNat) y (q0l y k.D)).N=(q0l y k.D).N):=g0x
 generalize(inD ((op-5).toNat+s.toNat) y (q0l y k.D)).N=R at HY HNO⊢
 generalize(q0l y k.D).N=xs at HX HY HNO hz
 generalize y::(k.N++r)=r0 at HL
 generalize(op-5).toNat+s.toNat=lv at HNB HY HNO
 generalize prc y=py at HNB HY HNO;generalize y.op=yo at HNB e0;clear h bc d0 hop hn hX;by_cases hp:py<lv
 ·have HRR:=(show Hid (_=_)from HY.o hp);rw[decide_eq_true hp]at HNB;clear HY HNO hp;go_in;go_wp2_with fail;refine(HNB.o _).mono ?_;rintro e w1⟨rfl,rfl⟩;go_wp2_with fail;refine(HX.o).mono ?_;rintro e w2 h2;obtain⟨v2,rfl,n2,l2⟩:=h2.val;replace HL:=hid (HL.o.then l2);have DX:=hid n2;clear h2 n2 l2;go_wp2_with fail;refine(q1x _ _).mono ?_;rintro e w3 h3;obtain⟨v3,rfl,n3,b3⟩:=h3.valB HL.o.in;replace HL:=hid (HL.o.step b3);replace DX:=hid (DX.o.bel b3);have DO:=hid n3;clear h3 n3 b3;go_wp2_with fail;refine(q1x _ _).mono ?_;rintro e w4 h4;obtain⟨v4,rfl,n4,b4⟩:=h4.valB HL.o.in;replace HL:=hid (HL.o.step b4);replace DX:=hid (DX.o.bel b4);replace DO:=hid (DO.o.bel b4);have DC:=hid n4;clear h4 n4 b4;go_wp2_with fail;refine(q1e _ DX.o.val DC.o.val (by first|(simp;done)|(simp;omega))).mono ?_;rintro e w5 h5;obtain⟨v5,rfl,n5,b5⟩:=h5.valB HL.o.in;replace HL:=hid (HL.o.step b5);clear DX;clear DC;replace DO:=hid (DO.o.bel b5);have DQ:=hid n5;clear h5 n5 b5;go_wp2_with fail;refine(q1e _ DO.o.val DQ.o.val (by first|(simp;done)|(simp;omega))).mono ?_;rintro e w6 h6
  have HX:Hid (NdG w0 b w R r e w6):=by
   have h:=h6.gof HL.o;show NdG w0 b w R r e w6;rw[HRR.o];exact h
  obtain⟨v6,rfl,_,_⟩:=h6.val;clear h6 HL HRR DO DQ;go_wp2;go_ret;exact HX.o
 ·have HRR:=(show Hid (_=_)from HNO.o hp);rw[decide_eq_false hp]at HNB;clear HY HNO hp;go_in;go_wp2_with fail;refine(HNB.o _).mono ?_;rintro e w1⟨rfl,rfl⟩;go_wp2_with fail;refine HX.o.mono ?_;rintro e w2 h2
  have HR:Hid (NdG w0 b w R r e w2):=by
   show NdG w0 b w R r e w2;rw[HRR.o];exact h2
  obtain⟨v2,rfl,_,_⟩:=h2.val;clear h2;go_wp2;go_ret;exact HR.o
theorem z7s{w0:World}{b:Nat}{y z:Td}{k l:Fo}(hX:ExL w0 b y k)(hZ:ExL w0 b z l)(hzy:(q0l y k.D).N.length<=1000)(hzz:(q0l z l.D).N.length<=1000)(op:Int)(hop:op=5\/op=6)(m:ByteArray)(r:List Td)(w:World)
  (hW:LyE w0 b (y::(k.N++(z::(l.N++r)))) w):
  Calls prog 215 #[.pointer (some ⟨b,0,none⟩),.int .i64 op,.string m] w fun e w'=>NdG w0 b w (grD (twD (inD (op-5).toNat y (q0l y k.D)) (dpD (twD blD (twD (wdD (btL m)) (inD ((op-5).toNat+1) z (q0l z l.D))))))).N r e w':=by
 have H1:Hid (Calls prog 244 #[.pointer (some ⟨b,0,none⟩),.int .i64 op,.bool false] w fun e w'=>NdG w0 b w (inD (op-5).toNat y (q0l y k.D)).N (z::(l.N++r)) e w'):=k3i hX hzy op hop false _ w hW;have H2:Hid (∀W,LyE w0 b (z::(l.N++r)) W->Calls prog 244 #[.pointer (some ⟨b,0,none⟩),.int .i64 op,.bool true] W fun e w'=>NdG w0 b W (inD ((op-5).toNat+1) z (q0l z l.D)).N r e w'):=fun W hW=>k3i hZ hzz op hop true _ W hW
 have HL:Hid (Lk w0 b w (y::(k.N++(z::(l.N++r)))) w):=hW.lk;have n1:=v8d (op-5).toNat y (q0l y k.D);have n2:=v8d ((op-5).toNat+1) z (q0l z l.D)
 have HRR:Hid ((grD (twD (inD (op-5).toNat y (q0l y k.D)) (dpD (twD blD (twD (wdD (btL m)) (inD ((op-5).toNat+1) z (q0l z l.D))))))).N=⟨8,⟨#[]⟩,0⟩::(⟨6,⟨#[]⟩,0⟩::((inD (op-5).toNat y (q0l y k.D)).N++(⟨7,⟨#[]⟩,2⟩::(⟨6,⟨#[]⟩,0⟩::([⟨2,⟨#[]⟩,0⟩]++(⟨6,⟨#[]⟩,0⟩::([⟨1,m,0⟩]++(inD ((op-5).toNat+1) z (q0l z l.D)).N)))))))):=by
  show _=_;have e:wbS (btL m)=m:=z3h m;simp only[Tr.N,e]
 generalize(grD (twD (inD (op-5).toNat y (q0l y k.D)) (dpD (twD blD (twD (wdD (btL m)) (inD ((op-5).toNat+1) z (q0l z l.D))))))).N=R at HRR⊢
 generalize(inD (op-5).toNat y (q0l y k.D)).N=xs at H1 HRR n1
 generalize(inD ((op-5).toNat+1) z (q0l z l.D)).N=ys at H2 HRR n2
 have hxs:xs.length<=1004:=by omega
 have hys:ys.length<=1004:=by omega
 generalize z::(l.N++r)=r1 at H1 H2 HL;generalize y::(k.N++r1)=r0 at HL;clear hX hZ hzy hzz hW n1 n2 hop;go_in;go_wp2_with fail;refine(H1.o).mono ?_;rintro e w1 h1;obtain⟨v1,rfl,n1,l1⟩:=h1.val;replace HL:=hid (HL.o.then l1);have DX:=hid n1;clear h1 n1 l1;go_wp2_with fail;refine(H2.o _ HL.o.ly).mono ?_;rintro e w2 h2;obtain⟨v2,rfl,n2,l2⟩:=h2.val;replace HL:=hid (HL.o.then l2);replace DX:=hid (DX.o.but l2.bt);have DY:=hid n2;clear h2 n2 l2;go_wp2_with fail;refine(z2l _).mono ?_;rintro e w3 h3;obtain⟨v3,rfl,n3,b3⟩:=h3.valB HL.o.in;replace HL:=hid (HL.o.step b3);replace DX:=hid (DX.o.bel b3);replace DY:=hid (DY.o.bel b3);have DB:=hid n3;clear h3 n3 b3;go_wp2_with fail;refine(q1x _ _).mono ?_;rintro e w4 h4;obtain⟨v4,rfl,n4,b4⟩:=h4.valB HL.o.in;replace HL:=hid (HL.o.step b4);replace DX:=hid (DX.o.bel b4);replace DY:=hid (DY.o.bel b4);replace DB:=hid (DB.o.bel b4);have DM:=hid n4;clear h4 n4 b4;go_wp2_with fail;refine(q1e _ DM.o.val DY.o.val (by first|(simp;done)|(simp;omega))).mono ?_;rintro e w5 h5;obtain⟨v5,rfl,n5,b5⟩:=h5.valB HL.o.in;replace HL:=hid (HL.o.step b5);clear DM;clear DY;replace DX:=hid (DX.o.bel b5);replace DB:=hid (DB.o.bel b5);have DA:=hid n5;clear h5 n5 b5;go_wp2_with fail;refine(q1e _ DB.o.val DA.o.val (by first|(simp;done)|(simp;omega))).mono ?_;rintro e w6 h6;obtain⟨v6,rfl,n6,b6⟩:=h6.valB HL.o.in;replace HL:=hid (HL.o.step b6);clear DB;clear DA;replace DX:=hid (DX.o.bel b6);have DC:=hid n6;clear h6 n6 b6;go_wp2_with fail;refine(q9k _ DC.o.val (by first|(simp;done)|(simp;omega))).mono ?_;rintro e w7 h7;obtain⟨v7,rfl,n7,b7⟩:=h7.valB HL.o.in;replace HL:=hid (HL.o.step b7);clear DC;replace DX:=hid (DX.o.bel b7);have DE:=hid n7;clear h7 n7 b7;go_wp2_with fail;refine(q1e _ DX.o.val DE.o.val (by first|(simp;done)|(simp;omega))).mono ?_;rintro e w8 h8;obtain⟨v8,rfl,n8,b8⟩:=h8.valB HL.o.in;replace HL:=hid (HL.o.step b8);clear DX;clear DE;have DF:=hid n8;clear h8 n8 b8;go_wp2_with fail;refine(z2m _ DF.o.val (by first|(simp;done)|(simp;omega))).mono ?_;rintro e w9 h9
 have HX:Hid (NdG w0 b w R r e w9):=by
  have h:=h9.gof HL.o;show NdG w0 b w R r e w9;rw[HRR.o];exact h
 obtain⟨v9,rfl,_,_⟩:=h9.val;clear h9 HL HRR DF;go_wp2;go_ret;exact HX.o
theorem v7k{w0:World}{b:Nat}(ht:z8n w0)(n:Int)(h0:0<=n)(h9:n<=999999)(tx:ByteArray):ExL w0 b ⟨1,tx,n⟩ Fo.nil:=by
 intro r w hW;have HN:Hid (Calls prog 169 #[.pointer (some ⟨b,0,none⟩)] w fun e w'=>e=.returned (tdV ⟨1,tx,n⟩)/\Lk w0 b w (Fo.nil.N++r) w'):=q4e hW;have HT:Hid (z8n w0):=ht;clear ht;generalize hR:(q0l ⟨1,tx,n⟩ Fo.nil.D).N=R;have HR0:Hid ((q0l ⟨1,tx,n⟩ Fo.nil.D).N=R):=hR;clear hW hR;go_in;go_wp2_with fail;refine HN.o.mono ?_;rintro e w1⟨rfl,h1⟩
 have HI:Hid (∀W:World,Below w1 w1 W->Calls prog 154 #[.int .i64 n] W fun e w'=>e=.returned (.string (wbS (q3q n.toNat)))/\Below W W w'):=fun W hb=>j0a n h0 h9 W (by
  obtain⟨A,c,hl⟩:=h1.ly
  exact(HT.o.W hl.bl).W hb)
 have HS:Hid (∀W:World,Below w1 w1 W->Calls prog 172 #[.string (wbS (q3q n.toNat))] W fun e w'=>NdG w0 b w R r e w'):=fun W hb=>(q1x _ W).mono fun e w' h=>by
  rw[<-HR0.o];exact h.gof (h1.step hb)
 generalize wbS (q3q n.toNat)=S at HI HS;clear h1 HN;go_wp2_with fail;refine(HI.o _ (q1t w1 _)).mono ?_;rintro e w2⟨rfl,b2⟩;have HB2:Hid (Below w1 w1 w2):=q0c (q1t w1 _) Zl b2;clear b2;go_wp2_with fail;refine(HS.o _ HB2.o).mono ?_;rintro e w3 h3;have HR:=(show Hid (_)from h3);obtain⟨v3,rfl,_,_⟩:=h3.val;clear h3;go_wp2;go_ret;exact HR.o
theorem j9s{w0:World}{b:Nat}(tx:ByteArray)(htx:tx.size<=100)(n:Int):ExL w0 b ⟨2,tx,n⟩ Fo.nil:=by
 intro r w hW;have HN:Hid (Calls prog 169 #[.pointer (some ⟨b,0,none⟩)] w fun e w'=>e=.returned (tdV ⟨2,tx,n⟩)/\Lk w0 b w (Fo.nil.N++r) w'):=q4e hW;generalize hR:(q0l ⟨2,tx,n⟩ Fo.nil.D).N=R;have HR0:Hid ((q0l ⟨2,tx,n⟩ Fo.nil.D).N=R):=hR;clear hW hR;go_in;go_wp2_with fail;refine HN.o.mono ?_;rintro e w1⟨rfl,h1⟩;have HI:Hid (∀W:World,Calls prog 51 #[.string tx] W fun e w'=>e=.returned (.string tx)/\Below W W w'):=fun W=>q8m tx W (by omega)
 have HS:Hid (∀W:World,Below w1 w1 W->Calls prog 172 #[.string tx] W fun e w'=>NdG w0 b w R r e w'):=fun W hb=>(q1x _ W).mono fun e w' h=>by
  have e2:(q0l ⟨2,tx,n⟩ Fo.nil.D).N=[⟨1,tx,0⟩]:=by
   show [(⟨1,wbS (btL tx),0⟩:Nd)]=_;rw[z3h]
  rw[<-HR0.o,e2];exact h.gof (h1.step hb)
 clear h1 HN;go_wp2_with fail;refine(HI.o _).mono ?_;rintro e w2⟨rfl,b2⟩;have HB2:Hid (Below w1 w1 w2):=q0c (q1t w1 _) Zl b2;clear b2;go_wp2_with fail;refine(HS.o _ HB2.o).mono ?_;rintro e w3 h3;have HR:=(show Hid (_)from h3);obtain⟨v3,rfl,_,_⟩:=h3.val;clear h3;go_wp2;go_ret;exact HR.o
theorem j9r{w0:World}{b:Nat}{F:Fo}(tx:ByteArray)(hE:EAL w0 b F)(hs:z6t F.D<=1000)(hkl:F.len<=1000):ExL w0 b ⟨4,tx,(F.len:Int)⟩ F:=by
 intro r w hW;have HN:Hid (Calls prog 169 #[.pointer (some ⟨b,0,none⟩)] w fun e w'=>e=.returned (tdV ⟨4,tx,(F.len:Int)⟩)/\Lk w0 b w (F.N++r) w'):=q4e hW;generalize hR:(q0l ⟨4,tx,(F.len:Int)⟩ F.D).N=R;have HR0:Hid ((q0l ⟨4,tx,(F.len:Int)⟩ F.D).N=R):=hR;clear hW hR;go_in;go_wp2_with fail;refine HN.o.mono ?_;rintro e w1⟨rfl,h1⟩
 have HS:Hid (∀W:World,Below w1 w1 W->Calls prog 214 #[.pointer (some ⟨b,0,none⟩),.string ⟨#[91]⟩,.int .i64 (F.len:Int),.string ⟨#[93]⟩] W fun e w'=>NdG w0 b w R r e w'):=fun W hb=>(z3c F hE hs hkl ⟨#[91]⟩ ⟨#[93]⟩ (by decide) (by decide) r W (h1.step hb).ly).mono fun e w' h=>by
  have e2:q0l ⟨4,tx,(F.len:Int)⟩ F.D=q1y (btL ⟨#[91]⟩) (btL ⟨#[93]⟩) F.D:=rfl;rw[<-HR0.o,e2];exact NdG.then (h1.step hb) h
 clear h1 HN hE hs;go_wp2_with fail;refine(HS.o _ (q1t w1 _)).mono ?_;rintro e w3 h3;have HR:=(show Hid (_)from h3);obtain⟨v3,rfl,_,_⟩:=h3.val;clear h3;go_wp2;go_ret;exact HR.o
theorem j6j(tx:ByteArray):btL (tx++(⟨#[40]⟩:ByteArray))=btL tx++[40]:=by
 have e:wbS (btL tx)++wbS [40]=wbS (btL tx++[40]):=q9q _ _;rw[z3h]at e;have e2:tx++(⟨#[40]⟩:ByteArray)=wbS (btL tx++[40]):=e;rw[e2];rfl
theorem y8g(tx:ByteArray):(tx++(⟨#[40]⟩:ByteArray)).size=tx.size+1:=by
 rw[<-q0b,j6j,List.length_append,q0b];rfl
theorem j9q{w0:World}{b:Nat}{F:Fo}(tx:ByteArray)(htx:tx.size<=80)(hE:EAL w0 b F)(hs:z6t F.D<=1000)(hkl:F.len<=1000):ExL w0 b ⟨3,tx,(F.len:Int)⟩ F:=by
 intro r w hW;have HN:Hid (Calls prog 169 #[.pointer (some ⟨b,0,none⟩)] w fun e w'=>e=.returned (tdV ⟨3,tx,(F.len:Int)⟩)/\Lk w0 b w (F.N++r) w'):=q4e hW;generalize hR:(q0l ⟨3,tx,(F.len:Int)⟩ F.D).N=R;have HR0:Hid ((q0l ⟨3,tx,(F.len:Int)⟩ F.D).N=R):=hR;clear hW hR;go_in;go_wp2_with fail;refine HN.o.mono ?_;rintro e w1⟨rfl,h1⟩
 have HS:Hid (∀W:World,Below w1 w1 W->Calls prog 214 #[.pointer (some ⟨b,0,none⟩),.string (tx++(⟨#[40]⟩:ByteArray)),.int .i64 (F.len:Int),.string ⟨#[41]⟩] W fun e w'=>NdG w0 b w R r e w'):=fun W hb=>(z3c F hE hs hkl (tx++(⟨#[40]⟩:ByteArray)) ⟨#[41]⟩ (by rw[y8g];omega) (by decide) r W (h1.step hb).ly).mono fun e w' h=>by
  have e2:q0l ⟨3,tx,(F.len:Int)⟩ F.D=q1y (btL (tx++(⟨#[40]⟩:ByteArray))) (btL ⟨#[41]⟩) F.D:=by rw[j6j];rfl
  rw[<-HR0.o,e2];exact NdG.then (h1.step hb) h
 have hsz:¬9223372036854775807<tx.size+1:=by omega
 clear h1 HN hE hs;go_wp2_with fail;refine(HS.o _ (q1t w1 _)).mono ?_;rintro e w3 h3;have HR:=(show Hid (_)from h3);obtain⟨v3,rfl,_,_⟩:=h3.val;clear h3;go_wp2;go_ret;exact HR.o
theorem v7l{w0:World}{b:Nat}{y z:Td}{k l:Fo}(tx:ByteArray)(n:Int)(hX:ExL w0 b y k)(hZ:ExL w0 b z l)(hzy:(q0l y k.D).N.length<=1000)(hzz:(q0l z l.D).N.length<=1000):ExL w0 b ⟨5,tx,n⟩ (Fo.cons y k (.cons z l .nil)):=by
 intro r w hW;have HN:Hid (Calls prog 169 #[.pointer (some ⟨b,0,none⟩)] w fun e w'=>e=.returned (tdV ⟨5,tx,n⟩)/\Lk w0 b w ((Fo.cons y k (.cons z l .nil)).N++r) w'):=q4e hW;generalize hR:(q0l ⟨5,tx,n⟩ (Fo.cons y k (.cons z l .nil)).D).N=R;have HR0:Hid ((q0l ⟨5,tx,n⟩ (Fo.cons y k (.cons z l .nil)).D).N=R):=hR;clear hW hR;go_in;go_wp2_with fail;refine HN.o.mono ?_;rintro e w1⟨rfl,h1⟩
 have HS:Hid (∀W:World,Below w1 w1 W->Calls prog 215 #[.pointer (some ⟨b,0,none⟩),.int .i64 5,.string ⟨#[43,32]⟩] W fun e w'=>NdG w0 b w R r e w'):=fun W hb=>by
  rw[<-HR0.o];have hly:=(h1.step hb).ly;have hnd:(Fo.cons y k (.cons z l .nil)).N++r=y::(k.N++(z::(l.N++r))):=by simp[Fo.N]
  rw[hnd]at hly;exact(z7s hX hZ hzy hzz 5 (by decide) ⟨#[43,32]⟩ r W hly).mono fun e w' h=>NdG.then (h1.step hb) h
 clear h1 HN hX hZ hzy hzz;go_wp2_with fail;refine(HS.o _ (q1t w1 _)).mono ?_;rintro e w3 h3;have HR:=(show Hid (_)from h3);obtain⟨v3,rfl,_,_⟩:=h3.val;clear h3;go_wp2;go_ret;exact HR.o
theorem v7j{w0:World}{b:Nat}{y z:Td}{k l:Fo}(tx:ByteArray)(n:Int)(hX:ExL w0 b y k)(hZ:ExL w0 b z l)(hzy:(q0l y k.D).N.length<=1000)(hzz:(q0l z l.D).N.length<=1000):ExL w0 b ⟨6,tx,n⟩ (Fo.cons y k (.cons z l .nil)):=by
 intro r w hW;have HN:Hid (Calls prog 169 #[.pointer (some ⟨b,0,none⟩)] w fun e w'=>e=.returned (tdV ⟨6,tx,n⟩)/\Lk w0 b w ((Fo.cons y k (.cons z l .nil)).N++r) w'):=q4e hW;generalize hR:(q0l ⟨6,tx,n⟩ (Fo.cons y k (.cons z l .nil)).D).N=R;have HR0:Hid ((q0l ⟨6,tx,n⟩ (Fo.cons y k (.cons z l .nil)).D).N=R):=hR;clear hW hR;go_in;go_wp2_with fail;refine HN.o.mono ?_;rintro e w1⟨rfl,h1⟩
 have HS:Hid (∀W:World,Below w1 w1 W->Calls prog 215 #[.pointer (some ⟨b,0,none⟩),.int .i64 6,.string ⟨#[42,32]⟩] W fun e w'=>NdG w0 b w R r e w'):=fun W hb=>by
  rw[<-HR0.o];have hly:=(h1.step hb).ly;have hnd:(Fo.cons y k (.cons z l .nil)).N++r=y::(k.N++(z::(l.N++r))):=by simp[Fo.N]
  rw[hnd]at hly;exact(z7s hX hZ hzy hzz 6 (by decide) ⟨#[42,32]⟩ r W hly).mono fun e w' h=>NdG.then (h1.step hb) h
 clear h1 HN hX hZ hzy hzz;go_wp2_with fail;refine(HS.o _ (q1t w1 _)).mono ?_;rintro e w3 h3;have HR:=(show Hid (_)from h3);obtain⟨v3,rfl,_,_⟩:=h3.val;clear h3;go_wp2;go_ret;exact HR.o
theorem j1r(x:Td)(k n:Fo):z6t k.D<=20*(Fo.cons x k n).N.length/\(q0l x k.D).N.length<=20*(Fo.cons x k n).N.length:=by
 have h:=k2c (.cons x k n);have h2:=k2c k;rw[Fo.D,q4f]at h;have e:(x,q0l x k.D).2=q0l x k.D:=rfl;rw[e]at h;have e2:k.N.length<=(Fo.cons x k n).N.length:=by simp only[Fo.N,List.length_cons,List.length_append];omega
 omega
theorem z9n{w0:World}{b:Nat}(ht:z8n w0):∀F:Fo,F.ok->F.exs->F.N.length<=50->EAL w0 b F
 | .nil,_,_,_=>trivial
 | .cons x k n,hok,hex,hlen=>by
  have hl1:k.N.length+n.N.length+1<=50:=by simp only[Fo.N,List.length_cons,List.length_append]at hlen;omega
  have hk:EAL w0 b k:=z9n ht k hok.2.1 (fun y hy=>hex y (by simp[Fo.N,hy])) (by omega);have hn:EAL w0 b n:=z9n ht n hok.2.2 (fun y hy=>hex y (by simp[Fo.N,hy])) (by omega);refine⟨?_,hn⟩;have hx:=hex x (by simp[Fo.N]);have hkl:=hok.1;have hsum:z6t k.D<=1000:=by have:=(j1r x k n).1;omega
  obtain⟨op,tx,m⟩:=x;rcases q2j hx with⟨e1,e2,e3,e4,e5⟩|⟨e1,e2,e3,e5⟩|⟨e1,e2,e3,e4,e5⟩|⟨e1,e2,e3,e4,e5⟩|⟨e1,e2,e3,e5⟩|⟨e1,e2,e3,e5⟩
  ·rw[e5]at hkl;cases k with
   | cons=>simp[Fo.len]at hkl
   | nil=>
    dsimp only at e1 e3 e4;subst e1;exact v7k ht m e3 e4 tx
  ·rw[e5]at hkl;cases k with
   | cons=>simp[Fo.len]at hkl
   | nil=>
    dsimp only at e1 e2;subst e1;have h8:=q2e e2;rw[q0b]at h8;exact j9s tx (by omega) m
  ·rw[e5]at hkl;dsimp only at e1 e2 e3 e4 hkl;subst e1
   have:m=(k.len:Int):=by omega
   subst this;have h8:=q2e e2;rw[q0b]at h8;exact j9q tx (by omega) hk hsum (by omega)
  ·rw[e5]at hkl;dsimp only at e1 e3 e4 hkl;subst e1
   have:m=(k.len:Int):=by omega
   subst this;exact j9r tx hk hsum (by omega)
  all_goals
   rw[e5]at hkl;dsimp only at e1;subst e1;cases k with
   | nil=>simp[Fo.len]at hkl
   | cons y ky r=>
    cases r with
    | nil=>simp[Fo.len]at hkl
    | cons z kz r2=>
     cases r2 with
     | cons=>simp[Fo.len]at hkl
     | nil=>
      have q1:=(j1r y ky (.cons z kz .nil)).2;have q2:=(j1r z kz .nil).2;have q3:(Fo.cons z kz .nil).N.length<=(Fo.cons y ky (.cons z kz .nil)).N.length:=by simp only[Fo.N,List.length_cons,List.length_append];omega
      first
       | exact v7l tx m hk.1 hk.2.1 (by omega) (by omega)
       | exact v7j tx m hk.1 hk.2.1 (by omega) (by omega)
end Go.Proofs.YthcpdohdppkmkaaGreatDoor
