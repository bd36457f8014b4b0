/- Texts as one: LayU. -/
import Derived.Test.YthjapabokcajhaaGreatDoorPf34
namespace Go.Proofs.YthjapabokcajhaaGreatDoor
open Go Go.RowKit
set_option maxRecDepth 100000
set_option maxHeartbeats 8000000
abbrev Sev(W:World)(N:Nat)(w:World):Prop:=Six W w/\w.cell? ⟨W.heap.size,2,none⟩=some (.int .i64 ((N:Nat):Int))
theorem q0n.sev{W:World}{o:Int}{t:ByteArray}{N:Nat}{w:World}(h:q0n W ⟨o,t,((N:Nat):Int)⟩ w):Sev W N w:=⟨h.six,h.n.2.2.2⟩
theorem j7z(t:ByteArray)(c:UInt8):t++(⟨#[c]⟩:ByteArray)=wbS (btL t++[c]):=by
 have e:wbS (btL t)++wbS [c]=wbS (btL t++[c]):=q1q _ _;exact e
theorem z4t(op cl:List UInt8):(q1d op cl []).nodes=[⟨1,wbS (op++cl),0⟩]:=rfl
theorem z4s{op cl:List UInt8}{ps:List (Td × Tr)}(h:ps.length≠0):(q1d op cl ps).nodes=⟨8,⟨#[]⟩,0⟩::(⟨6,⟨#[]⟩,0⟩::([⟨1,wbS op,0⟩]++(⟨6,⟨#[]⟩,0⟩::((⟨7,⟨#[]⟩,2⟩::(⟨6,⟨#[]⟩,0⟩::([⟨3,⟨#[]⟩,0⟩]++(kdD ps).nodes)))++(⟨6,⟨#[]⟩,0⟩::([⟨3,⟨#[]⟩,0⟩]++[⟨1,wbS cl,0⟩])))))):=by
 rw[q1d,if_neg h];rfl
theorem k3h{ds:List Td}{a:Option Addr}{cap i N:Nat}{xt:ByteArray}(hl:ds.length<=40)(hi:i<ds.length)(hN6:N<=6)(hx8:xt.size<=8)(W:World)(hN:Tds W a ds)(he:ds[i]=⟨3,xt,((N:Nat):Int)⟩)(ks:List Nd)(hkl:ks.length<=900)
  (hK:N≠0->∀W':World,Below W.heap.size W W'->Calls Tryz.prog 62 #[.slice a ds.length cap,.int .i64 ((i:Int)+1),.int .i64 ((N:Nat):Int)] W' fun e w'=>NdR W' ks e w'):
  Calls Tryz.prog 26 #[.slice a ds.length cap,.int .i64 (i:Int)] W fun e w'=>NdR W (if N=0 then [⟨1,(xt++(⟨#[40]⟩:ByteArray))++(⟨#[41]⟩:ByteArray),0⟩]else⟨8,⟨#[]⟩,0⟩::(⟨6,⟨#[]⟩,0⟩::([⟨1,xt++(⟨#[40]⟩:ByteArray),0⟩]++(⟨6,⟨#[]⟩,0⟩::((⟨7,⟨#[]⟩,2⟩::(⟨6,⟨#[]⟩,0⟩::([⟨3,⟨#[]⟩,0⟩]++ks)))++(⟨6,⟨#[]⟩,0⟩::([⟨3,⟨#[]⟩,0⟩]++[⟨1,(⟨#[41]⟩:ByteArray),0⟩]))))))) e w':=by
 obtain⟨b,o,rfl,hb,c1,c2,c3⟩:=hN i hi;have hii:(i:Int)<(ds.length:Int):=by omega
 rw[he]at c1 c2 c3;simp only at c1 c2 c3;have HPR:Hid (q0n W ⟨3,xt,((N:Nat):Int)⟩ (dcW W 3 xt ((N:Nat):Int))):=z0r W ⟨3,xt,((N:Nat):Int)⟩;have hsz:(xt++(⟨#[40]⟩:ByteArray)).size=xt.size+1:=by rw[ByteArray.size_append];rfl
 have g1:¬(9223372036854775807:Int)<(xt.size:Int)+1:=by omega
 have g2:¬(9223372036854775807:Int)<(xt.size:Int)+1+1:=by omega
 have hwr:IntKind.i64.wrap ((i:Int)+1)=(i:Int)+1:=by rw[IntKind.wrap_i64];omega
 have HKK:Hid (N≠0->∀W':World,Below W.heap.size W W'->Calls Tryz.prog 62 #[.slice (some ⟨b,o,none⟩) ds.length cap,.int .i64 ((i:Int)+1),.int .i64 ((N:Nat):Int)] W' fun e w'=>NdR W' ks e w'):=hK;clear hN he hK;by_cases h0:N=0
 ·subst h0;rw[if_pos rfl];go_in;go_wp2_with fail;refine(q0q _ _).mono ?_;rintro e w3 h3;have HR:Hid (NdR W [⟨1,(xt++(⟨#[40]⟩:ByteArray))++(⟨#[41]⟩:ByteArray),0⟩] e w3):=h3.from HPR.out.b;obtain⟨v3,rfl,_,_⟩:=h3.val;clear h3;go_wp2;go_ret;exact HR.out
 ·rw[if_neg h0];have h0b:(((N:Nat):Int)==0)=false:=beq_false_of_ne (by omega);have h0i:¬((N:Nat):Int)=0:=by omega
  have HKS:Hid (∀W':World,Below W.heap.size W W'->Calls Tryz.prog 62 #[.slice (some ⟨b,o,none⟩) ds.length cap,.int .i64 ((i:Int)+1),.int .i64 ((N:Nat):Int)] W' fun e w'=>NdR W' ks e w'):=HKK.out h0;clear HKK h0;go_in;go_wp2_with fail;generalize hw3:((((W.alloc (.cells #[.int .i64 3,.string xt,.int .i64 ((N:Nat):Int)] 47)).alloc (.cells #[.int .i64 2,.string ⟨#[]⟩,.int .i64 0] 107)).alloc (.cells #[.int .i64 3,.string ⟨#[]⟩,.int .i64 0] 107)).alloc (.cells #[.int .i64 8,.string ⟨#[]⟩,.int .i64 0] 107)).alloc (.cells #[.int .i64 7,.string ⟨#[]⟩,.int .i64 2] 107)=w3
  have HP3:Hid (q0n W ⟨3,xt,((N:Nat):Int)⟩ w3):=by
   show q0n _ _ _;rw[<-hw3];exact HPR.out
  have SK3:Hid (Sev W N w3):=HP3.out.sev;have SKD:Hid (Sev W N w3.drew):=HP3.out.sev;have HD0:Hid (Below w3.heap.size w3 w3.drew):=(Below.refl _ _).drew;have HB0:Hid (Below W.heap.size W w3.drew):=HP3.out.b.drew;clear hw3 HPR c1 c2 c3
  go_region_held3 (fun w'=>Sev W N w') (first|with_reducible exact SKD.out|with_reducible exact SK3.out|with_reducible exact SK4.out|with_reducible exact SK5.out|with_reducible exact SK6.out)
   (first
     | (go_at_call 60;refine((q1k ⟨7,⟨#[]⟩,2⟩ (w5) HC5.out (by simp<;>omega))).mono ?_;rintro e w6 h6;obtain⟨v6,rfl,n6,b6⟩:=h6.val;have HP6:Hid (q0n W ⟨3,xt,((N:Nat):Int)⟩ w6):=HP5.out.below b6;have SK6:Hid (Sev W N w6):=HP6.out.sev;have HI6:Hid (NdV w6 v6 (⟨7,⟨#[]⟩,2⟩::(⟨6,⟨#[]⟩,0⟩::([⟨3,⟨#[]⟩,0⟩]++ks)))):=n6;clear h6 n6 b6)
     | (go_at_call 61;refine((q0m (w4) HP4.out.sf HK4.out (by simp<;>omega))).mono ?_;rintro e w5 h5;obtain⟨v5,rfl,n5,b5⟩:=h5.val;have HP5:Hid (q0n W ⟨3,xt,((N:Nat):Int)⟩ w5):=HP4.out.below b5;have SK5:Hid (Sev W N w5):=HP5.out.sev;have HC5:Hid (NdV w5 v5 (⟨6,⟨#[]⟩,0⟩::([⟨3,⟨#[]⟩,0⟩]++ks))):=n5;clear h5 n5 b5)
     | (go_at_call 62;refine((HKS.out (w3.drew) HB0.out).mono fun _ _ h=>h.from HD0.out).mono ?_;rintro e w4 h4;obtain⟨v4,rfl,n4,b4⟩:=h4.val;have HP4:Hid (q0n W ⟨3,xt,((N:Nat):Int)⟩ w4):=HP3.out.below b4;have SK4:Hid (Sev W N w4):=HP4.out.sev;have HK4:Hid (NdV w4 v4 (ks)):=n4;clear h4 n4 b4))
  all_goals
   clear SKD HD0 HB0;have SKD:Hid (Sev W N w6.drew):=HP6.out.sev;have HD0:Hid (Below w6.heap.size w6 w6.drew):=(Below.refl _ _).drew;clear HKS SK3 SK4 SK5 HP3 HP4 HP5;go_wp2_with fail
   go_region_held3 (fun w'=>Sev W N w') (first|with_reducible exact SKD.out|with_reducible exact SK6.out|with_reducible exact SK7.out|with_reducible exact SK8.out|with_reducible exact SK9.out|with_reducible exact SK10.out|with_reducible exact SK11.out|with_reducible exact SK12.out)
    (first
     | (go_at_call 60;refine((q1k ⟨8,⟨#[]⟩,0⟩ (w11) HJ11.out (by simp<;>omega))).mono ?_;rintro e w12 h12;have HR9:Hid (NdR W (⟨8,⟨#[]⟩,0⟩::(⟨6,⟨#[]⟩,0⟩::([⟨1,xt++(⟨#[40]⟩:ByteArray),0⟩]++(⟨6,⟨#[]⟩,0⟩::((⟨7,⟨#[]⟩,2⟩::(⟨6,⟨#[]⟩,0⟩::([⟨3,⟨#[]⟩,0⟩]++ks)))++(⟨6,⟨#[]⟩,0⟩::([⟨3,⟨#[]⟩,0⟩]++[⟨1,(⟨#[41]⟩:ByteArray),0⟩]))))))) e w12):=h12.from HP11.out.b;obtain⟨v12,rfl,n12,b12⟩:=h12.val;have HP12:Hid (q0n W ⟨3,xt,((N:Nat):Int)⟩ w12):=HP11.out.below b12;have SK12:Hid (Sev W N w12):=HP12.out.sev;clear h12 n12 b12)
     | (go_at_call 61;refine((q0m (w10) HO10.out HG10.out (by simp<;>omega))).mono ?_;rintro e w11 h11;obtain⟨v11,rfl,n11,b11⟩:=h11.val;have HP11:Hid (q0n W ⟨3,xt,((N:Nat):Int)⟩ w11):=HP10.out.below b11;have SK11:Hid (Sev W N w11):=HP11.out.sev;have HJ11:Hid (NdV w11 v11 (⟨6,⟨#[]⟩,0⟩::([⟨1,xt++(⟨#[40]⟩:ByteArray),0⟩]++(⟨6,⟨#[]⟩,0⟩::((⟨7,⟨#[]⟩,2⟩::(⟨6,⟨#[]⟩,0⟩::([⟨3,⟨#[]⟩,0⟩]++ks)))++(⟨6,⟨#[]⟩,0⟩::([⟨3,⟨#[]⟩,0⟩]++[⟨1,(⟨#[41]⟩:ByteArray),0⟩]))))))):=n11;clear h11 n11 b11)
     | (go_at_call 61;refine((q0m (w9) HI9.out HF9.out (by simp<;>omega))).mono ?_;rintro e w10 h10;obtain⟨v10,rfl,n10,b10⟩:=h10.val;have HP10:Hid (q0n W ⟨3,xt,((N:Nat):Int)⟩ w10):=HP9.out.below b10;have SK10:Hid (Sev W N w10):=HP10.out.sev;have HO10:Hid (NdV w10 v7 ([⟨1,xt++(⟨#[40]⟩:ByteArray),0⟩])):=HO9.out.below b10;have HG10:Hid (NdV w10 v10 (⟨6,⟨#[]⟩,0⟩::((⟨7,⟨#[]⟩,2⟩::(⟨6,⟨#[]⟩,0⟩::([⟨3,⟨#[]⟩,0⟩]++ks)))++(⟨6,⟨#[]⟩,0⟩::([⟨3,⟨#[]⟩,0⟩]++[⟨1,(⟨#[41]⟩:ByteArray),0⟩]))))):=n10;clear h10 n10 b10)
     | (go_at_call 61;refine((q0m (w8) HP8.out.sf HE8.out (by simp<;>omega))).mono ?_;rintro e w9 h9;obtain⟨v9,rfl,n9,b9⟩:=h9.val;have HP9:Hid (q0n W ⟨3,xt,((N:Nat):Int)⟩ w9):=HP8.out.below b9;have SK9:Hid (Sev W N w9):=HP9.out.sev;have HI9:Hid (NdV w9 v6 (⟨7,⟨#[]⟩,2⟩::(⟨6,⟨#[]⟩,0⟩::([⟨3,⟨#[]⟩,0⟩]++ks)))):=HI8.out.below b9;have HO9:Hid (NdV w9 v7 ([⟨1,xt++(⟨#[40]⟩:ByteArray),0⟩])):=HO8.out.below b9;have HF9:Hid (NdV w9 v9 (⟨6,⟨#[]⟩,0⟩::([⟨3,⟨#[]⟩,0⟩]++[⟨1,(⟨#[41]⟩:ByteArray),0⟩]))):=n9;clear h9 n9 b9)
     | (go_at_call 57;refine((q0q _ (w7))).mono ?_;rintro e w8 h8;obtain⟨v8,rfl,n8,b8⟩:=h8.val;have HP8:Hid (q0n W ⟨3,xt,((N:Nat):Int)⟩ w8):=HP7.out.below b8;have SK8:Hid (Sev W N w8):=HP8.out.sev;have HI8:Hid (NdV w8 v6 (⟨7,⟨#[]⟩,2⟩::(⟨6,⟨#[]⟩,0⟩::([⟨3,⟨#[]⟩,0⟩]++ks)))):=HI7.out.below b8;have HO8:Hid (NdV w8 v7 ([⟨1,xt++(⟨#[40]⟩:ByteArray),0⟩])):=HO7.out.below b8;have HE8:Hid (NdV w8 v8 ([⟨1,(⟨#[41]⟩:ByteArray),0⟩])):=n8;clear h8 n8 b8)
     | (go_at_call 57;refine((q0q _ (w6.drew)).mono fun _ _ h=>h.from HD0.out).mono ?_;rintro e w7 h7;obtain⟨v7,rfl,n7,b7⟩:=h7.val;have HP7:Hid (q0n W ⟨3,xt,((N:Nat):Int)⟩ w7):=HP6.out.below b7;have SK7:Hid (Sev W N w7):=HP7.out.sev;have HI7:Hid (NdV w7 v6 (⟨7,⟨#[]⟩,2⟩::(⟨6,⟨#[]⟩,0⟩::([⟨3,⟨#[]⟩,0⟩]++ks)))):=HI6.out.below b7;have HO7:Hid (NdV w7 v7 ([⟨1,xt++(⟨#[40]⟩:ByteArray),0⟩])):=n7;clear h7 n7 b7))
   all_goals
    go_wp2;go_ret;exact HR9.out
theorem k3i{ds:List Td}{a:Option Addr}{cap i N:Nat}{xt:ByteArray}(hl:ds.length<=40)(hi:i<ds.length)(hN6:N<=6)(hx8:xt.size<=8)(W:World)(hN:Tds W a ds)(he:ds[i]=⟨4,⟨#[]⟩,((N:Nat):Int)⟩)(ks:List Nd)(hkl:ks.length<=900)
  (hK:N≠0->∀W':World,Below W.heap.size W W'->Calls Tryz.prog 62 #[.slice a ds.length cap,.int .i64 ((i:Int)+1),.int .i64 ((N:Nat):Int)] W' fun e w'=>NdR W' ks e w'):
  Calls Tryz.prog 26 #[.slice a ds.length cap,.int .i64 (i:Int)] W fun e w'=>NdR W (if N=0 then [⟨1,((⟨#[91]⟩:ByteArray))++(⟨#[93]⟩:ByteArray),0⟩]else⟨8,⟨#[]⟩,0⟩::(⟨6,⟨#[]⟩,0⟩::([⟨1,(⟨#[91]⟩:ByteArray),0⟩]++(⟨6,⟨#[]⟩,0⟩::((⟨7,⟨#[]⟩,2⟩::(⟨6,⟨#[]⟩,0⟩::([⟨3,⟨#[]⟩,0⟩]++ks)))++(⟨6,⟨#[]⟩,0⟩::([⟨3,⟨#[]⟩,0⟩]++[⟨1,(⟨#[93]⟩:ByteArray),0⟩]))))))) e w':=by
 obtain⟨b,o,rfl,hb,c1,c2,c3⟩:=hN i hi;have hii:(i:Int)<(ds.length:Int):=by omega
 rw[he]at c1 c2 c3;simp only at c1 c2 c3;have HPR:Hid (q0n W ⟨4,⟨#[]⟩,((N:Nat):Int)⟩ (dcW W 4 ⟨#[]⟩ ((N:Nat):Int))):=z0r W ⟨4,⟨#[]⟩,((N:Nat):Int)⟩;have hsz:(xt++(⟨#[40]⟩:ByteArray)).size=xt.size+1:=by rw[ByteArray.size_append];rfl
 have g1:¬(9223372036854775807:Int)<(xt.size:Int)+1:=by omega
 have g2:¬(9223372036854775807:Int)<(xt.size:Int)+1+1:=by omega
 have hwr:IntKind.i64.wrap ((i:Int)+1)=(i:Int)+1:=by rw[IntKind.wrap_i64];omega
 have HKK:Hid (N≠0->∀W':World,Below W.heap.size W W'->Calls Tryz.prog 62 #[.slice (some ⟨b,o,none⟩) ds.length cap,.int .i64 ((i:Int)+1),.int .i64 ((N:Nat):Int)] W' fun e w'=>NdR W' ks e w'):=hK;clear hN he hK;by_cases h0:N=0
 ·subst h0;rw[if_pos rfl];go_in;go_wp2_with fail;refine(q0q _ _).mono ?_;rintro e w3 h3;have HR:Hid (NdR W [⟨1,((⟨#[91]⟩:ByteArray))++(⟨#[93]⟩:ByteArray),0⟩] e w3):=h3.from HPR.out.b;obtain⟨v3,rfl,_,_⟩:=h3.val;clear h3;go_wp2;go_ret;exact HR.out
 ·rw[if_neg h0];have h0b:(((N:Nat):Int)==0)=false:=beq_false_of_ne (by omega);have h0i:¬((N:Nat):Int)=0:=by omega
  have HKS:Hid (∀W':World,Below W.heap.size W W'->Calls Tryz.prog 62 #[.slice (some ⟨b,o,none⟩) ds.length cap,.int .i64 ((i:Int)+1),.int .i64 ((N:Nat):Int)] W' fun e w'=>NdR W' ks e w'):=HKK.out h0;clear HKK h0;go_in;go_wp2_with fail;generalize hw3:((((W.alloc (.cells #[.int .i64 4,.string ⟨#[]⟩,.int .i64 ((N:Nat):Int)] 47)).alloc (.cells #[.int .i64 2,.string ⟨#[]⟩,.int .i64 0] 107)).alloc (.cells #[.int .i64 3,.string ⟨#[]⟩,.int .i64 0] 107)).alloc (.cells #[.int .i64 8,.string ⟨#[]⟩,.int .i64 0] 107)).alloc (.cells #[.int .i64 7,.string ⟨#[]⟩,.int .i64 2] 107)=w3
  have HP3:Hid (q0n W ⟨4,⟨#[]⟩,((N:Nat):Int)⟩ w3):=by
   show q0n _ _ _;rw[<-hw3];exact HPR.out
  have SK3:Hid (Sev W N w3):=HP3.out.sev;have SKD:Hid (Sev W N w3.drew):=HP3.out.sev;have HD0:Hid (Below w3.heap.size w3 w3.drew):=(Below.refl _ _).drew;have HB0:Hid (Below W.heap.size W w3.drew):=HP3.out.b.drew;clear hw3 HPR c1 c2 c3
  go_region_held3 (fun w'=>Sev W N w') (first|with_reducible exact SKD.out|with_reducible exact SK3.out|with_reducible exact SK4.out|with_reducible exact SK5.out|with_reducible exact SK6.out)
   (first
     | (go_at_call 60;refine((q1k ⟨7,⟨#[]⟩,2⟩ (w5) HC5.out (by simp<;>omega))).mono ?_;rintro e w6 h6;obtain⟨v6,rfl,n6,b6⟩:=h6.val;have HP6:Hid (q0n W ⟨4,⟨#[]⟩,((N:Nat):Int)⟩ w6):=HP5.out.below b6;have SK6:Hid (Sev W N w6):=HP6.out.sev;have HI6:Hid (NdV w6 v6 (⟨7,⟨#[]⟩,2⟩::(⟨6,⟨#[]⟩,0⟩::([⟨3,⟨#[]⟩,0⟩]++ks)))):=n6;clear h6 n6 b6)
     | (go_at_call 61;refine((q0m (w4) HP4.out.sf HK4.out (by simp<;>omega))).mono ?_;rintro e w5 h5;obtain⟨v5,rfl,n5,b5⟩:=h5.val;have HP5:Hid (q0n W ⟨4,⟨#[]⟩,((N:Nat):Int)⟩ w5):=HP4.out.below b5;have SK5:Hid (Sev W N w5):=HP5.out.sev;have HC5:Hid (NdV w5 v5 (⟨6,⟨#[]⟩,0⟩::([⟨3,⟨#[]⟩,0⟩]++ks))):=n5;clear h5 n5 b5)
     | (go_at_call 62;refine((HKS.out (w3.drew) HB0.out).mono fun _ _ h=>h.from HD0.out).mono ?_;rintro e w4 h4;obtain⟨v4,rfl,n4,b4⟩:=h4.val;have HP4:Hid (q0n W ⟨4,⟨#[]⟩,((N:Nat):Int)⟩ w4):=HP3.out.below b4;have SK4:Hid (Sev W N w4):=HP4.out.sev;have HK4:Hid (NdV w4 v4 (ks)):=n4;clear h4 n4 b4))
  all_goals
   clear SKD HD0 HB0;have SKD:Hid (Sev W N w6.drew):=HP6.out.sev;have HD0:Hid (Below w6.heap.size w6 w6.drew):=(Below.refl _ _).drew;clear HKS SK3 SK4 SK5 HP3 HP4 HP5;go_wp2_with fail
   go_region_held3 (fun w'=>Sev W N w') (first|with_reducible exact SKD.out|with_reducible exact SK6.out|with_reducible exact SK7.out|with_reducible exact SK8.out|with_reducible exact SK9.out|with_reducible exact SK10.out|with_reducible exact SK11.out|with_reducible exact SK12.out)
    (first
     | (go_at_call 60;refine((q1k ⟨8,⟨#[]⟩,0⟩ (w11) HJ11.out (by simp<;>omega))).mono ?_;rintro e w12 h12;have HR9:Hid (NdR W (⟨8,⟨#[]⟩,0⟩::(⟨6,⟨#[]⟩,0⟩::([⟨1,(⟨#[91]⟩:ByteArray),0⟩]++(⟨6,⟨#[]⟩,0⟩::((⟨7,⟨#[]⟩,2⟩::(⟨6,⟨#[]⟩,0⟩::([⟨3,⟨#[]⟩,0⟩]++ks)))++(⟨6,⟨#[]⟩,0⟩::([⟨3,⟨#[]⟩,0⟩]++[⟨1,(⟨#[93]⟩:ByteArray),0⟩]))))))) e w12):=h12.from HP11.out.b;obtain⟨v12,rfl,n12,b12⟩:=h12.val;have HP12:Hid (q0n W ⟨4,⟨#[]⟩,((N:Nat):Int)⟩ w12):=HP11.out.below b12;have SK12:Hid (Sev W N w12):=HP12.out.sev;clear h12 n12 b12)
     | (go_at_call 61;refine((q0m (w10) HO10.out HG10.out (by simp<;>omega))).mono ?_;rintro e w11 h11;obtain⟨v11,rfl,n11,b11⟩:=h11.val;have HP11:Hid (q0n W ⟨4,⟨#[]⟩,((N:Nat):Int)⟩ w11):=HP10.out.below b11;have SK11:Hid (Sev W N w11):=HP11.out.sev;have HJ11:Hid (NdV w11 v11 (⟨6,⟨#[]⟩,0⟩::([⟨1,(⟨#[91]⟩:ByteArray),0⟩]++(⟨6,⟨#[]⟩,0⟩::((⟨7,⟨#[]⟩,2⟩::(⟨6,⟨#[]⟩,0⟩::([⟨3,⟨#[]⟩,0⟩]++ks)))++(⟨6,⟨#[]⟩,0⟩::([⟨3,⟨#[]⟩,0⟩]++[⟨1,(⟨#[93]⟩:ByteArray),0⟩]))))))):=n11;clear h11 n11 b11)
     | (go_at_call 61;refine((q0m (w9) HI9.out HF9.out (by simp<;>omega))).mono ?_;rintro e w10 h10;obtain⟨v10,rfl,n10,b10⟩:=h10.val;have HP10:Hid (q0n W ⟨4,⟨#[]⟩,((N:Nat):Int)⟩ w10):=HP9.out.below b10;have SK10:Hid (Sev W N w10):=HP10.out.sev;have HO10:Hid (NdV w10 v7 ([⟨1,(⟨#[91]⟩:ByteArray),0⟩])):=HO9.out.below b10;have HG10:Hid (NdV w10 v10 (⟨6,⟨#[]⟩,0⟩::((⟨7,⟨#[]⟩,2⟩::(⟨6,⟨#[]⟩,0⟩::([⟨3,⟨#[]⟩,0⟩]++ks)))++(⟨6,⟨#[]⟩,0⟩::([⟨3,⟨#[]⟩,0⟩]++[⟨1,(⟨#[93]⟩:ByteArray),0⟩]))))):=n10;clear h10 n10 b10)
     | (go_at_call 61;refine((q0m (w8) HP8.out.sf HE8.out (by simp<;>omega))).mono ?_;rintro e w9 h9;obtain⟨v9,rfl,n9,b9⟩:=h9.val;have HP9:Hid (q0n W ⟨4,⟨#[]⟩,((N:Nat):Int)⟩ w9):=HP8.out.below b9;have SK9:Hid (Sev W N w9):=HP9.out.sev;have HI9:Hid (NdV w9 v6 (⟨7,⟨#[]⟩,2⟩::(⟨6,⟨#[]⟩,0⟩::([⟨3,⟨#[]⟩,0⟩]++ks)))):=HI8.out.below b9;have HO9:Hid (NdV w9 v7 ([⟨1,(⟨#[91]⟩:ByteArray),0⟩])):=HO8.out.below b9;have HF9:Hid (NdV w9 v9 (⟨6,⟨#[]⟩,0⟩::([⟨3,⟨#[]⟩,0⟩]++[⟨1,(⟨#[93]⟩:ByteArray),0⟩]))):=n9;clear h9 n9 b9)
     | (go_at_call 57;refine((q0q _ (w7))).mono ?_;rintro e w8 h8;obtain⟨v8,rfl,n8,b8⟩:=h8.val;have HP8:Hid (q0n W ⟨4,⟨#[]⟩,((N:Nat):Int)⟩ w8):=HP7.out.below b8;have SK8:Hid (Sev W N w8):=HP8.out.sev;have HI8:Hid (NdV w8 v6 (⟨7,⟨#[]⟩,2⟩::(⟨6,⟨#[]⟩,0⟩::([⟨3,⟨#[]⟩,0⟩]++ks)))):=HI7.out.below b8;have HO8:Hid (NdV w8 v7 ([⟨1,(⟨#[91]⟩:ByteArray),0⟩])):=HO7.out.below b8;have HE8:Hid (NdV w8 v8 ([⟨1,(⟨#[93]⟩:ByteArray),0⟩])):=n8;clear h8 n8 b8)
     | (go_at_call 57;refine((q0q _ (w6.drew)).mono fun _ _ h=>h.from HD0.out).mono ?_;rintro e w7 h7;obtain⟨v7,rfl,n7,b7⟩:=h7.val;have HP7:Hid (q0n W ⟨4,⟨#[]⟩,((N:Nat):Int)⟩ w7):=HP6.out.below b7;have SK7:Hid (Sev W N w7):=HP7.out.sev;have HI7:Hid (NdV w7 v6 (⟨7,⟨#[]⟩,2⟩::(⟨6,⟨#[]⟩,0⟩::([⟨3,⟨#[]⟩,0⟩]++ks)))):=HI6.out.below b7;have HO7:Hid (NdV w7 v7 ([⟨1,(⟨#[91]⟩:ByteArray),0⟩])):=n7;clear h7 n7 b7))
   all_goals
    go_wp2;go_ret;exact HR9.out
end Go.Proofs.YthjapabokcajhaaGreatDoor
