/- Texts as one: LayU, LayV, LyS. -/
import Derived.Test.YthjapabokcajhaaGreatDoorPi27
import Derived.Lib.AppendZerosOnto
import Derived.Lib.SliceRun
open Go.Proofs.Tryz
namespace Go.Proofs.YthjapabokcajhaaGreatDoor
open Go Go.RowKit
set_option maxRecDepth 100000
set_option maxHeartbeats 8000000
abbrev Sev(W:World)(N:Nat)(w:World):Prop:=Six W w/\w.cell? ⟨W.heap.size,2,none⟩=some (.int .i64 ((N:Nat):Int))
theorem q0y.sev{W:World}{o:Int}{t:ByteArray}{N:Nat}{w:World}(h:q0y W ⟨o,t,((N:Nat):Int)⟩ w):Sev W N w:=⟨h.six,h.n.2.2.2⟩
theorem y2k(t:ByteArray)(c:UInt8):t++(⟨#[c]⟩:ByteArray)=wbS (btL t++[c]):=by
 have e:wbS (btL t)++wbS [c]=wbS (btL t++[c]):=q1t _ _;exact e
theorem k1r(op cl:List UInt8):(q2p op cl []).nodes=[⟨1,wbS (op++cl),0⟩]:=rfl
theorem k1q{op cl:List UInt8}{ps:List (Td × Tr)}(h:ps.length≠0):(q2p op cl ps).nodes=⟨8,⟨#[]⟩,0⟩::(⟨6,⟨#[]⟩,0⟩::([⟨1,wbS op,0⟩]++(⟨6,⟨#[]⟩,0⟩::((⟨7,⟨#[]⟩,2⟩::(⟨6,⟨#[]⟩,0⟩::([⟨3,⟨#[]⟩,0⟩]++(kdD ps).nodes)))++(⟨6,⟨#[]⟩,0⟩::([⟨3,⟨#[]⟩,0⟩]++[⟨1,wbS cl,0⟩])))))):=by
 rw[q2p,if_neg h];rfl
theorem j3g{ds:List Td}{a:Option Addr}{cap i N:Nat}{xt:ByteArray}(hl:ds.length<=40)(hi:i<ds.length)(hN6:N<=6)(hx8:xt.size<=8)(W:World)(hN:Tds W a ds)(he:ds[i]=⟨3,xt,((N:Nat):Int)⟩)(ks:List Nd)(hkl:ks.length<=900)
  (hK:N≠0->∀W':World,Below W W W'->Calls prog 62 #[.slice a ds.length cap,.int .i64 ((i:Int)+1),.int .i64 ((N:Nat):Int)] W' fun e w'=>NdR W' ks e w'):
  Calls prog 26 #[.slice a ds.length cap,.int .i64 (i:Int)] W fun e w'=>NdR W (if N=0 then [⟨1,(xt++(⟨#[40]⟩:ByteArray))++(⟨#[41]⟩:ByteArray),0⟩]else⟨8,⟨#[]⟩,0⟩::(⟨6,⟨#[]⟩,0⟩::([⟨1,xt++(⟨#[40]⟩:ByteArray),0⟩]++(⟨6,⟨#[]⟩,0⟩::((⟨7,⟨#[]⟩,2⟩::(⟨6,⟨#[]⟩,0⟩::([⟨3,⟨#[]⟩,0⟩]++ks)))++(⟨6,⟨#[]⟩,0⟩::([⟨3,⟨#[]⟩,0⟩]++[⟨1,(⟨#[41]⟩:ByteArray),0⟩]))))))) e w':=by
 obtain⟨b,o,rfl,hb,c1,c2,c3⟩:=hN i hi;have hii:(i:Int)<(ds.length:Int):=by omega
 rw[he]at c1 c2 c3;simp only at c1 c2 c3;have HPR:Hid (q0y W ⟨3,xt,((N:Nat):Int)⟩ (dcW W 3 xt ((N:Nat):Int))):=z6f W ⟨3,xt,((N:Nat):Int)⟩;have hsz:(xt++(⟨#[40]⟩:ByteArray)).size=xt.size+1:=by rw[ByteArray.size_append];rfl
 have g1:¬(9223372036854775807:Int)<(xt.size:Int)+1:=by omega
 have g2:¬(9223372036854775807:Int)<(xt.size:Int)+1+1:=by omega
 have hwr:IntKind.i64.wrap ((i:Int)+1)=(i:Int)+1:=by rw[IntKind.wrap_i64];omega
 have HKK:Hid (N≠0->∀W':World,Below W W W'->Calls prog 62 #[.slice (some ⟨b,o,none⟩) ds.length cap,.int .i64 ((i:Int)+1),.int .i64 ((N:Nat):Int)] W' fun e w'=>NdR W' ks e w'):=hK;clear hN he hK;by_cases h0:N=0
 ·subst h0;rw[if_pos rfl];go_in;go_wp2_with fail;refine(q1b _ _).mono ?_;rintro e w3 h3;have HR:Hid (NdR W [⟨1,(xt++(⟨#[40]⟩:ByteArray))++(⟨#[41]⟩:ByteArray),0⟩] e w3):=h3.from HPR.o.b;obtain⟨v3,rfl,_,_⟩:=h3.val;clear h3;go_wp2;go_ret;exact HR.o
 ·rw[if_neg h0];have h0b:(((N:Nat):Int)==0)=false:=beq_false_of_ne (by omega);have h0i:¬((N:Nat):Int)=0:=by omega
  have HKS:Hid (∀W':World,Below W W W'->Calls prog 62 #[.slice (some ⟨b,o,none⟩) ds.length cap,.int .i64 ((i:Int)+1),.int .i64 ((N:Nat):Int)] W' fun e w'=>NdR W' ks e w'):=HKK.o h0;clear HKK h0;go_in;go_wp2_with fail;generalize hw3:((((W.alloc (.cells #[.int .i64 3,.string xt,.int .i64 ((N:Nat):Int)] 47)).alloc (.cells #[.int .i64 2,.string ⟨#[]⟩,.int .i64 0] 107)).alloc (.cells #[.int .i64 3,.string ⟨#[]⟩,.int .i64 0] 107)).alloc (.cells #[.int .i64 8,.string ⟨#[]⟩,.int .i64 0] 107)).alloc (.cells #[.int .i64 7,.string ⟨#[]⟩,.int .i64 2] 107)=w3
  have HP3:Hid (q0y W ⟨3,xt,((N:Nat):Int)⟩ w3):=by
   show q0y _ _ _;rw[<-hw3];exact HPR.o
  have SK3:Hid (Sev W N w3):=HP3.o.sev;have SKD:Hid (Sev W N w3.drew):=HP3.o.sev;have HD0:Hid (Below w3 w3 w3.drew):= Zb.drew;have HB0:Hid (Below W W w3.drew):=HP3.o.b.drew;clear hw3 HPR c1 c2 c3
  go_region_held3 (fun w'=>Sev W N w') (first|with_reducible exact SKD.o|with_reducible exact SK3.o|with_reducible exact SK4.o|with_reducible exact SK5.o|with_reducible exact SK6.o)
   (first
     | (go_at_call 60;refine((q2g ⟨7,⟨#[]⟩,2⟩ (w5) HC5.o (by simp<;>omega))).mono ?_;rintro e w6 h6;obtain⟨v6,rfl,n6,b6⟩:=h6.val;have HP6:Hid (q0y W ⟨3,xt,((N:Nat):Int)⟩ w6):=HP5.o.below b6;have SK6:Hid (Sev W N w6):=HP6.o.sev;have HI6:Hid (NdV w6 v6 (⟨7,⟨#[]⟩,2⟩::(⟨6,⟨#[]⟩,0⟩::([⟨3,⟨#[]⟩,0⟩]++ks)))):=n6;clear h6 n6 b6)
     | (go_at_call 61;refine((q0p (w4) HP4.o.sf HK4.o (by simp<;>omega))).mono ?_;rintro e w5 h5;obtain⟨v5,rfl,n5,b5⟩:=h5.val;have HP5:Hid (q0y W ⟨3,xt,((N:Nat):Int)⟩ w5):=HP4.o.below b5;have SK5:Hid (Sev W N w5):=HP5.o.sev;have HC5:Hid (NdV w5 v5 (⟨6,⟨#[]⟩,0⟩::([⟨3,⟨#[]⟩,0⟩]++ks))):=n5;clear h5 n5 b5)
     | (go_at_call 62;refine((HKS.o (w3.drew) HB0.o).mono fun _ _ h=>h.from HD0.o).mono ?_;rintro e w4 h4;obtain⟨v4,rfl,n4,b4⟩:=h4.val;have HP4:Hid (q0y W ⟨3,xt,((N:Nat):Int)⟩ w4):=HP3.o.below b4;have SK4:Hid (Sev W N w4):=HP4.o.sev;have HK4:Hid (NdV w4 v4 (ks)):=n4;clear h4 n4 b4))
  all_goals
   clear SKD HD0 HB0;have SKD:Hid (Sev W N w6.drew):=HP6.o.sev;have HD0:Hid (Below w6 w6 w6.drew):= Zb.drew;clear HKS SK3 SK4 SK5 HP3 HP4 HP5;go_wp2_with fail
   go_region_held3 (fun w'=>Sev W N w') (first|with_reducible exact SKD.o|with_reducible exact SK6.o|with_reducible exact SK7.o|with_reducible exact SK8.o|with_reducible exact SK9.o|with_reducible exact SK10.o|with_reducible exact SK11.o|with_reducible exact SK12.o)
    (first
     | (go_at_call 60;refine((q2g ⟨8,⟨#[]⟩,0⟩ (w11) HJ11.o (by simp<;>omega))).mono ?_;rintro e w12 h12;have HR9:Hid (NdR W (⟨8,⟨#[]⟩,0⟩::(⟨6,⟨#[]⟩,0⟩::([⟨1,xt++(⟨#[40]⟩:ByteArray),0⟩]++(⟨6,⟨#[]⟩,0⟩::((⟨7,⟨#[]⟩,2⟩::(⟨6,⟨#[]⟩,0⟩::([⟨3,⟨#[]⟩,0⟩]++ks)))++(⟨6,⟨#[]⟩,0⟩::([⟨3,⟨#[]⟩,0⟩]++[⟨1,(⟨#[41]⟩:ByteArray),0⟩]))))))) e w12):=h12.from HP11.o.b;obtain⟨v12,rfl,n12,b12⟩:=h12.val;have HP12:Hid (q0y W ⟨3,xt,((N:Nat):Int)⟩ w12):=HP11.o.below b12;have SK12:Hid (Sev W N w12):=HP12.o.sev;clear h12 n12 b12)
     | (go_at_call 61;refine((q0p (w10) HO10.o HG10.o (by simp<;>omega))).mono ?_;rintro e w11 h11;obtain⟨v11,rfl,n11,b11⟩:=h11.val;have HP11:Hid (q0y W ⟨3,xt,((N:Nat):Int)⟩ w11):=HP10.o.below b11;have SK11:Hid (Sev W N w11):=HP11.o.sev;have HJ11:Hid (NdV w11 v11 (⟨6,⟨#[]⟩,0⟩::([⟨1,xt++(⟨#[40]⟩:ByteArray),0⟩]++(⟨6,⟨#[]⟩,0⟩::((⟨7,⟨#[]⟩,2⟩::(⟨6,⟨#[]⟩,0⟩::([⟨3,⟨#[]⟩,0⟩]++ks)))++(⟨6,⟨#[]⟩,0⟩::([⟨3,⟨#[]⟩,0⟩]++[⟨1,(⟨#[41]⟩:ByteArray),0⟩]))))))):=n11;clear h11 n11 b11)
     | (go_at_call 61;refine((q0p (w9) HI9.o HF9.o (by simp<;>omega))).mono ?_;rintro e w10 h10;obtain⟨v10,rfl,n10,b10⟩:=h10.val;have HP10:Hid (q0y W ⟨3,xt,((N:Nat):Int)⟩ w10):=HP9.o.below b10;have SK10:Hid (Sev W N w10):=HP10.o.sev;have HO10:Hid (NdV w10 v7 ([⟨1,xt++(⟨#[40]⟩:ByteArray),0⟩])):=HO9.o.below b10;have HG10:Hid (NdV w10 v10 (⟨6,⟨#[]⟩,0⟩::((⟨7,⟨#[]⟩,2⟩::(⟨6,⟨#[]⟩,0⟩::([⟨3,⟨#[]⟩,0⟩]++ks)))++(⟨6,⟨#[]⟩,0⟩::([⟨3,⟨#[]⟩,0⟩]++[⟨1,(⟨#[41]⟩:ByteArray),0⟩]))))):=n10;clear h10 n10 b10)
     | (go_at_call 61;refine((q0p (w8) HP8.o.sf HE8.o (by simp<;>omega))).mono ?_;rintro e w9 h9;obtain⟨v9,rfl,n9,b9⟩:=h9.val;have HP9:Hid (q0y W ⟨3,xt,((N:Nat):Int)⟩ w9):=HP8.o.below b9;have SK9:Hid (Sev W N w9):=HP9.o.sev;have HI9:Hid (NdV w9 v6 (⟨7,⟨#[]⟩,2⟩::(⟨6,⟨#[]⟩,0⟩::([⟨3,⟨#[]⟩,0⟩]++ks)))):=HI8.o.below b9;have HO9:Hid (NdV w9 v7 ([⟨1,xt++(⟨#[40]⟩:ByteArray),0⟩])):=HO8.o.below b9;have HF9:Hid (NdV w9 v9 (⟨6,⟨#[]⟩,0⟩::([⟨3,⟨#[]⟩,0⟩]++[⟨1,(⟨#[41]⟩:ByteArray),0⟩]))):=n9;clear h9 n9 b9)
     | (go_at_call 57;refine((q1b _ (w7))).mono ?_;rintro e w8 h8;obtain⟨v8,rfl,n8,b8⟩:=h8.val;have HP8:Hid (q0y W ⟨3,xt,((N:Nat):Int)⟩ w8):=HP7.o.below b8;have SK8:Hid (Sev W N w8):=HP8.o.sev;have HI8:Hid (NdV w8 v6 (⟨7,⟨#[]⟩,2⟩::(⟨6,⟨#[]⟩,0⟩::([⟨3,⟨#[]⟩,0⟩]++ks)))):=HI7.o.below b8;have HO8:Hid (NdV w8 v7 ([⟨1,xt++(⟨#[40]⟩:ByteArray),0⟩])):=HO7.o.below b8;have HE8:Hid (NdV w8 v8 ([⟨1,(⟨#[41]⟩:ByteArray),0⟩])):=n8;clear h8 n8 b8)
     | (go_at_call 57;refine((q1b _ (w6.drew)).mono fun _ _ h=>h.from HD0.o).mono ?_;rintro e w7 h7;obtain⟨v7,rfl,n7,b7⟩:=h7.val;have HP7:Hid (q0y W ⟨3,xt,((N:Nat):Int)⟩ w7):=HP6.o.below b7;have SK7:Hid (Sev W N w7):=HP7.o.sev;have HI7:Hid (NdV w7 v6 (⟨7,⟨#[]⟩,2⟩::(⟨6,⟨#[]⟩,0⟩::([⟨3,⟨#[]⟩,0⟩]++ks)))):=HI6.o.below b7;have HO7:Hid (NdV w7 v7 ([⟨1,xt++(⟨#[40]⟩:ByteArray),0⟩])):=n7;clear h7 n7 b7))
   all_goals
    go_wp2;go_ret;exact HR9.o
theorem j3h{ds:List Td}{a:Option Addr}{cap i N:Nat}{xt:ByteArray}(hl:ds.length<=40)(hi:i<ds.length)(hN6:N<=6)(hx8:xt.size<=8)(W:World)(hN:Tds W a ds)(he:ds[i]=⟨4,⟨#[]⟩,((N:Nat):Int)⟩)(ks:List Nd)(hkl:ks.length<=900)
  (hK:N≠0->∀W':World,Below W W W'->Calls prog 62 #[.slice a ds.length cap,.int .i64 ((i:Int)+1),.int .i64 ((N:Nat):Int)] W' fun e w'=>NdR W' ks e w'):
  Calls prog 26 #[.slice a ds.length cap,.int .i64 (i:Int)] W fun e w'=>NdR W (if N=0 then [⟨1,((⟨#[91]⟩:ByteArray))++(⟨#[93]⟩:ByteArray),0⟩]else⟨8,⟨#[]⟩,0⟩::(⟨6,⟨#[]⟩,0⟩::([⟨1,(⟨#[91]⟩:ByteArray),0⟩]++(⟨6,⟨#[]⟩,0⟩::((⟨7,⟨#[]⟩,2⟩::(⟨6,⟨#[]⟩,0⟩::([⟨3,⟨#[]⟩,0⟩]++ks)))++(⟨6,⟨#[]⟩,0⟩::([⟨3,⟨#[]⟩,0⟩]++[⟨1,(⟨#[93]⟩:ByteArray),0⟩]))))))) e w':=by
 obtain⟨b,o,rfl,hb,c1,c2,c3⟩:=hN i hi;have hii:(i:Int)<(ds.length:Int):=by omega
 rw[he]at c1 c2 c3;simp only at c1 c2 c3;have HPR:Hid (q0y W ⟨4,⟨#[]⟩,((N:Nat):Int)⟩ (dcW W 4 ⟨#[]⟩ ((N:Nat):Int))):=z6f W ⟨4,⟨#[]⟩,((N:Nat):Int)⟩;have hsz:(xt++(⟨#[40]⟩:ByteArray)).size=xt.size+1:=by rw[ByteArray.size_append];rfl
 have g1:¬(9223372036854775807:Int)<(xt.size:Int)+1:=by omega
 have g2:¬(9223372036854775807:Int)<(xt.size:Int)+1+1:=by omega
 have hwr:IntKind.i64.wrap ((i:Int)+1)=(i:Int)+1:=by rw[IntKind.wrap_i64];omega
 have HKK:Hid (N≠0->∀W':World,Below W W W'->Calls prog 62 #[.slice (some ⟨b,o,none⟩) ds.length cap,.int .i64 ((i:Int)+1),.int .i64 ((N:Nat):Int)] W' fun e w'=>NdR W' ks e w'):=hK;clear hN he hK;by_cases h0:N=0
 ·subst h0;rw[if_pos rfl];go_in;go_wp2_with fail;refine(q1b _ _).mono ?_;rintro e w3 h3;have HR:Hid (NdR W [⟨1,((⟨#[91]⟩:ByteArray))++(⟨#[93]⟩:ByteArray),0⟩] e w3):=h3.from HPR.o.b;obtain⟨v3,rfl,_,_⟩:=h3.val;clear h3;go_wp2;go_ret;exact HR.o
 ·rw[if_neg h0];have h0b:(((N:Nat):Int)==0)=false:=beq_false_of_ne (by omega);have h0i:¬((N:Nat):Int)=0:=by omega
  have HKS:Hid (∀W':World,Below W W W'->Calls prog 62 #[.slice (some ⟨b,o,none⟩) ds.length cap,.int .i64 ((i:Int)+1),.int .i64 ((N:Nat):Int)] W' fun e w'=>NdR W' ks e w'):=HKK.o h0;clear HKK h0;go_in;go_wp2_with fail;generalize hw3:((((W.alloc (.cells #[.int .i64 4,.string ⟨#[]⟩,.int .i64 ((N:Nat):Int)] 47)).alloc (.cells #[.int .i64 2,.string ⟨#[]⟩,.int .i64 0] 107)).alloc (.cells #[.int .i64 3,.string ⟨#[]⟩,.int .i64 0] 107)).alloc (.cells #[.int .i64 8,.string ⟨#[]⟩,.int .i64 0] 107)).alloc (.cells #[.int .i64 7,.string ⟨#[]⟩,.int .i64 2] 107)=w3
  have HP3:Hid (q0y W ⟨4,⟨#[]⟩,((N:Nat):Int)⟩ w3):=by
   show q0y _ _ _;rw[<-hw3];exact HPR.o
  have SK3:Hid (Sev W N w3):=HP3.o.sev;have SKD:Hid (Sev W N w3.drew):=HP3.o.sev;have HD0:Hid (Below w3 w3 w3.drew):= Zb.drew;have HB0:Hid (Below W W w3.drew):=HP3.o.b.drew;clear hw3 HPR c1 c2 c3
  go_region_held3 (fun w'=>Sev W N w') (first|with_reducible exact SKD.o|with_reducible exact SK3.o|with_reducible exact SK4.o|with_reducible exact SK5.o|with_reducible exact SK6.o)
   (first
     | (go_at_call 60;refine((q2g ⟨7,⟨#[]⟩,2⟩ (w5) HC5.o (by simp<;>omega))).mono ?_;rintro e w6 h6;obtain⟨v6,rfl,n6,b6⟩:=h6.val;have HP6:Hid (q0y W ⟨4,⟨#[]⟩,((N:Nat):Int)⟩ w6):=HP5.o.below b6;have SK6:Hid (Sev W N w6):=HP6.o.sev;have HI6:Hid (NdV w6 v6 (⟨7,⟨#[]⟩,2⟩::(⟨6,⟨#[]⟩,0⟩::([⟨3,⟨#[]⟩,0⟩]++ks)))):=n6;clear h6 n6 b6)
     | (go_at_call 61;refine((q0p (w4) HP4.o.sf HK4.o (by simp<;>omega))).mono ?_;rintro e w5 h5;obtain⟨v5,rfl,n5,b5⟩:=h5.val;have HP5:Hid (q0y W ⟨4,⟨#[]⟩,((N:Nat):Int)⟩ w5):=HP4.o.below b5;have SK5:Hid (Sev W N w5):=HP5.o.sev;have HC5:Hid (NdV w5 v5 (⟨6,⟨#[]⟩,0⟩::([⟨3,⟨#[]⟩,0⟩]++ks))):=n5;clear h5 n5 b5)
     | (go_at_call 62;refine((HKS.o (w3.drew) HB0.o).mono fun _ _ h=>h.from HD0.o).mono ?_;rintro e w4 h4;obtain⟨v4,rfl,n4,b4⟩:=h4.val;have HP4:Hid (q0y W ⟨4,⟨#[]⟩,((N:Nat):Int)⟩ w4):=HP3.o.below b4;have SK4:Hid (Sev W N w4):=HP4.o.sev;have HK4:Hid (NdV w4 v4 (ks)):=n4;clear h4 n4 b4))
  all_goals
   clear SKD HD0 HB0;have SKD:Hid (Sev W N w6.drew):=HP6.o.sev;have HD0:Hid (Below w6 w6 w6.drew):= Zb.drew;clear HKS SK3 SK4 SK5 HP3 HP4 HP5;go_wp2_with fail
   go_region_held3 (fun w'=>Sev W N w') (first|with_reducible exact SKD.o|with_reducible exact SK6.o|with_reducible exact SK7.o|with_reducible exact SK8.o|with_reducible exact SK9.o|with_reducible exact SK10.o|with_reducible exact SK11.o|with_reducible exact SK12.o)
    (first
     | (go_at_call 60;refine((q2g ⟨8,⟨#[]⟩,0⟩ (w11) HJ11.o (by simp<;>omega))).mono ?_;rintro e w12 h12;have HR9:Hid (NdR W (⟨8,⟨#[]⟩,0⟩::(⟨6,⟨#[]⟩,0⟩::([⟨1,(⟨#[91]⟩:ByteArray),0⟩]++(⟨6,⟨#[]⟩,0⟩::((⟨7,⟨#[]⟩,2⟩::(⟨6,⟨#[]⟩,0⟩::([⟨3,⟨#[]⟩,0⟩]++ks)))++(⟨6,⟨#[]⟩,0⟩::([⟨3,⟨#[]⟩,0⟩]++[⟨1,(⟨#[93]⟩:ByteArray),0⟩]))))))) e w12):=h12.from HP11.o.b;obtain⟨v12,rfl,n12,b12⟩:=h12.val;have HP12:Hid (q0y W ⟨4,⟨#[]⟩,((N:Nat):Int)⟩ w12):=HP11.o.below b12;have SK12:Hid (Sev W N w12):=HP12.o.sev;clear h12 n12 b12)
     | (go_at_call 61;refine((q0p (w10) HO10.o HG10.o (by simp<;>omega))).mono ?_;rintro e w11 h11;obtain⟨v11,rfl,n11,b11⟩:=h11.val;have HP11:Hid (q0y W ⟨4,⟨#[]⟩,((N:Nat):Int)⟩ w11):=HP10.o.below b11;have SK11:Hid (Sev W N w11):=HP11.o.sev;have HJ11:Hid (NdV w11 v11 (⟨6,⟨#[]⟩,0⟩::([⟨1,(⟨#[91]⟩:ByteArray),0⟩]++(⟨6,⟨#[]⟩,0⟩::((⟨7,⟨#[]⟩,2⟩::(⟨6,⟨#[]⟩,0⟩::([⟨3,⟨#[]⟩,0⟩]++ks)))++(⟨6,⟨#[]⟩,0⟩::([⟨3,⟨#[]⟩,0⟩]++[⟨1,(⟨#[93]⟩:ByteArray),0⟩]))))))):=n11;clear h11 n11 b11)
     | (go_at_call 61;refine((q0p (w9) HI9.o HF9.o (by simp<;>omega))).mono ?_;rintro e w10 h10;obtain⟨v10,rfl,n10,b10⟩:=h10.val;have HP10:Hid (q0y W ⟨4,⟨#[]⟩,((N:Nat):Int)⟩ w10):=HP9.o.below b10;have SK10:Hid (Sev W N w10):=HP10.o.sev;have HO10:Hid (NdV w10 v7 ([⟨1,(⟨#[91]⟩:ByteArray),0⟩])):=HO9.o.below b10;have HG10:Hid (NdV w10 v10 (⟨6,⟨#[]⟩,0⟩::((⟨7,⟨#[]⟩,2⟩::(⟨6,⟨#[]⟩,0⟩::([⟨3,⟨#[]⟩,0⟩]++ks)))++(⟨6,⟨#[]⟩,0⟩::([⟨3,⟨#[]⟩,0⟩]++[⟨1,(⟨#[93]⟩:ByteArray),0⟩]))))):=n10;clear h10 n10 b10)
     | (go_at_call 61;refine((q0p (w8) HP8.o.sf HE8.o (by simp<;>omega))).mono ?_;rintro e w9 h9;obtain⟨v9,rfl,n9,b9⟩:=h9.val;have HP9:Hid (q0y W ⟨4,⟨#[]⟩,((N:Nat):Int)⟩ w9):=HP8.o.below b9;have SK9:Hid (Sev W N w9):=HP9.o.sev;have HI9:Hid (NdV w9 v6 (⟨7,⟨#[]⟩,2⟩::(⟨6,⟨#[]⟩,0⟩::([⟨3,⟨#[]⟩,0⟩]++ks)))):=HI8.o.below b9;have HO9:Hid (NdV w9 v7 ([⟨1,(⟨#[91]⟩:ByteArray),0⟩])):=HO8.o.below b9;have HF9:Hid (NdV w9 v9 (⟨6,⟨#[]⟩,0⟩::([⟨3,⟨#[]⟩,0⟩]++[⟨1,(⟨#[93]⟩:ByteArray),0⟩]))):=n9;clear h9 n9 b9)
     | (go_at_call 57;refine((q1b _ (w7))).mono ?_;rintro e w8 h8;obtain⟨v8,rfl,n8,b8⟩:=h8.val;have HP8:Hid (q0y W ⟨4,⟨#[]⟩,((N:Nat):Int)⟩ w8):=HP7.o.below b8;have SK8:Hid (Sev W N w8):=HP8.o.sev;have HI8:Hid (NdV w8 v6 (⟨7,⟨#[]⟩,2⟩::(⟨6,⟨#[]⟩,0⟩::([⟨3,⟨#[]⟩,0⟩]++ks)))):=HI7.o.below b8;have HO8:Hid (NdV w8 v7 ([⟨1,(⟨#[91]⟩:ByteArray),0⟩])):=HO7.o.below b8;have HE8:Hid (NdV w8 v8 ([⟨1,(⟨#[93]⟩:ByteArray),0⟩])):=n8;clear h8 n8 b8)
     | (go_at_call 57;refine((q1b _ (w6.drew)).mono fun _ _ h=>h.from HD0.o).mono ?_;rintro e w7 h7;obtain⟨v7,rfl,n7,b7⟩:=h7.val;have HP7:Hid (q0y W ⟨4,⟨#[]⟩,((N:Nat):Int)⟩ w7):=HP6.o.below b7;have SK7:Hid (Sev W N w7):=HP7.o.sev;have HI7:Hid (NdV w7 v6 (⟨7,⟨#[]⟩,2⟩::(⟨6,⟨#[]⟩,0⟩::([⟨3,⟨#[]⟩,0⟩]++ks)))):=HI6.o.below b7;have HO7:Hid (NdV w7 v7 ([⟨1,(⟨#[91]⟩:ByteArray),0⟩])):=n7;clear h7 n7 b7))
   all_goals
    go_wp2;go_ret;exact HR9.o
theorem k3m{ds:List Td}{a:Option Addr}{cap:Nat}(hs:v8m ds):∀F:Fo,F.ok->F.exs->DcA ds a cap F
 | .nil,_,_=>trivial
 | .cons x k n,hok,hex=>by
  have hexk:k.exs:=fun y hy=>hex y (by simp[Fo.nodes,hy])
  have ihk:=k3m (a:=a) (cap:=cap) hs k hok.2.1 hexk;have ihn:=k3m (a:=a) (cap:=cap) hs n hok.2.2 fun y hy=>hex y (by simp[Fo.nodes,hy])
  have hx:=hex x (by simp[Fo.nodes]);refine⟨?_,ihn⟩
  have kids:∀(i:Nat)(r:List Td),ds.drop i=(Fo.cons x k n).nodes++r->∀W:World,Tds W a ds->∃hp:i<ds.length,ds[i]=x/\(kdD k.dcs).nodes.length<=900/\(k.len≠0->∀W':World,Below W W W'->Calls prog 62 #[.slice a ds.length cap,.int .i64 ((i:Int)+1),.int .i64 (k.len:Int)] W' fun e w'=>NdR W' (kdD k.dcs).nodes e w'):=fun i r hi W hN=>by
   obtain⟨hp,e1,e2,_,_⟩:=k8v hi hok;refine⟨hp,e1,?_,fun h0 W' hb=>?_⟩
   ·have h1:=z2z hs e2;have h2:=k9l k.dcs;omega
   ·have h:=z4d (cap:=cap) hs k (i+1) _ e2 hok.2.1 ihk h0 W' (hN.below hb);rw[show((i+1:Nat):Int)=(i:Int)+1 by omega]at h;exact h
  rcases q5a hx with⟨ho,_⟩|⟨ho,_⟩|⟨ho,hnm,h0,h6,hkd⟩|⟨ho,htx,h0,h6,hkd⟩|⟨ho,_⟩|⟨ho,_⟩
  ·exact k5w hs hok hx (.inl ho)
  ·exact k5w hs hok hx (.inr ho)
  ·intro i r hi W hN;obtain⟨hp,e1,hkl,hK⟩:=kids i r hi W hN;have hlen:k.len=x.n.toNat:=hok.1.trans hkd
   have e3:x=⟨3,x.tx,((k.len:Nat):Int)⟩:=by
    obtain⟨xo,xt,xn⟩:=x;simp only at ho h0 hlen⊢;rw[ho,hlen,Int.toNat_of_nonneg h0]
   have h8:x.tx.size<=8:=by rw[<-q0c];exact q3l hnm
   have h:=j3g (cap:=cap) hs.l hp (N:=k.len) (xt:=x.tx) (by omega) h8 W hN (by rw[e1];exact e3) (kdD k.dcs).nodes hkl hK
   have e4:(q0l x k.dcs).nodes=if k.len=0 then [⟨1,(x.tx++(⟨#[40]⟩:ByteArray))++(⟨#[41]⟩:ByteArray),0⟩]else⟨8,⟨#[]⟩,0⟩::(⟨6,⟨#[]⟩,0⟩::([⟨1,x.tx++(⟨#[40]⟩:ByteArray),0⟩]++(⟨6,⟨#[]⟩,0⟩::((⟨7,⟨#[]⟩,2⟩::(⟨6,⟨#[]⟩,0⟩::([⟨3,⟨#[]⟩,0⟩]++(kdD k.dcs).nodes)))++(⟨6,⟨#[]⟩,0⟩::([⟨3,⟨#[]⟩,0⟩]++[⟨1,(⟨#[41]⟩:ByteArray),0⟩])))))):=by
    rw[show q0l x k.dcs=q2p (btL x.tx++[40]) [41] k.dcs by simp[q0l,ho],y2k x.tx 40];by_cases hz:k.len=0
    ·have:k.dcs=[]:=List.eq_nil_of_length_eq_zero (by rw[q5q];exact hz)
     rw[if_pos hz,this,k1r];have e5:wbS (btL x.tx++[40])++(⟨#[41]⟩:ByteArray)=wbS (btL x.tx++[40]++[41]):=q1t _ _;rw[e5]
    ·rw[if_neg hz,k1q (by rw[q5q];exact hz)];rfl
   show Calls _ _ _ _ _;rw[e4];exact h
  ·intro i r hi W hN;obtain⟨hp,e1,hkl,hK⟩:=kids i r hi W hN;have hlen:k.len=x.n.toNat:=hok.1.trans hkd
   have e3:x=⟨4,⟨#[]⟩,((k.len:Nat):Int)⟩:=by
    obtain⟨xo,xt,xn⟩:=x;simp only at ho h0 hlen htx⊢;rw[ho,htx,hlen,Int.toNat_of_nonneg h0]
   have h:=j3h (cap:=cap) hs.l hp (N:=k.len) (xt:=⟨#[]⟩) (by omega) (by decide) W hN (by rw[e1];exact e3) (kdD k.dcs).nodes hkl hK
   have e4:(q0l x k.dcs).nodes=if k.len=0 then [⟨1,(⟨#[91]⟩:ByteArray)++(⟨#[93]⟩:ByteArray),0⟩]else⟨8,⟨#[]⟩,0⟩::(⟨6,⟨#[]⟩,0⟩::([⟨1,(⟨#[91]⟩:ByteArray),0⟩]++(⟨6,⟨#[]⟩,0⟩::((⟨7,⟨#[]⟩,2⟩::(⟨6,⟨#[]⟩,0⟩::([⟨3,⟨#[]⟩,0⟩]++(kdD k.dcs).nodes)))++(⟨6,⟨#[]⟩,0⟩::([⟨3,⟨#[]⟩,0⟩]++[⟨1,(⟨#[93]⟩:ByteArray),0⟩])))))):=by
    rw[show q0l x k.dcs=q2p [91] [93] k.dcs by simp[q0l,ho]];by_cases hz:k.len=0
    ·have:k.dcs=[]:=List.eq_nil_of_length_eq_zero (by rw[q5q];exact hz)
     rw[if_pos hz,this,k1r];rfl
    ·rw[if_neg hz,k1q (by rw[q5q];exact hz)];rfl
   show Calls _ _ _ _ _;rw[e4];exact h
  ·exact j3i hs hok hex (.inl ho) ihk
  ·exact j3i hs hok hex (.inr ho) ihk
abbrev Eig(W:World)(xt:ByteArray)(w:World):Prop:=Six W w/\w.cell? ⟨W.heap.size,1,none⟩=some (.string xt)
theorem q0y.eig{W:World}{o n:Int}{t:ByteArray}{w:World}(h:q0y W ⟨o,t,n⟩ w):Eig W t w:=⟨h.six,h.n.2.2.1⟩
theorem v9n{ds:List Td}{a:Option Addr}{cap:Nat}{xt:ByteArray}(hl:ds.length<=40)(hi:0<ds.length)(hx8:xt.size<=8)(W:World)(hN:Tds W a ds)(he:ds[0]=⟨7,xt,0⟩)(xs:List Nd)(hkl:xs.length<=900)
  (hD:∀W':World,Below W W W'->Calls prog 26 #[.slice a ds.length cap,.int .i64 1] W' fun e w'=>NdR W' xs e w'):
  Calls prog 26 #[.slice a ds.length cap,.int .i64 0] W fun e w'=>NdR W (⟨8,⟨#[]⟩,0⟩::(⟨6,⟨#[]⟩,0⟩::([⟨1,(⟨#[108,101,116,32]⟩:ByteArray)++xt++(⟨#[32,61]⟩:ByteArray),0⟩]++(⟨7,⟨#[]⟩,2⟩::(⟨6,⟨#[]⟩,0⟩::([⟨2,⟨#[]⟩,0⟩]++(⟨6,⟨#[]⟩,0⟩::(xs++[⟨1,⟨#[59]⟩,0⟩])))))))) e w':=by
 obtain⟨b,o,rfl,hb,c1,c2,c3⟩:=hN 0 hi;have hii:(0:Int)<(ds.length:Int):=by omega
 rw[he]at c1 c2 c3;simp only[Nat.zero_mul,Nat.add_zero]at c1 c2 c3;have HPR:=hid (z6f W ⟨7,xt,0⟩);have HD:=hid hD;have g1:¬9223372036854775807<4+xt.size:=by omega
 have g2:¬9223372036854775807<4+xt.size+2:=by omega
 clear hN he hD;go_in;go_wp2_with fail;refine(HD.o _ HPR.o.b).mono ?_;rintro e w1 h1;obtain⟨v1,rfl,n1,b1⟩:=h1.val;have HP1:=hid (HPR.o.below b1);have HV1:=hid n1;clear h1 n1 b1 HPR;go_wp2_with fail;refine(q1b _ _).mono ?_;rintro e w2 h2;obtain⟨v2,rfl,n2,b2⟩:=h2.val;have HP2:=hid (HP1.o.below b2);have HV2:=hid (HV1.o.below b2);have HS2:=hid n2;clear h2 n2 b2 HP1 HV1;go_wp2_with fail;refine(q0p _ HV2.o HS2.o (by simp<;>omega)).mono ?_;rintro e w3 h3;obtain⟨v3,rfl,n3,b3⟩:=h3.val;have HP3:Hid (q0y W ⟨7,xt,0⟩ w3):=HP2.o.below b3;have HX3:Hid (NdV w3 v3 (⟨6,⟨#[]⟩,0⟩::(xs++[⟨1,⟨#[59]⟩,0⟩]))):=n3;have SK3:Hid (Eig W xt w3):=HP3.o.eig;have SKD:Hid (Eig W xt w3.drew):=HP3.o.eig;have HD0:Hid (Below w3 w3 w3.drew):= Zb.drew;clear h3 n3 b3 HP2 HV2 HS2 HD c1 c2 c3;go_wp2_with fail
 go_region_held3 (fun w'=>Eig W xt w') (first|with_reducible exact SKD.o|with_reducible exact SK3.o|with_reducible exact SK4.o|with_reducible exact SK5.o|with_reducible exact SK6.o|with_reducible exact SK7.o|with_reducible exact SK8.o)
  (first
     | (go_at_call 60;refine((q2g ⟨8,⟨#[]⟩,0⟩ (w7) HE7.o (by simp<;>omega))).mono ?_;rintro e w8 h8;have HR9:Hid (NdR W (⟨8,⟨#[]⟩,0⟩::(⟨6,⟨#[]⟩,0⟩::([⟨1,(⟨#[108,101,116,32]⟩:ByteArray)++xt++(⟨#[32,61]⟩:ByteArray),0⟩]++(⟨7,⟨#[]⟩,2⟩::(⟨6,⟨#[]⟩,0⟩::([⟨2,⟨#[]⟩,0⟩]++(⟨6,⟨#[]⟩,0⟩::(xs++[⟨1,⟨#[59]⟩,0⟩])))))))) e w8):=h8.from HP7.o.b;obtain⟨v8,rfl,n8,b8⟩:=h8.val;have HP8:Hid (q0y W ⟨7,xt,0⟩ w8):=HP7.o.below b8;have SK8:Hid (Eig W xt w8):=HP8.o.eig;clear h8 n8 b8)
     | (go_at_call 61;refine((q0p (w6) HS6.o HD6.o (by simp<;>omega))).mono ?_;rintro e w7 h7;obtain⟨v7,rfl,n7,b7⟩:=h7.val;have HP7:Hid (q0y W ⟨7,xt,0⟩ w7):=HP6.o.below b7;have SK7:Hid (Eig W xt w7):=HP7.o.eig;have HE7:Hid (NdV w7 v7 (⟨6,⟨#[]⟩,0⟩::([⟨1,(⟨#[108,101,116,32]⟩:ByteArray)++xt++(⟨#[32,61]⟩:ByteArray),0⟩]++(⟨7,⟨#[]⟩,2⟩::(⟨6,⟨#[]⟩,0⟩::([⟨2,⟨#[]⟩,0⟩]++(⟨6,⟨#[]⟩,0⟩::(xs++[⟨1,⟨#[59]⟩,0⟩])))))))):=n7;clear h7 n7 b7)
     | (go_at_call 60;refine((q2g ⟨7,⟨#[]⟩,2⟩ (w5) HC5.o (by simp<;>omega))).mono ?_;rintro e w6 h6;obtain⟨v6,rfl,n6,b6⟩:=h6.val;have HP6:Hid (q0y W ⟨7,xt,0⟩ w6):=HP5.o.below b6;have SK6:Hid (Eig W xt w6):=HP6.o.eig;have HS6:Hid (NdV w6 v4 ([⟨1,(⟨#[108,101,116,32]⟩:ByteArray)++xt++(⟨#[32,61]⟩:ByteArray),0⟩])):=HS5.o.below b6;have HD6:Hid (NdV w6 v6 (⟨7,⟨#[]⟩,2⟩::(⟨6,⟨#[]⟩,0⟩::([⟨2,⟨#[]⟩,0⟩]++(⟨6,⟨#[]⟩,0⟩::(xs++[⟨1,⟨#[59]⟩,0⟩])))))):=n6;clear h6 n6 b6)
     | (go_at_call 61;refine((q0p (w4) HP4.o.bl HX4.o (by simp<;>omega))).mono ?_;rintro e w5 h5;obtain⟨v5,rfl,n5,b5⟩:=h5.val;have HP5:Hid (q0y W ⟨7,xt,0⟩ w5):=HP4.o.below b5;have SK5:Hid (Eig W xt w5):=HP5.o.eig;have HS5:Hid (NdV w5 v4 ([⟨1,(⟨#[108,101,116,32]⟩:ByteArray)++xt++(⟨#[32,61]⟩:ByteArray),0⟩])):=HS4.o.below b5;have HC5:Hid (NdV w5 v5 (⟨6,⟨#[]⟩,0⟩::([⟨2,⟨#[]⟩,0⟩]++(⟨6,⟨#[]⟩,0⟩::(xs++[⟨1,⟨#[59]⟩,0⟩]))))):=n5;clear h5 n5 b5)
     | (go_at_call 57;refine((q1b _ (w3.drew)).mono fun _ _ h=>h.from HD0.o).mono ?_;rintro e w4 h4;obtain⟨v4,rfl,n4,b4⟩:=h4.val;have HP4:Hid (q0y W ⟨7,xt,0⟩ w4):=HP3.o.below b4;have SK4:Hid (Eig W xt w4):=HP4.o.eig;have HX4:Hid (NdV w4 v3 (⟨6,⟨#[]⟩,0⟩::(xs++[⟨1,⟨#[59]⟩,0⟩]))):=HX3.o.below b4;have HS4:Hid (NdV w4 v4 ([⟨1,(⟨#[108,101,116,32]⟩:ByteArray)++xt++(⟨#[32,61]⟩:ByteArray),0⟩])):=n4;clear h4 n4 b4))
 all_goals
  go_wp2;go_ret;exact HR9.o
theorem y3s{ds:List Td}{a:Option Addr}{cap:Nat}(hl:ds.length<=40)(hi:0<ds.length)(W:World)(hN:Tds W a ds)(he:ds[0]=⟨8,⟨#[]⟩,0⟩)(xs:List Nd)(hkl:xs.length<=900)
  (hD:∀W':World,Below W W W'->Calls prog 26 #[.slice a ds.length cap,.int .i64 1] W' fun e w'=>NdR W' xs e w'):
  Calls prog 26 #[.slice a ds.length cap,.int .i64 0] W fun e w'=>NdR W (⟨6,⟨#[]⟩,0⟩::(xs++[⟨1,⟨#[59]⟩,0⟩])) e w':=by
 obtain⟨b,o,rfl,hb,c1,c2,c3⟩:=hN 0 hi;have hii:(0:Int)<(ds.length:Int):=by omega
 rw[he]at c1 c2 c3;simp only[Nat.zero_mul,Nat.add_zero]at c1 c2 c3;have HPR:=hid (z6f W ⟨8,⟨#[]⟩,0⟩);have HD:=hid hD;clear hN he hD;go_in;go_wp2_with fail;refine(HD.o _ HPR.o.b).mono ?_;rintro e w1 h1;obtain⟨v1,rfl,n1,b1⟩:=h1.val;have HP1:=hid (HPR.o.below b1);have HV1:=hid n1;clear h1 n1 b1 HPR;go_wp2_with fail;refine(q1b _ _).mono ?_;rintro e w2 h2;obtain⟨v2,rfl,n2,b2⟩:=h2.val;have HP2:=hid (HP1.o.below b2);have HV2:=hid (HV1.o.below b2);have HS2:=hid n2;clear h2 n2 b2 HP1 HV1;go_wp2_with fail;refine(q0p _ HV2.o HS2.o (by simp<;>omega)).mono ?_;rintro e w3 h3;have HR9:=hid (h3.from HP2.o.b);obtain⟨v3,rfl,_,_⟩:=h3.val;clear h3;go_wp2;go_ret;exact HR9.o
theorem y5m{t:List Td}{a:Option Addr}{cap:Nat}(h:q0b t=0)(h9:opT t≠9)(W:World)(hN:Tds W a t):Calls prog 26 #[.slice a t.length cap,.int .i64 0] W fun e w'=>NdR W (q0r t).nodes e w':=by
 obtain⟨h1,h2,_,_⟩:=q3f h;have hs:v8m t:=⟨h1,h2⟩;obtain⟨x,y,k,rfl,hok,hex,hk,hx⟩:=z0u h h9;have hpos:0<(x::(Fo.cons y k .nil).nodes).length:=by simp
 have hall:=k3m (a:=a) (cap:=cap) hs (.cons y k .nil) hok hex;have hd:(x::(Fo.cons y k .nil).nodes).drop 1=(Fo.cons y k .nil).nodes++[]:=by simp
 have hD:∀W':World,Below W W W'->Calls prog 26 #[.slice a (x::(Fo.cons y k .nil).nodes).length cap,.int .i64 1] W' fun e w'=>NdR W' (q0l y k.dcs).nodes e w':=fun W' hb=>hall.1 1 [] hd W' (hN.below hb)
 have hnl:(q0l y k.dcs).nodes.length<=900:=by
  have h3:=z2z hs hd;rw[Fo.dcs,q2f]at h3;simp only at h3;omega
 have e0:=z3d hok hk;rw[e0];rcases hx with⟨ho,hnm,hn0⟩|⟨ho,htx,hn0⟩
 ·have h8:x.tx.size<=8:=by rw[<-q0c];exact q3l hnm
  have h5:=v9n (cap:=cap) h1 hpos h8 W hN (by obtain⟨xo,xt,xn⟩:=x;simp only at ho hn0;subst ho hn0;rfl) _ hnl hD
  have e6:(⟨#[108,101,116,32]⟩:ByteArray)++x.tx++(⟨#[32,61]⟩:ByteArray)=wbS ([108,101,116,32]++btL x.tx++[32,61]):=by
   have q1:wbS [108,101,116,32]++wbS (btL x.tx)=wbS ([108,101,116,32]++btL x.tx):=q1t _ _;have q2:wbS ([108,101,116,32]++btL x.tx)++wbS [32,61]=wbS ([108,101,116,32]++btL x.tx++[32,61]):=q1t _ _;rw[<-q2,<-q1];rfl
  rw[e6]at h5;rw[stD,if_pos ho];exact h5
 ·have h5:=y3s (cap:=cap) h1 hpos W hN (by obtain⟨xo,xt,xn⟩:=x;simp only at ho hn0 htx;subst ho hn0 htx;rfl) _ hnl hD;rw[stD,if_neg (by omega)];exact h5
theorem j5g(n:Nat)(h1:0<n)(hn:n<=1000000)(w:World):
  Calls prog 207 #[.slice none 0 0,(n:Int)] w fun e w'=>∃c,e=.returned (.slice w.heap.size 0 c)/\q7k w.heap.size (.slice w.heap.size 0 c) [] w'/\Below w w w':=by
 obtain⟨i0,hi,hz0,hz1,hz2⟩:=info_parts v7a
 have hrz:∀ty,(Builtin.append_ #[49,3] ty #[.slice none 0 0,(n:Int)]).run prog w=
   .ok (.slice w.heap.size n (grownCap w n 0 107)) (w.drew.alloc (.cells (#[]++Builtin.zeroCells (Value.agg #[.int .i64 0,.string ⟨#[]⟩,.int .i64 0]).cells n++Builtin.zeroCells (Value.agg #[.int .i64 0,.string ⟨#[]⟩,.int .i64 0]).cells (grownCap w n 0 107-n)) 107)):=fun ty=>by
  have hold:(Builtin.firstCells i0.size 0 (.slice none 0 0)).run prog w.drew=.ok ([]:List Value).toArray w.drew:=run_firstCells_none w.drew i0.size 0 0 0;have h:=Lib.run_append_grow_zeros w 49 3 ty 107 i0 _ .i64 .i64 Tryz.underlying49 Tryz.underlying3 hi hz0 none 0 0 [] hold n h1 (by omega) (by omega) (by omega) (by rw[hz2];omega) (growslice_fits (by omega) (by rw[hz2];omega));simp only[Nat.zero_add]at h;exact h
 have hGn:n<=grownCap w n 0 107:=grownCap_ge w _ _ _;have hGm:=grownCap_le_maxLen w n 0 107 (by unfold maxLen;omega);generalize grownCap w n 0 107=G at hrz hGn hGm;have hG63:G<=9223372036854775807:=by unfold maxLen at hGm;omega
 have HO:Hid (q7k w.heap.size (.slice w.heap.size 0 G) [] (w.drew.alloc (.cells (#[]++Builtin.zeroCells (Value.agg #[.int .i64 0,.string ⟨#[]⟩,.int .i64 0]).cells n++Builtin.zeroCells (Value.agg #[.int .i64 0,.string ⟨#[]⟩,.int .i64 0]).cells (G-n)) 107))):=by
  refine⟨rfl,.inr ⟨w.heap.size,G,_,rfl,Nat.le_refl _,heap_alloc_new w.drew _,Nat.zero_le _,hGm,?_,rfl⟩⟩;simp only[Array.size_append,size_zeroCells,Array.size_empty];show 0+n*3+(G-n)*3=G*3;omega
 have hni:(0:Int)<(n:Int):=by omega
 generalize(#[]++Builtin.zeroCells (Value.agg #[.int .i64 0,.string ⟨#[]⟩,.int .i64 0]).cells n++Builtin.zeroCells (Value.agg #[.int .i64 0,.string ⟨#[]⟩,.int .i64 0]).cells (G-n))=Z at hrz HO
 clear hi hz0 hz1 hz2 hGm;go_in;go_wp2_with(at_builtin;refine Lib.wpList_append_run _ rfl _ _ _ _ rfl _ _ rfl rfl _ _ (hrz _) ?_);go_ret;exact⟨G,rfl,HO.o,Below.drew (Zb.alloc Zl _)⟩
def y2p(w:World)(a:Option Addr)(ps:List (List Nd)):Prop:=
 ∀i(h:i<ps.length),∃b o a' c',a=some ⟨b,o,none⟩/\b<w.heap.size/\w.cell? ⟨b,o+i,none⟩=some (.slice a' ps[i].length c')/\q1u w a' ps[i]/\(a'=none->ps[i].length=0/\c'=0)
theorem y2p.below{w w':World}{a:Option Addr}{ps:List (List Nd)}(h:y2p w a ps)(hb:Below w w w'):y2p w' a ps:=by
 intro i hi;obtain⟨b,o,a',c',e,hlt,c1,c3,c4⟩:=h i hi;exact⟨b,o,a',c',e,Nat.lt_of_lt_of_le hlt hb.size,(hb.cell (p:=⟨b,_,none⟩) hlt).trans c1,c3.below hb,c4⟩
theorem z6l{ps:List (List Nd)}{i:Nat}(h:i<ps.length):(ps.take (i+1)).flatten=(ps.take i).flatten++ps[i]:=by
 rw[List.take_succ_eq_append_getElem h,List.flatten_append];simp
theorem z4b(ps:List (List Nd))(i:Nat):(ps.take i).flatten.length<=ps.flatten.length:=by
 have h:ps.flatten=(ps.take i).flatten++(ps.drop i).flatten:=by rw[<-List.flatten_append,List.take_append_drop]
 rw[h,List.length_append];omega
structure y7c(w:World)(ps:List (List Nd))(i:Nat)(v:Value)(wr:World):Prop where
 le:i<=ps.length
 o:q7k w.heap.size v (ps.take i).flatten wr
 b:Below w w wr
theorem z4e(ps:List (List Nd))(a:Option Addr)(c:Nat)(w:World)(hP:y2p w a ps)(h0:0<ps.flatten.length)(hl:ps.flatten.length<=900000)(hp:ps.length<=10):
  Calls prog 182 #[.slice a ps.length c] w fun e w'=>∃A c',e=.returned (.slice A ps.flatten.length c')/\q7k w.heap.size (.slice A ps.flatten.length c') ps.flatten w'/\Below w w w':=by
 have HP:=hid hP;have HG:=hid (j5g ps.flatten.length h0 (by omega) w);clear hP;generalize hN:ps.flatten.length=N at HG h0 hl⊢;have HN:=hid hN;clear hN;go_in;go_wp2_with fail
 go_loopw [3,11] (fun s x wr=>w=wr/\∃i:Nat,i<=ps.length/\x=(i:Int)/\s=((ps.take i).flatten.length:Int)) (fun _ x _=>ps.length-(intOf x).toNat)
 case atStart=>exact⟨rfl,0,Nat.zero_le _,rfl,rfl⟩
 case round=>
  obtain⟨rfl,i,hi,rfl,rfl⟩:=hrel;by_cases hlt:i<ps.length
  ·have hii:(i:Int)<(ps.length:Int):=by omega
   obtain⟨b0,o0,A0,c0,rfl,hb0,d0,_,_⟩:=HP.o i hlt;have hft:=congrArg List.length (z6l hlt);rw[List.length_append]at hft;have hfl:=z4b ps (i+1);rw[HN.o]at hfl;have HF:=(show Hid (_=_)from hft);have hs1:(ps.take i).flatten.length+ps[i].length<=900000:=by omega
   clear hft hfl;generalize ps[i].length=pn at HF d0 hs1
   generalize(ps.take i).flatten.length=sn at HF hs1⊢
   have hs2:¬(sn:Int)+(pn:Int)<0:=by omega
   go_wp2;refine⟨⟨trivial,i+1,hlt,by go_num,?_⟩,?_⟩
   ·rw[HF.o];go_num
   ·simp[intOf];omega
  ·have hii:¬(i:Int)<(ps.length:Int):=by omega
   have hie:(ps.take i).flatten.length=N:=by rw[List.take_of_length_le (by omega)];exact HN.o
   rw[hie];clear hie;go_wp2_with fail;refine HG.o.mono ?_;rintro e w1⟨c1,rfl,ho1,b1⟩;have HC1:Hid (y7c w ps 0 (.slice w.heap.size 0 c1) w1):=⟨Nat.zero_le _,ho1,b1⟩;clear ho1 b1;go_wp2_with fail
   go_loopw [6,27] (fun v x w'=>∃(i:Nat)(A:Option Addr)(n c:Nat),x=(i:Int)/\v=.slice A n c/\n=(ps.take i).flatten.length/\y7c w ps i (.slice A n c) w') (fun _ x _=>ps.length-(intOf x).toNat)
   case atStart=>exact⟨0,_,_,_,rfl,rfl,rfl,HC1.o⟩
   case round=>
    obtain⟨i,A,n,c2,rfl,rfl,hn,hC⟩:=hrel;have hfl:=z4b ps i;rw[HN.o,<-hn]at hfl;by_cases hlt:i<ps.length
    ·have hii:(i:Int)<(ps.length:Int):=by omega
     obtain⟨b0,o0,A0,c0,rfl,hb0,d0,hT,hnil⟩:=HP.o.below hC.b i hlt;have hft:=z6l hlt;have hfl2:=z4b ps (i+1);rw[hft,List.length_append,HN.o,<-hn]at hfl2;have HF:=(show Hid (_=_)from hft);have HO:=hid hC.o;have HB:=hid hC.b;have hsz:=hC.b.size;have HT:=hid hT;have HNI:=hid hnil;have HL:=hid hn.symm;have HPL:Hid (∃m,ps[i].length=m):=⟨_,rfl⟩;generalize hpn:ps[i].length=pn at d0 hfl2 HNI;have HPN:=hid hpn;clear hft hT hnil hn hC hpn HPL hfl;go_wp2_with(at_builtin;refine z7w rfl _ _ rfl w.heap.size _ (ps.take i).flatten rfl HO.o A0 pn ps[i] HPN.o c0 rfl HT.o HNI.o (n+pn) (by rw[HL.o]) (by omega) hsz ?_);intro A3 c3 w3 hown3 hgrow3
     have HX3:Hid (y7c w ps (i+1) (.slice A3 (n+pn) c3) w3):=by
      refine⟨hlt,?_,HB.o.grown hgrow3 hsz (fun k hk=>(World.ownsRow.lt HO.o k hk).1)⟩;rw[HF.o];exact hown3
     clear hown3 hgrow3;go_wp2;refine⟨⟨i+1,A3,n+pn,c3,by go_num,rfl,?_,HX3.o⟩,?_⟩
     ·rw[HF.o,List.length_append,HL.o,HPN.o]
     ·simp[intOf];omega
    ·have hii:¬(i:Int)<(ps.length:Int):=by omega
     have hie:ps.take i=ps:=List.take_of_length_le (by omega);obtain⟨_,ho,hb⟩:=hC;rw[hie]at ho hn;rw[HN.o]at hn;subst hn;have HO:=hid ho;have HB:=hid hb;clear ho hb hie;go_wp2;go_ret;exact⟨A,c2,rfl,HO.o,HB.o⟩
end Go.Proofs.YthjapabokcajhaaGreatDoor
