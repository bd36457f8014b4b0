/- Texts as one: LayS, LayU. -/
import Derived.Test.YthjapabokcajhaaGreatDoorPb28
namespace Go.Proofs.YthjapabokcajhaaGreatDoor
open Go Go.RowKit
set_option maxRecDepth 100000
set_option maxHeartbeats 8000000
theorem z8p:∀ n:Fo,n.len≤n.nodes.length
 | .nil=>Nat.le_refl _
 | .cons x k m=>by
  have:=z8p m
  simp only [Fo.len,Fo.nodes,List.length_cons,List.length_append]
  omega
theorem z2t {ds:List Td} {a:Option Addr} {cap:Nat} (hs:v3o ds):∀ (K:Fo) (pos:Nat) (r:List Td),ds.drop pos=K.nodes++r→K.ok→DcA ds a cap K→K.len≠0→∀ W:World,Tds W a ds→
  Calls Tryz.prog 62 #[.slice a ds.length cap,.int .i64 (pos:Int),.int .i64 (K.len:Int)] W fun e w'=>NdR W (kdD K.dcs).nodes e w'
 | .nil,_,_,_,_,_,h0,_,_=>absurd rfl h0
 | .cons y ky .nil,pos,r,hd,hok,hk,_,W,hN=>by
  have HD:Hid (Calls Tryz.prog 26 #[.slice a ds.length cap,.int .i64 (pos:Int)] W fun e w'=>NdR W (q0e y ky.dcs).nodes e w'):=hk.1 pos r hd W hN
  show Calls Tryz.prog 62 #[.slice a ds.length cap,.int .i64 (pos:Int),.int .i64 1] W fun e w'=>NdR W (q0e y ky.dcs).nodes e w'
  generalize (q0e y ky.dcs).nodes=xs at HD ⊢
  clear hd hok hk hN
  go_enter Tryz.func62,Tryz.ntmps62
  go_wp2_with fail
  refine HD.out.mono ?_
  rintro e w1 h1
  have HR:Hid (NdR W xs e w1):=h1
  obtain ⟨v1,rfl,_,_⟩:=h1.val
  clear h1
  go_wp2
  go_ret
  exact HR.out
 | .cons y ky (.cons z kz n),pos,r,hd,hok,hk,_,W,hN=>by
  have hz:=z1p hs hd
  obtain ⟨hp,ey,_,ene,edn⟩:=k5y hd hok
  generalize hj:pos+1+ky.nodes.length=j at ene edn
  have HD:Hid (∀ W':World,Below W.heap.size W W'→Calls Tryz.prog 26 #[.slice a ds.length cap,.int .i64 (pos:Int)] W' fun e w'=>NdR W' (q0e y ky.dcs).nodes e w'):=fun W' hb=>hk.1 pos r hd W' (hN.below hb)
  have HEN:Hid (∀ W':World,Below W.heap.size W W'→Calls Tryz.prog 24 #[.slice a ds.length cap,.int .i64 (pos:Int)] W' fun e w'=>e = .returned (.int .i64 (j:Int))∧Below W'.heap.size W' w'):=fun W' hb=>k3g (cap:=cap) hs ene hp W' (hN.below hb)
  have HKS:Hid (∀ W':World,Below W.heap.size W W'→Calls Tryz.prog 62 #[.slice a ds.length cap,.int .i64 (j:Int),.int .i64 ((n.len:Int)+1)] W' fun e w'=>NdR W' (kdD (Fo.cons z kz n).dcs).nodes e w'):=fun W' hb=>by
   have h:=z2t hs (.cons z kz n) j r edn hok.2.2 hk.2 (by simp [Fo.len]) W' (hN.below hb)
   have e:(((Fo.cons z kz n).len:Nat):Int)=(n.len:Int)+1:=by simp [Fo.len]
   rw [e] at h
   exact h
  have hln:n.len≤100:=by
   have h6:=congrArg List.length hd
   rw [List.length_drop,List.length_append] at h6
   have h7:n.nodes.length≤(Fo.cons y ky (.cons z kz n)).nodes.length:=by simp only [Fo.nodes,List.length_cons,List.length_append];omega
   have h8:=z8p n
   have:=hs.l
   omega
  have hzy:(q0e y ky.dcs).nodes.length≤800∧(kdD (Fo.cons z kz n).dcs).nodes.length≤801:=by
   have h1:=k6j (Fo.cons z kz n).dcs
   have h4:z1t (Fo.cons y ky (.cons z kz n)).dcs=(q0e y ky.dcs).nodes.length+5+z1t (Fo.cons z kz n).dcs:=by rw [Fo.dcs,q1t]
   omega
  have HRR:Hid ((kdD (Fo.cons y ky (.cons z kz n)).dcs).nodes=⟨6,⟨#[]⟩,0⟩::((⟨6,⟨#[]⟩,0⟩::((q0e y ky.dcs).nodes++[⟨1,⟨#[44]⟩,0⟩]))++(⟨6,⟨#[]⟩,0⟩::([⟨2,⟨#[]⟩,0⟩]++(kdD (Fo.cons z kz n).dcs).nodes)))):=rfl
  have elen:(((Fo.cons y ky (.cons z kz n)).len:Nat):Int)=(n.len:Int)+1+1:=by simp [Fo.len]
  rw [HRR.out,elen]
  generalize (q0e y ky.dcs).nodes=xs at HD hzy ⊢
  generalize (kdD (Fo.cons z kz n).dcs).nodes=ks at HKS hzy ⊢
  generalize n.len=m at HKS hln ⊢
  have hm1:((m:Int)+1+1 == 1)=false:=beq_false_of_ne (by omega)
  have hm2:¬ (m:Int)+1+1=1:=by omega
  obtain ⟨hx8,hk8⟩:=hzy
  clear hd hok hk hN hz ey ene edn hj HRR elen
  go_enter Tryz.func62,Tryz.ntmps62
  go_wp2_with fail
  refine (HD.out _ (Below.refl _ _)).mono ?_
  rintro e w1 h1
  obtain ⟨v1,rfl,n1,b1⟩:=h1.val
  have hbl:NdV (w1.alloc (.cells #[.int .i64 2,.string ⟨#[]⟩,.int .i64 0] 107)) (.slice (some ⟨w1.heap.size,0,none⟩) 1 1) [⟨2,⟨#[]⟩,0⟩]:=(q4z.one w1 ⟨2,⟨#[]⟩,0⟩).val
  have hb2:Below w1.heap.size w1 (w1.alloc (.cells #[.int .i64 2,.string ⟨#[]⟩,.int .i64 0] 107)):=(Below.refl _ _).alloc (Nat.le_refl _) _
  have HBL2:=(show Hid (NdV (w1.alloc (.cells #[.int .i64 2,.string ⟨#[]⟩,.int .i64 0] 107)) (.slice (some ⟨w1.heap.size,0,none⟩) 1 1) [⟨2,⟨#[]⟩,0⟩]) from hbl)
  have HV2:Hid (NdV (w1.alloc (.cells #[.int .i64 2,.string ⟨#[]⟩,.int .i64 0] 107)) v1 xs):=n1.below hb2
  have HB2:Hid (Below W.heap.size W (w1.alloc (.cells #[.int .i64 2,.string ⟨#[]⟩,.int .i64 0] 107))):=q0i b1 (Nat.le_refl _) hb2
  clear h1 n1 b1 hbl hb2
  go_wp2_with fail
  generalize w1.alloc (.cells #[.int .i64 2,.string ⟨#[]⟩,.int .i64 0] 107)=w2 at HBL2 HV2 HB2 ⊢
  refine (q0t _ _).mono ?_
  rintro e w3 h3
  obtain ⟨v3,rfl,n3,b3⟩:=h3.val
  have HB3:Hid (Below W.heap.size W w3):=q0i HB2.out (Nat.le_refl _) b3
  have HV3:Hid (NdV w3 v1 xs):=HV2.out.below b3
  have HC3:Hid (NdV w3 v3 [⟨1,⟨#[44]⟩,0⟩]):=n3
  have HBL3:Hid (NdV w3 (.slice (some ⟨w1.heap.size,0,none⟩) 1 1) [⟨2,⟨#[]⟩,0⟩]):=HBL2.out.below b3
  clear h3 n3 b3 HB2 HV2 HBL2
  go_wp2_with fail
  refine (q0m _ HV3.out HC3.out (by simp;omega)).mono ?_
  rintro e w4 h4
  obtain ⟨v4,rfl,n4,b4⟩:=h4.val
  have HB4:Hid (Below W.heap.size W w4):=q0i HB3.out (Nat.le_refl _) b4
  have HV4:Hid (NdV w4 v4 (⟨6,⟨#[]⟩,0⟩::(xs++[⟨1,⟨#[44]⟩,0⟩]))):=n4
  have HBL4:Hid (NdV w4 (.slice (some ⟨w1.heap.size,0,none⟩) 1 1) [⟨2,⟨#[]⟩,0⟩]):=HBL3.out.below b4
  clear h4 n4 b4 HB3 HV3 HC3 HBL3
  go_wp2_with fail
  refine (HEN.out _ HB4.out).mono ?_
  rintro e w5 ⟨rfl,b5⟩
  have HB5:Hid (Below W.heap.size W w5):=q0i HB4.out (Nat.le_refl _) b5
  have HV5:Hid (NdV w5 v4 (⟨6,⟨#[]⟩,0⟩::(xs++[⟨1,⟨#[44]⟩,0⟩]))):=HV4.out.below b5
  have HBL5:Hid (NdV w5 (.slice (some ⟨w1.heap.size,0,none⟩) 1 1) [⟨2,⟨#[]⟩,0⟩]):=HBL4.out.below b5
  clear b5 HB4 HV4 HBL4
  go_wp2_with fail
  refine (HKS.out _ HB5.out).mono ?_
  rintro e w6 h6
  obtain ⟨v6,rfl,n6,b6⟩:=h6.val
  have HB6:Hid (Below W.heap.size W w6):=q0i HB5.out (Nat.le_refl _) b6
  have HV6:Hid (NdV w6 v4 (⟨6,⟨#[]⟩,0⟩::(xs++[⟨1,⟨#[44]⟩,0⟩]))):=HV5.out.below b6
  have HK6:Hid (NdV w6 v6 ks):=n6
  have HBL6:Hid (NdV w6 (.slice (some ⟨w1.heap.size,0,none⟩) 1 1) [⟨2,⟨#[]⟩,0⟩]):=HBL5.out.below b6
  clear h6 n6 b6 HB5 HV5 HBL5
  go_wp2_with fail
  refine (q0m _ HBL6.out HK6.out (by simp;omega)).mono ?_
  rintro e w7 h7
  obtain ⟨v7,rfl,n7,b7⟩:=h7.val
  have HB7:Hid (Below W.heap.size W w7):=q0i HB6.out (Nat.le_refl _) b7
  have HV7:Hid (NdV w7 v4 (⟨6,⟨#[]⟩,0⟩::(xs++[⟨1,⟨#[44]⟩,0⟩]))):=HV6.out.below b7
  have HK7:Hid (NdV w7 v7 (⟨6,⟨#[]⟩,0⟩::([⟨2,⟨#[]⟩,0⟩]++ks))):=n7
  clear h7 n7 b7 HB6 HV6 HK6 HBL6
  go_wp2_with fail
  refine (q0m _ HV7.out HK7.out (by simp;omega)).mono ?_
  rintro e w8 h8
  have HR:Hid (NdR W (⟨6,⟨#[]⟩,0⟩::((⟨6,⟨#[]⟩,0⟩::(xs++[⟨1,⟨#[44]⟩,0⟩]))++(⟨6,⟨#[]⟩,0⟩::([⟨2,⟨#[]⟩,0⟩]++ks)))) e w8):=h8.from HB7.out
  obtain ⟨v8,rfl,_,_⟩:=h8.val
  clear h8
  go_wp2
  go_ret
  exact HR.out
end Go.Proofs.YthjapabokcajhaaGreatDoor
namespace Go.Proofs.YthjapabokcajhaaGreatDoor
open Go Go.RowKit
set_option maxRecDepth 100000
set_option maxHeartbeats 8000000
abbrev Sev (W:World) (N:Nat) (w:World):Prop:=Six W w∧w.cell? ⟨W.heap.size,2,none⟩=some (.int .i64 ((N:Nat):Int))
theorem q0p.sev {W:World} {o:Int} {t:ByteArray} {N:Nat} {w:World} (h:q0p W ⟨o,t,((N:Nat):Int)⟩ w):Sev W N w:=⟨h.six,h.n.2.2.2⟩
theorem v8n (t:ByteArray) (c:UInt8):t++(⟨#[c]⟩:ByteArray)=wbS (btL t++[c]):=by
 have e:wbS (btL t)++wbS [c]=wbS (btL t++[c]):=q3d _ _
 exact e
theorem z9l (op cl:List UInt8):(q1i op cl []).nodes=[⟨1,wbS (op++cl),0⟩]:=rfl
theorem z9k {op cl:List UInt8} {ps:List (Td × Tr)} (h:ps.length≠0):(q1i op cl ps).nodes=⟨8,⟨#[]⟩,0⟩::(⟨6,⟨#[]⟩,0⟩::([⟨1,wbS op,0⟩]++(⟨6,⟨#[]⟩,0⟩::((⟨7,⟨#[]⟩,2⟩::(⟨6,⟨#[]⟩,0⟩::([⟨3,⟨#[]⟩,0⟩]++(kdD ps).nodes)))++(⟨6,⟨#[]⟩,0⟩::([⟨3,⟨#[]⟩,0⟩]++[⟨1,wbS cl,0⟩])))))):=by
 rw [q1i,if_neg h];rfl
theorem k9s {ds:List Td} {a:Option Addr} {cap i N:Nat} {xt:ByteArray} (hl:ds.length≤40) (hi:i<ds.length) (hN6:N≤6) (hx8:xt.size≤8) (W:World) (hN:Tds W a ds) (he:ds[i]=⟨3,xt,((N:Nat):Int)⟩) (ks:List Nd) (hkl:ks.length≤900)
  (hK:N≠0→∀ W':World,Below W.heap.size W W'→Calls Tryz.prog 62 #[.slice a ds.length cap,.int .i64 ((i:Int)+1),.int .i64 ((N:Nat):Int)] W' fun e w'=>NdR W' ks e w') :
  Calls Tryz.prog 26 #[.slice a ds.length cap,.int .i64 (i:Int)] W fun e w'=>NdR W (if N=0 then [⟨1,(xt++(⟨#[40]⟩:ByteArray))++(⟨#[41]⟩:ByteArray),0⟩] else ⟨8,⟨#[]⟩,0⟩::(⟨6,⟨#[]⟩,0⟩::([⟨1,xt++(⟨#[40]⟩:ByteArray),0⟩]++(⟨6,⟨#[]⟩,0⟩::((⟨7,⟨#[]⟩,2⟩::(⟨6,⟨#[]⟩,0⟩::([⟨3,⟨#[]⟩,0⟩]++ks)))++(⟨6,⟨#[]⟩,0⟩::([⟨3,⟨#[]⟩,0⟩]++[⟨1,(⟨#[41]⟩:ByteArray),0⟩])))))))  e w':=by
 obtain ⟨b,o,rfl,hb,c1,c2,c3⟩:=hN i hi
 have hii:(i:Int)<(ds.length:Int):=by omega
 rw [he] at c1 c2 c3
 simp only at c1 c2 c3
 have HPR:Hid (q0p W ⟨3,xt,((N:Nat):Int)⟩ (dcW W 3 xt ((N:Nat):Int))):=z4i W ⟨3,xt,((N:Nat):Int)⟩
 have hsz:(xt++(⟨#[40]⟩:ByteArray)).size=xt.size+1:=by rw [ByteArray.size_append];rfl
 have g1:¬ (9223372036854775807:Int)<(xt.size:Int)+1:=by omega
 have g2:¬ (9223372036854775807:Int)<(xt.size:Int)+1+1:=by omega
 have hwr:IntKind.i64.wrap ((i:Int)+1)=(i:Int)+1:=by rw [IntKind.wrap_i64];omega
 have HKK:Hid (N≠0→∀ W':World,Below W.heap.size W W'→Calls Tryz.prog 62 #[.slice (some ⟨b,o,none⟩) ds.length cap,.int .i64 ((i:Int)+1),.int .i64 ((N:Nat):Int)] W' fun e w'=>NdR W' ks e w'):=hK
 clear hN he hK
 by_cases h0:N=0
 ·subst h0
  rw [if_pos rfl]
  go_enter Tryz.func26,Tryz.ntmps26
  go_wp2_with fail
  refine (q0t _ _).mono ?_
  rintro e w3 h3
  have HR:Hid (NdR W [⟨1,(xt++(⟨#[40]⟩:ByteArray))++(⟨#[41]⟩:ByteArray),0⟩] e w3):=h3.from HPR.out.b
  obtain ⟨v3,rfl,_,_⟩:=h3.val
  clear h3
  go_wp2
  go_ret
  exact HR.out
 ·rw [if_neg h0]
  have h0b:(((N:Nat):Int) == 0)=false:=beq_false_of_ne (by omega)
  have h0i:¬ ((N:Nat):Int)=0:=by omega
  have HKS:Hid (∀ W':World,Below W.heap.size W W'→Calls Tryz.prog 62 #[.slice (some ⟨b,o,none⟩) ds.length cap,.int .i64 ((i:Int)+1),.int .i64 ((N:Nat):Int)] W' fun e w'=>NdR W' ks e w'):=HKK.out h0
  clear HKK h0
  go_enter Tryz.func26,Tryz.ntmps26
  go_wp2_with fail
  generalize hw3:((((W.alloc (.cells #[.int .i64 3,.string xt,.int .i64 ((N:Nat):Int)] 47)).alloc (.cells #[.int .i64 2,.string ⟨#[]⟩,.int .i64 0] 107)).alloc (.cells #[.int .i64 3,.string ⟨#[]⟩,.int .i64 0] 107)).alloc (.cells #[.int .i64 8,.string ⟨#[]⟩,.int .i64 0] 107)).alloc (.cells #[.int .i64 7,.string ⟨#[]⟩,.int .i64 2] 107)=w3
  have HP3:Hid (q0p W ⟨3,xt,((N:Nat):Int)⟩ w3):=by
   show q0p _ _ _
   rw [←hw3]
   exact HPR.out
  have SK3:Hid (Sev W N w3):=HP3.out.sev
  have SKD:Hid (Sev W N w3.drew):=HP3.out.sev
  have HD0:Hid (Below w3.heap.size w3 w3.drew):=(Below.refl _ _).drew
  have HB0:Hid (Below W.heap.size W w3.drew):=HP3.out.b.drew
  clear hw3 HPR c1 c2 c3
  go_region_held3 (fun w'=>Sev W N w') (first | with_reducible exact SKD.out | with_reducible exact SK3.out | with_reducible exact SK4.out | with_reducible exact SK5.out | with_reducible exact SK6.out)
   (first
     | (go_at_call 60;refine ((q1v ⟨7,⟨#[]⟩,2⟩ (w5) HC5.out (by simp<;>omega))).mono ?_;rintro e w6 h6;obtain ⟨v6,rfl,n6,b6⟩:=h6.val;have HP6:Hid (q0p W ⟨3,xt,((N:Nat):Int)⟩ w6):=HP5.out.below b6;have SK6:Hid (Sev W N w6):=HP6.out.sev;have HI6:Hid (NdV w6 v6 (⟨7,⟨#[]⟩,2⟩::(⟨6,⟨#[]⟩,0⟩::([⟨3,⟨#[]⟩,0⟩]++ks)))):=n6;clear h6 n6 b6)
     | (go_at_call 61;refine ((q0m (w4) HP4.out.sf HK4.out (by simp<;>omega))).mono ?_;rintro e w5 h5;obtain ⟨v5,rfl,n5,b5⟩:=h5.val;have HP5:Hid (q0p W ⟨3,xt,((N:Nat):Int)⟩ w5):=HP4.out.below b5;have SK5:Hid (Sev W N w5):=HP5.out.sev;have HC5:Hid (NdV w5 v5 (⟨6,⟨#[]⟩,0⟩::([⟨3,⟨#[]⟩,0⟩]++ks))):=n5;clear h5 n5 b5)
     | (go_at_call 62;refine ((HKS.out (w3.drew) HB0.out).mono fun _ _ h=>h.from HD0.out).mono ?_;rintro e w4 h4;obtain ⟨v4,rfl,n4,b4⟩:=h4.val;have HP4:Hid (q0p W ⟨3,xt,((N:Nat):Int)⟩ w4):=HP3.out.below b4;have SK4:Hid (Sev W N w4):=HP4.out.sev;have HK4:Hid (NdV w4 v4 (ks)):=n4;clear h4 n4 b4))
  all_goals
   clear SKD HD0 HB0
   have SKD:Hid (Sev W N w6.drew):=HP6.out.sev
   have HD0:Hid (Below w6.heap.size w6 w6.drew):=(Below.refl _ _).drew
   clear HKS SK3 SK4 SK5 HP3 HP4 HP5
   go_wp2_with fail
   go_region_held3 (fun w'=>Sev W N w') (first | with_reducible exact SKD.out | with_reducible exact SK6.out | with_reducible exact SK7.out | with_reducible exact SK8.out | with_reducible exact SK9.out | with_reducible exact SK10.out | with_reducible exact SK11.out | with_reducible exact SK12.out)
    (first
     | (go_at_call 60;refine ((q1v ⟨8,⟨#[]⟩,0⟩ (w11) HJ11.out (by simp<;>omega))).mono ?_;rintro e w12 h12;have HR9:Hid (NdR W (⟨8,⟨#[]⟩,0⟩::(⟨6,⟨#[]⟩,0⟩::([⟨1,xt++(⟨#[40]⟩:ByteArray),0⟩]++(⟨6,⟨#[]⟩,0⟩::((⟨7,⟨#[]⟩,2⟩::(⟨6,⟨#[]⟩,0⟩::([⟨3,⟨#[]⟩,0⟩]++ks)))++(⟨6,⟨#[]⟩,0⟩::([⟨3,⟨#[]⟩,0⟩]++[⟨1,(⟨#[41]⟩:ByteArray),0⟩]))))))) e w12):=h12.from HP11.out.b;obtain ⟨v12,rfl,n12,b12⟩:=h12.val;have HP12:Hid (q0p W ⟨3,xt,((N:Nat):Int)⟩ w12):=HP11.out.below b12;have SK12:Hid (Sev W N w12):=HP12.out.sev;clear h12 n12 b12)
     | (go_at_call 61;refine ((q0m (w10) HO10.out HG10.out (by simp<;>omega))).mono ?_;rintro e w11 h11;obtain ⟨v11,rfl,n11,b11⟩:=h11.val;have HP11:Hid (q0p W ⟨3,xt,((N:Nat):Int)⟩ w11):=HP10.out.below b11;have SK11:Hid (Sev W N w11):=HP11.out.sev;have HJ11:Hid (NdV w11 v11 (⟨6,⟨#[]⟩,0⟩::([⟨1,xt++(⟨#[40]⟩:ByteArray),0⟩]++(⟨6,⟨#[]⟩,0⟩::((⟨7,⟨#[]⟩,2⟩::(⟨6,⟨#[]⟩,0⟩::([⟨3,⟨#[]⟩,0⟩]++ks)))++(⟨6,⟨#[]⟩,0⟩::([⟨3,⟨#[]⟩,0⟩]++[⟨1,(⟨#[41]⟩:ByteArray),0⟩]))))))):=n11;clear h11 n11 b11)
     | (go_at_call 61;refine ((q0m (w9) HI9.out HF9.out (by simp<;>omega))).mono ?_;rintro e w10 h10;obtain ⟨v10,rfl,n10,b10⟩:=h10.val;have HP10:Hid (q0p W ⟨3,xt,((N:Nat):Int)⟩ w10):=HP9.out.below b10;have SK10:Hid (Sev W N w10):=HP10.out.sev;have HO10:Hid (NdV w10 v7 ([⟨1,xt++(⟨#[40]⟩:ByteArray),0⟩])):=HO9.out.below b10;have HG10:Hid (NdV w10 v10 (⟨6,⟨#[]⟩,0⟩::((⟨7,⟨#[]⟩,2⟩::(⟨6,⟨#[]⟩,0⟩::([⟨3,⟨#[]⟩,0⟩]++ks)))++(⟨6,⟨#[]⟩,0⟩::([⟨3,⟨#[]⟩,0⟩]++[⟨1,(⟨#[41]⟩:ByteArray),0⟩]))))):=n10;clear h10 n10 b10)
     | (go_at_call 61;refine ((q0m (w8) HP8.out.sf HE8.out (by simp<;>omega))).mono ?_;rintro e w9 h9;obtain ⟨v9,rfl,n9,b9⟩:=h9.val;have HP9:Hid (q0p W ⟨3,xt,((N:Nat):Int)⟩ w9):=HP8.out.below b9;have SK9:Hid (Sev W N w9):=HP9.out.sev;have HI9:Hid (NdV w9 v6 (⟨7,⟨#[]⟩,2⟩::(⟨6,⟨#[]⟩,0⟩::([⟨3,⟨#[]⟩,0⟩]++ks)))):=HI8.out.below b9;have HO9:Hid (NdV w9 v7 ([⟨1,xt++(⟨#[40]⟩:ByteArray),0⟩])):=HO8.out.below b9;have HF9:Hid (NdV w9 v9 (⟨6,⟨#[]⟩,0⟩::([⟨3,⟨#[]⟩,0⟩]++[⟨1,(⟨#[41]⟩:ByteArray),0⟩]))):=n9;clear h9 n9 b9)
     | (go_at_call 57;refine ((q0t _ (w7))).mono ?_;rintro e w8 h8;obtain ⟨v8,rfl,n8,b8⟩:=h8.val;have HP8:Hid (q0p W ⟨3,xt,((N:Nat):Int)⟩ w8):=HP7.out.below b8;have SK8:Hid (Sev W N w8):=HP8.out.sev;have HI8:Hid (NdV w8 v6 (⟨7,⟨#[]⟩,2⟩::(⟨6,⟨#[]⟩,0⟩::([⟨3,⟨#[]⟩,0⟩]++ks)))):=HI7.out.below b8;have HO8:Hid (NdV w8 v7 ([⟨1,xt++(⟨#[40]⟩:ByteArray),0⟩])):=HO7.out.below b8;have HE8:Hid (NdV w8 v8 ([⟨1,(⟨#[41]⟩:ByteArray),0⟩])):=n8;clear h8 n8 b8)
     | (go_at_call 57;refine ((q0t _ (w6.drew)).mono fun _ _ h=>h.from HD0.out).mono ?_;rintro e w7 h7;obtain ⟨v7,rfl,n7,b7⟩:=h7.val;have HP7:Hid (q0p W ⟨3,xt,((N:Nat):Int)⟩ w7):=HP6.out.below b7;have SK7:Hid (Sev W N w7):=HP7.out.sev;have HI7:Hid (NdV w7 v6 (⟨7,⟨#[]⟩,2⟩::(⟨6,⟨#[]⟩,0⟩::([⟨3,⟨#[]⟩,0⟩]++ks)))):=HI6.out.below b7;have HO7:Hid (NdV w7 v7 ([⟨1,xt++(⟨#[40]⟩:ByteArray),0⟩])):=n7;clear h7 n7 b7))
   all_goals
    go_wp2
    go_ret
    exact HR9.out
theorem k9t {ds:List Td} {a:Option Addr} {cap i N:Nat} {xt:ByteArray} (hl:ds.length≤40) (hi:i<ds.length) (hN6:N≤6) (hx8:xt.size≤8) (W:World) (hN:Tds W a ds) (he:ds[i]=⟨4,⟨#[]⟩,((N:Nat):Int)⟩) (ks:List Nd) (hkl:ks.length≤900)
  (hK:N≠0→∀ W':World,Below W.heap.size W W'→Calls Tryz.prog 62 #[.slice a ds.length cap,.int .i64 ((i:Int)+1),.int .i64 ((N:Nat):Int)] W' fun e w'=>NdR W' ks e w') :
  Calls Tryz.prog 26 #[.slice a ds.length cap,.int .i64 (i:Int)] W fun e w'=>NdR W (if N=0 then [⟨1,((⟨#[91]⟩:ByteArray))++(⟨#[93]⟩:ByteArray),0⟩] else ⟨8,⟨#[]⟩,0⟩::(⟨6,⟨#[]⟩,0⟩::([⟨1,(⟨#[91]⟩:ByteArray),0⟩]++(⟨6,⟨#[]⟩,0⟩::((⟨7,⟨#[]⟩,2⟩::(⟨6,⟨#[]⟩,0⟩::([⟨3,⟨#[]⟩,0⟩]++ks)))++(⟨6,⟨#[]⟩,0⟩::([⟨3,⟨#[]⟩,0⟩]++[⟨1,(⟨#[93]⟩:ByteArray),0⟩])))))))  e w':=by
 obtain ⟨b,o,rfl,hb,c1,c2,c3⟩:=hN i hi
 have hii:(i:Int)<(ds.length:Int):=by omega
 rw [he] at c1 c2 c3
 simp only at c1 c2 c3
 have HPR:Hid (q0p W ⟨4,⟨#[]⟩,((N:Nat):Int)⟩ (dcW W 4 ⟨#[]⟩ ((N:Nat):Int))):=z4i W ⟨4,⟨#[]⟩,((N:Nat):Int)⟩
 have hsz:(xt++(⟨#[40]⟩:ByteArray)).size=xt.size+1:=by rw [ByteArray.size_append];rfl
 have g1:¬ (9223372036854775807:Int)<(xt.size:Int)+1:=by omega
 have g2:¬ (9223372036854775807:Int)<(xt.size:Int)+1+1:=by omega
 have hwr:IntKind.i64.wrap ((i:Int)+1)=(i:Int)+1:=by rw [IntKind.wrap_i64];omega
 have HKK:Hid (N≠0→∀ W':World,Below W.heap.size W W'→Calls Tryz.prog 62 #[.slice (some ⟨b,o,none⟩) ds.length cap,.int .i64 ((i:Int)+1),.int .i64 ((N:Nat):Int)] W' fun e w'=>NdR W' ks e w'):=hK
 clear hN he hK
 by_cases h0:N=0
 ·subst h0
  rw [if_pos rfl]
  go_enter Tryz.func26,Tryz.ntmps26
  go_wp2_with fail
  refine (q0t _ _).mono ?_
  rintro e w3 h3
  have HR:Hid (NdR W [⟨1,((⟨#[91]⟩:ByteArray))++(⟨#[93]⟩:ByteArray),0⟩] e w3):=h3.from HPR.out.b
  obtain ⟨v3,rfl,_,_⟩:=h3.val
  clear h3
  go_wp2
  go_ret
  exact HR.out
 ·rw [if_neg h0]
  have h0b:(((N:Nat):Int) == 0)=false:=beq_false_of_ne (by omega)
  have h0i:¬ ((N:Nat):Int)=0:=by omega
  have HKS:Hid (∀ W':World,Below W.heap.size W W'→Calls Tryz.prog 62 #[.slice (some ⟨b,o,none⟩) ds.length cap,.int .i64 ((i:Int)+1),.int .i64 ((N:Nat):Int)] W' fun e w'=>NdR W' ks e w'):=HKK.out h0
  clear HKK h0
  go_enter Tryz.func26,Tryz.ntmps26
  go_wp2_with fail
  generalize hw3:((((W.alloc (.cells #[.int .i64 4,.string ⟨#[]⟩,.int .i64 ((N:Nat):Int)] 47)).alloc (.cells #[.int .i64 2,.string ⟨#[]⟩,.int .i64 0] 107)).alloc (.cells #[.int .i64 3,.string ⟨#[]⟩,.int .i64 0] 107)).alloc (.cells #[.int .i64 8,.string ⟨#[]⟩,.int .i64 0] 107)).alloc (.cells #[.int .i64 7,.string ⟨#[]⟩,.int .i64 2] 107)=w3
  have HP3:Hid (q0p W ⟨4,⟨#[]⟩,((N:Nat):Int)⟩ w3):=by
   show q0p _ _ _
   rw [←hw3]
   exact HPR.out
  have SK3:Hid (Sev W N w3):=HP3.out.sev
  have SKD:Hid (Sev W N w3.drew):=HP3.out.sev
  have HD0:Hid (Below w3.heap.size w3 w3.drew):=(Below.refl _ _).drew
  have HB0:Hid (Below W.heap.size W w3.drew):=HP3.out.b.drew
  clear hw3 HPR c1 c2 c3
  go_region_held3 (fun w'=>Sev W N w') (first | with_reducible exact SKD.out | with_reducible exact SK3.out | with_reducible exact SK4.out | with_reducible exact SK5.out | with_reducible exact SK6.out)
   (first
     | (go_at_call 60;refine ((q1v ⟨7,⟨#[]⟩,2⟩ (w5) HC5.out (by simp<;>omega))).mono ?_;rintro e w6 h6;obtain ⟨v6,rfl,n6,b6⟩:=h6.val;have HP6:Hid (q0p W ⟨4,⟨#[]⟩,((N:Nat):Int)⟩ w6):=HP5.out.below b6;have SK6:Hid (Sev W N w6):=HP6.out.sev;have HI6:Hid (NdV w6 v6 (⟨7,⟨#[]⟩,2⟩::(⟨6,⟨#[]⟩,0⟩::([⟨3,⟨#[]⟩,0⟩]++ks)))):=n6;clear h6 n6 b6)
     | (go_at_call 61;refine ((q0m (w4) HP4.out.sf HK4.out (by simp<;>omega))).mono ?_;rintro e w5 h5;obtain ⟨v5,rfl,n5,b5⟩:=h5.val;have HP5:Hid (q0p W ⟨4,⟨#[]⟩,((N:Nat):Int)⟩ w5):=HP4.out.below b5;have SK5:Hid (Sev W N w5):=HP5.out.sev;have HC5:Hid (NdV w5 v5 (⟨6,⟨#[]⟩,0⟩::([⟨3,⟨#[]⟩,0⟩]++ks))):=n5;clear h5 n5 b5)
     | (go_at_call 62;refine ((HKS.out (w3.drew) HB0.out).mono fun _ _ h=>h.from HD0.out).mono ?_;rintro e w4 h4;obtain ⟨v4,rfl,n4,b4⟩:=h4.val;have HP4:Hid (q0p W ⟨4,⟨#[]⟩,((N:Nat):Int)⟩ w4):=HP3.out.below b4;have SK4:Hid (Sev W N w4):=HP4.out.sev;have HK4:Hid (NdV w4 v4 (ks)):=n4;clear h4 n4 b4))
  all_goals
   clear SKD HD0 HB0
   have SKD:Hid (Sev W N w6.drew):=HP6.out.sev
   have HD0:Hid (Below w6.heap.size w6 w6.drew):=(Below.refl _ _).drew
   clear HKS SK3 SK4 SK5 HP3 HP4 HP5
   go_wp2_with fail
   go_region_held3 (fun w'=>Sev W N w') (first | with_reducible exact SKD.out | with_reducible exact SK6.out | with_reducible exact SK7.out | with_reducible exact SK8.out | with_reducible exact SK9.out | with_reducible exact SK10.out | with_reducible exact SK11.out | with_reducible exact SK12.out)
    (first
     | (go_at_call 60;refine ((q1v ⟨8,⟨#[]⟩,0⟩ (w11) HJ11.out (by simp<;>omega))).mono ?_;rintro e w12 h12;have HR9:Hid (NdR W (⟨8,⟨#[]⟩,0⟩::(⟨6,⟨#[]⟩,0⟩::([⟨1,(⟨#[91]⟩:ByteArray),0⟩]++(⟨6,⟨#[]⟩,0⟩::((⟨7,⟨#[]⟩,2⟩::(⟨6,⟨#[]⟩,0⟩::([⟨3,⟨#[]⟩,0⟩]++ks)))++(⟨6,⟨#[]⟩,0⟩::([⟨3,⟨#[]⟩,0⟩]++[⟨1,(⟨#[93]⟩:ByteArray),0⟩]))))))) e w12):=h12.from HP11.out.b;obtain ⟨v12,rfl,n12,b12⟩:=h12.val;have HP12:Hid (q0p W ⟨4,⟨#[]⟩,((N:Nat):Int)⟩ w12):=HP11.out.below b12;have SK12:Hid (Sev W N w12):=HP12.out.sev;clear h12 n12 b12)
     | (go_at_call 61;refine ((q0m (w10) HO10.out HG10.out (by simp<;>omega))).mono ?_;rintro e w11 h11;obtain ⟨v11,rfl,n11,b11⟩:=h11.val;have HP11:Hid (q0p W ⟨4,⟨#[]⟩,((N:Nat):Int)⟩ w11):=HP10.out.below b11;have SK11:Hid (Sev W N w11):=HP11.out.sev;have HJ11:Hid (NdV w11 v11 (⟨6,⟨#[]⟩,0⟩::([⟨1,(⟨#[91]⟩:ByteArray),0⟩]++(⟨6,⟨#[]⟩,0⟩::((⟨7,⟨#[]⟩,2⟩::(⟨6,⟨#[]⟩,0⟩::([⟨3,⟨#[]⟩,0⟩]++ks)))++(⟨6,⟨#[]⟩,0⟩::([⟨3,⟨#[]⟩,0⟩]++[⟨1,(⟨#[93]⟩:ByteArray),0⟩]))))))):=n11;clear h11 n11 b11)
     | (go_at_call 61;refine ((q0m (w9) HI9.out HF9.out (by simp<;>omega))).mono ?_;rintro e w10 h10;obtain ⟨v10,rfl,n10,b10⟩:=h10.val;have HP10:Hid (q0p W ⟨4,⟨#[]⟩,((N:Nat):Int)⟩ w10):=HP9.out.below b10;have SK10:Hid (Sev W N w10):=HP10.out.sev;have HO10:Hid (NdV w10 v7 ([⟨1,(⟨#[91]⟩:ByteArray),0⟩])):=HO9.out.below b10;have HG10:Hid (NdV w10 v10 (⟨6,⟨#[]⟩,0⟩::((⟨7,⟨#[]⟩,2⟩::(⟨6,⟨#[]⟩,0⟩::([⟨3,⟨#[]⟩,0⟩]++ks)))++(⟨6,⟨#[]⟩,0⟩::([⟨3,⟨#[]⟩,0⟩]++[⟨1,(⟨#[93]⟩:ByteArray),0⟩]))))):=n10;clear h10 n10 b10)
     | (go_at_call 61;refine ((q0m (w8) HP8.out.sf HE8.out (by simp<;>omega))).mono ?_;rintro e w9 h9;obtain ⟨v9,rfl,n9,b9⟩:=h9.val;have HP9:Hid (q0p W ⟨4,⟨#[]⟩,((N:Nat):Int)⟩ w9):=HP8.out.below b9;have SK9:Hid (Sev W N w9):=HP9.out.sev;have HI9:Hid (NdV w9 v6 (⟨7,⟨#[]⟩,2⟩::(⟨6,⟨#[]⟩,0⟩::([⟨3,⟨#[]⟩,0⟩]++ks)))):=HI8.out.below b9;have HO9:Hid (NdV w9 v7 ([⟨1,(⟨#[91]⟩:ByteArray),0⟩])):=HO8.out.below b9;have HF9:Hid (NdV w9 v9 (⟨6,⟨#[]⟩,0⟩::([⟨3,⟨#[]⟩,0⟩]++[⟨1,(⟨#[93]⟩:ByteArray),0⟩]))):=n9;clear h9 n9 b9)
     | (go_at_call 57;refine ((q0t _ (w7))).mono ?_;rintro e w8 h8;obtain ⟨v8,rfl,n8,b8⟩:=h8.val;have HP8:Hid (q0p W ⟨4,⟨#[]⟩,((N:Nat):Int)⟩ w8):=HP7.out.below b8;have SK8:Hid (Sev W N w8):=HP8.out.sev;have HI8:Hid (NdV w8 v6 (⟨7,⟨#[]⟩,2⟩::(⟨6,⟨#[]⟩,0⟩::([⟨3,⟨#[]⟩,0⟩]++ks)))):=HI7.out.below b8;have HO8:Hid (NdV w8 v7 ([⟨1,(⟨#[91]⟩:ByteArray),0⟩])):=HO7.out.below b8;have HE8:Hid (NdV w8 v8 ([⟨1,(⟨#[93]⟩:ByteArray),0⟩])):=n8;clear h8 n8 b8)
     | (go_at_call 57;refine ((q0t _ (w6.drew)).mono fun _ _ h=>h.from HD0.out).mono ?_;rintro e w7 h7;obtain ⟨v7,rfl,n7,b7⟩:=h7.val;have HP7:Hid (q0p W ⟨4,⟨#[]⟩,((N:Nat):Int)⟩ w7):=HP6.out.below b7;have SK7:Hid (Sev W N w7):=HP7.out.sev;have HI7:Hid (NdV w7 v6 (⟨7,⟨#[]⟩,2⟩::(⟨6,⟨#[]⟩,0⟩::([⟨3,⟨#[]⟩,0⟩]++ks)))):=HI6.out.below b7;have HO7:Hid (NdV w7 v7 ([⟨1,(⟨#[91]⟩:ByteArray),0⟩])):=n7;clear h7 n7 b7))
   all_goals
    go_wp2
    go_ret
    exact HR9.out
end Go.Proofs.YthjapabokcajhaaGreatDoor
