/- Texts as one: LyB. -/
import Derived.Test.YtchdplceopegoaaGreatDoorPs38
namespace Go.Proofs.YtchdplceopegoaaGreatDoor
open Go Go.RowKit
set_option maxRecDepth 100000
set_option maxHeartbeats 8000000
abbrev ExL (w0:World) (b:Nat) (x:Td) (k:Fo):Prop:=∀ (rest:List Td) (w:World),LyE w0 b (x::(k.nodes++rest)) w→
 Calls Tryz.prog 185 #[.pointer (some ⟨b,0,none⟩)] w fun e w'=>NdG w0 b w (q0l x k.dcs).nodes rest e w'
def EAL (w0:World) (b:Nat):Fo→Prop
 | .nil=>True
 | .cons x k n=>ExL w0 b x k∧EAL w0 b n
theorem LyE.in {w0:World} {b:Nat} {ds:List Td} {w:World} (h:LyE w0 b ds w):b<w.heap.size:=by
 obtain ⟨A,c,h⟩:=h
 exact h.in
theorem LyE.lk {w0:World} {b:Nat} {ds:List Td} {w:World} (h:LyE w0 b ds w):Lk w0 b w ds w:=⟨But.refl _ _ _,h,h.in⟩
theorem z9f {w0:World} {b:Nat}:∀ (K:Fo),EAL w0 b K→K.len≠0→z4g K.dcs≤1000→K.len≤1000→∀ (r:List Td) (w:World),LyE w0 b (K.nodes++r) w→
  Calls Tryz.prog 240 #[.pointer (some ⟨b,0,none⟩),.int .i64 (K.len:Int)] w fun e w'=>NdG w0 b w (kdD K.dcs).nodes r e w'
 | .nil,_,h0,_,_,_,_,_=>absurd rfl h0
 | .cons y ky .nil,hE,_,_,_,r,w,hW=>by
  have HX:Hid (Calls Tryz.prog 185 #[.pointer (some ⟨b,0,none⟩)] w fun e w'=>NdG w0 b w (q0l y ky.dcs).nodes r e w'):=hE.1 r w (by simpa [Fo.nodes] using hW)
  show Calls Tryz.prog 240 #[.pointer (some ⟨b,0,none⟩),.int .i64 1] w fun e w'=>NdG w0 b w (q0l y ky.dcs).nodes r e w'
  generalize (q0l y ky.dcs).nodes=xs at HX ⊢
  clear hE hW
  go_enter Tryz.func240,Tryz.ntmps240
  go_wp2_with fail
  refine HX.out.mono ?_
  rintro e w1 h1
  have HR:Hid (NdG w0 b w xs r e w1):=h1
  obtain ⟨v1,rfl,_,_⟩:=h1.val
  clear h1
  go_wp2
  go_ret
  exact HR.out
 | .cons y ky (.cons z kz n),hE,_,hs,hkl,r,w,hW=>by
  have hs2:(q0l y ky.dcs).nodes.length+z4g (Fo.cons z kz n).dcs≤1000:=by
   rw [Fo.dcs,q3l] at hs
   have h:(q0l y ky.dcs).nodes.length+5+z4g (Fo.cons z kz n).dcs≤1000:=hs
   omega
  have hkd:=j9x (Fo.cons z kz n).dcs
  have hln:n.len≤1000:=by simp only [Fo.len] at hkl;omega
  have HX:Hid (Calls Tryz.prog 185 #[.pointer (some ⟨b,0,none⟩)] w fun e w'=>NdG w0 b w (q0l y ky.dcs).nodes ((Fo.cons z kz n).nodes++r) e w'):=hE.1 _ w (by simpa [Fo.nodes] using hW)
  have HK:Hid (∀ W,LyE w0 b ((Fo.cons z kz n).nodes++r) W→Calls Tryz.prog 240 #[.pointer (some ⟨b,0,none⟩),.int .i64 ((n.len:Int)+1)] W fun e w'=>NdG w0 b W (kdD (Fo.cons z kz n).dcs).nodes r e w'):=fun W hW=>by
   have h:=z9f (.cons z kz n) hE.2 (by simp [Fo.len]) (by omega) (by simp only [Fo.len] at hkl ⊢;omega) r W hW
   have e:(((Fo.cons z kz n).len:Nat):Int)=(n.len:Int)+1:=by simp [Fo.len]
   rw [e] at h
   exact h
  have HL:Hid (Lk w0 b w ((Fo.cons y ky (.cons z kz n)).nodes++r) w):=hW.lk
  have HRR:Hid ((kdD (Fo.cons y ky (.cons z kz n)).dcs).nodes=⟨6,⟨#[]⟩,0⟩::((⟨6,⟨#[]⟩,0⟩::((q0l y ky.dcs).nodes++[⟨1,⟨#[44]⟩,0⟩]))++(⟨6,⟨#[]⟩,0⟩::([⟨2,⟨#[]⟩,0⟩]++(kdD (Fo.cons z kz n).dcs).nodes)))):=rfl
  have elen:(((Fo.cons y ky (.cons z kz n)).len:Nat):Int)=(n.len:Int)+1+1:=by simp [Fo.len]
  rw [elen]
  generalize (kdD (Fo.cons y ky (.cons z kz n)).dcs).nodes=R at HRR ⊢
  generalize (q0l y ky.dcs).nodes=xs at HX HRR hs2
  generalize (kdD (Fo.cons z kz n).dcs).nodes=ks at HK HRR hkd
  generalize (Fo.cons z kz n).nodes++r=r1 at HX HK
  generalize (Fo.cons y ky (.cons z kz n)).nodes++r=r0 at HL
  generalize z4g (Fo.cons z kz n).dcs=sd at hs2 hkd
  generalize n.len=nl at HK hln ⊢
  have hn1:((nl:Int)+1+1 == 1)=false:=by simp;omega
  clear hE hW hs hkl elen
  go_enter Tryz.func240,Tryz.ntmps240
  go_wp2_with fail
  refine (HX.out).mono ?_
  rintro e w1 h1
  obtain ⟨v1,rfl,n1,l1⟩:=h1.val
  replace HL:=hid (HL.out.then l1)
  have DX:=hid n1
  clear h1 n1 l1
  go_wp2_with fail
  refine (q1p _ _).mono ?_
  rintro e w2 h2
  obtain ⟨v2,rfl,n2,b2⟩:=h2.valB HL.out.in
  replace HL:=hid (HL.out.step b2)
  replace DX:=hid (DX.out.bel b2)
  have DC:=hid n2
  clear h2 n2 b2
  go_wp2_with fail
  refine (q1a _ DX.out.val DC.out.val (by first | (simp;done) | (simp;omega))).mono ?_
  rintro e w3 h3
  obtain ⟨v3,rfl,n3,b3⟩:=h3.valB HL.out.in
  replace HL:=hid (HL.out.step b3)
  clear DX
  clear DC
  have DP:=hid n3
  clear h3 n3 b3
  go_wp2_with fail
  refine (z0w _).mono ?_
  rintro e w4 h4
  obtain ⟨v4,rfl,n4,b4⟩:=h4.valB HL.out.in
  replace HL:=hid (HL.out.step b4)
  replace DP:=hid (DP.out.bel b4)
  have DB:=hid n4
  clear h4 n4 b4
  go_wp2_with fail
  refine (HK.out _ HL.out.ly).mono ?_
  rintro e w5 h5
  obtain ⟨v5,rfl,n5,l5⟩:=h5.val
  replace HL:=hid (HL.out.then l5)
  replace DP:=hid (DP.out.but l5.bt)
  replace DB:=hid (DB.out.but l5.bt)
  have DK:=hid n5
  clear h5 n5 l5
  go_wp2_with fail
  refine (q1a _ DB.out.val DK.out.val (by first | (simp;done) | (simp;omega))).mono ?_
  rintro e w6 h6
  obtain ⟨v6,rfl,n6,b6⟩:=h6.valB HL.out.in
  replace HL:=hid (HL.out.step b6)
  clear DB
  clear DK
  replace DP:=hid (DP.out.bel b6)
  have DQ:=hid n6
  clear h6 n6 b6
  go_wp2_with fail
  refine (q1a _ DP.out.val DQ.out.val (by first | (simp;done) | (simp;omega))).mono ?_
  rintro e w7 h7
  have HX:Hid (NdG w0 b w R r e w7):=by
   have h:=h7.gof HL.out
   show NdG w0 b w R r e w7
   rw [HRR.out]
   exact h
  obtain ⟨v7,rfl,_,_⟩:=h7.val
  clear h7 HL HRR DP DQ
  go_wp2
  go_ret
  exact HX.out
theorem y1r (o c:List UInt8) (ps:List (Td × Tr)) (h:ps.length=0):(q2c o c ps).nodes=[⟨1,wbS (o++c),0⟩]:=by rw [q2c,if_pos h];rfl
theorem v7g (o c:List UInt8) (ps:List (Td × Tr)) (h:¬ ps.length=0):(q2c o c ps).nodes=⟨8,⟨#[]⟩,0⟩::(⟨6,⟨#[]⟩,0⟩::([⟨1,wbS o,0⟩]++(⟨6,⟨#[]⟩,0⟩::((⟨7,⟨#[]⟩,2⟩::(⟨6,⟨#[]⟩,0⟩::([⟨3,⟨#[]⟩,0⟩]++(kdD ps).nodes)))++(⟨6,⟨#[]⟩,0⟩::([⟨3,⟨#[]⟩,0⟩]++[⟨1,wbS c,0⟩])))))):=by rw [q2c,if_neg h];rfl
theorem z1l {w0:World} {b:Nat} (K:Fo) (hE:EAL w0 b K) (hs:z4g K.dcs≤1000) (hkl:K.len≤1000) (o c:ByteArray) (ho:o.size≤100) (hc:c.size≤100) (r:List Td) (w:World) (hW:LyE w0 b (K.nodes++r) w) :
  Calls Tryz.prog 219 #[.pointer (some ⟨b,0,none⟩),.string o,.int .i64 (K.len:Int),.string c] w fun e w'=>NdG w0 b w (q2c (btL o) (btL c) K.dcs).nodes r e w':=by
 have HL:Hid (Lk w0 b w (K.nodes++r) w):=hW.lk
 by_cases h0:K.len=0
 ·have HRR:Hid ((q2c (btL o) (btL c) K.dcs).nodes=[⟨1,o++c,0⟩]):=by
   show _=_
   rw [y1r _ _ _ (by rw [q8c];exact h0)]
   have e:wbS (btL o++btL c)=o++c:=by rw [←q8m,z1q,z1q]
   rw [e]
  have hr:K.nodes++r=r:=by
   cases K with
   | nil=>rfl
   | cons=>simp [Fo.len] at h0
  rw [hr] at HL
  rw [h0]
  generalize (q2c (btL o) (btL c) K.dcs).nodes=R at HRR ⊢
  clear hE hs hkl h0 hr hW
  have hsz:¬ 9223372036854775807<o.size+c.size:=by omega
  go_enter Tryz.func219,Tryz.ntmps219
  go_wp2_with fail
  refine (q1p _ _).mono ?_
  rintro e w1 h1
  have HX:Hid (NdG w0 b w R r e w1):=by
   have h:=h1.gof HL.out
   show NdG w0 b w R r e w1
   rw [HRR.out]
   exact h
  obtain ⟨v1,rfl,_,_⟩:=h1.val
  clear h1 HL HRR
  go_wp2
  go_ret
  exact HX.out
 ·have HRR:Hid ((q2c (btL o) (btL c) K.dcs).nodes=⟨8,⟨#[]⟩,0⟩::(⟨6,⟨#[]⟩,0⟩::([⟨1,o,0⟩]++(⟨6,⟨#[]⟩,0⟩::((⟨7,⟨#[]⟩,2⟩::(⟨6,⟨#[]⟩,0⟩::([⟨3,⟨#[]⟩,0⟩]++(kdD K.dcs).nodes)))++(⟨6,⟨#[]⟩,0⟩::([⟨3,⟨#[]⟩,0⟩]++[⟨1,c,0⟩]))))))):=by
   show _=_
   rw [v7g _ _ _ (by rw [q8c];exact h0),z1q,z1q]
  have HK:Hid (∀ W,LyE w0 b (K.nodes++r) W→Calls Tryz.prog 240 #[.pointer (some ⟨b,0,none⟩),.int .i64 (K.len:Int)] W fun e w'=>NdG w0 b W (kdD K.dcs).nodes r e w'):=fun W hW=>z9f K hE h0 hs hkl r W hW
  have hkd:=j9x K.dcs
  generalize (q2c (btL o) (btL c) K.dcs).nodes=R at HRR ⊢
  generalize (kdD K.dcs).nodes=ks at HK HRR hkd
  generalize z4g K.dcs=sd at hs hkd
  generalize K.nodes++r=r0 at HL HK
  generalize K.len=kl at HK h0 ⊢
  have hk0:((kl:Int) == 0)=false:=by simp;omega
  clear hE hkl hW
  go_enter Tryz.func219,Tryz.ntmps219
  go_wp2_with fail
  refine (z9i _).mono ?_
  rintro e w1 h1
  obtain ⟨v1,rfl,n1,b1⟩:=h1.valB HL.out.in
  replace HL:=hid (HL.out.step b1)
  have DS:=hid n1
  clear h1 n1 b1
  go_wp2_with fail
  refine (HK.out _ HL.out.ly).mono ?_
  rintro e w2 h2
  obtain ⟨v2,rfl,n2,l2⟩:=h2.val
  replace HL:=hid (HL.out.then l2)
  replace DS:=hid (DS.out.but l2.bt)
  have DK:=hid n2
  clear h2 n2 l2
  go_wp2_with fail
  refine (q1a _ DS.out.val DK.out.val (by first | (simp;done) | (simp;omega))).mono ?_
  rintro e w3 h3
  obtain ⟨v3,rfl,n3,b3⟩:=h3.valB HL.out.in
  replace HL:=hid (HL.out.step b3)
  clear DS
  clear DK
  have DA:=hid n3
  clear h3 n3 b3
  go_wp2_with fail
  refine (q8g _ DA.out.val (by first | (simp;done) | (simp;omega))).mono ?_
  rintro e w4 h4
  obtain ⟨v4,rfl,n4,b4⟩:=h4.valB HL.out.in
  replace HL:=hid (HL.out.step b4)
  clear DA
  have DI:=hid n4
  clear h4 n4 b4
  go_wp2_with fail
  refine (q1p _ _).mono ?_
  rintro e w5 h5
  obtain ⟨v5,rfl,n5,b5⟩:=h5.valB HL.out.in
  replace HL:=hid (HL.out.step b5)
  replace DI:=hid (DI.out.bel b5)
  have DO:=hid n5
  clear h5 n5 b5
  go_wp2_with fail
  refine (z9i _).mono ?_
  rintro e w6 h6
  obtain ⟨v6,rfl,n6,b6⟩:=h6.valB HL.out.in
  replace HL:=hid (HL.out.step b6)
  replace DI:=hid (DI.out.bel b6)
  replace DO:=hid (DO.out.bel b6)
  have DT:=hid n6
  clear h6 n6 b6
  go_wp2_with fail
  refine (q1p _ _).mono ?_
  rintro e w7 h7
  obtain ⟨v7,rfl,n7,b7⟩:=h7.valB HL.out.in
  replace HL:=hid (HL.out.step b7)
  replace DI:=hid (DI.out.bel b7)
  replace DO:=hid (DO.out.bel b7)
  replace DT:=hid (DT.out.bel b7)
  have DC:=hid n7
  clear h7 n7 b7
  go_wp2_with fail
  refine (q1a _ DT.out.val DC.out.val (by first | (simp;done) | (simp;omega))).mono ?_
  rintro e w8 h8
  obtain ⟨v8,rfl,n8,b8⟩:=h8.valB HL.out.in
  replace HL:=hid (HL.out.step b8)
  clear DT
  clear DC
  replace DI:=hid (DI.out.bel b8)
  replace DO:=hid (DO.out.bel b8)
  have DE:=hid n8
  clear h8 n8 b8
  go_wp2_with fail
  refine (q1a _ DI.out.val DE.out.val (by first | (simp;done) | (simp;omega))).mono ?_
  rintro e w9 h9
  obtain ⟨v9,rfl,n9,b9⟩:=h9.valB HL.out.in
  replace HL:=hid (HL.out.step b9)
  clear DI
  clear DE
  replace DO:=hid (DO.out.bel b9)
  have DF:=hid n9
  clear h9 n9 b9
  go_wp2_with fail
  refine (q1a _ DO.out.val DF.out.val (by first | (simp;done) | (simp;omega))).mono ?_
  rintro e w10 h10
  obtain ⟨v10,rfl,n10,b10⟩:=h10.valB HL.out.in
  replace HL:=hid (HL.out.step b10)
  clear DO
  clear DF
  have DG:=hid n10
  clear h10 n10 b10
  go_wp2_with fail
  refine (z0y _ DG.out.val (by first | (simp;done) | (simp;omega))).mono ?_
  rintro e w11 h11
  have HX:Hid (NdG w0 b w R r e w11):=by
   have h:=h11.gof HL.out
   show NdG w0 b w R r e w11
   rw [HRR.out]
   exact h
  obtain ⟨v11,rfl,_,_⟩:=h11.val
  clear h11 HL HRR DG
  go_wp2
  go_ret
  exact HX.out
theorem v6g {l:Nat} {x:Td} {D:Tr} (h:prc x<l):(inD l x D).nodes=⟨6,⟨#[]⟩,0⟩::([⟨1,⟨#[40]⟩,0⟩]++(⟨6,⟨#[]⟩,0⟩::(D.nodes++[⟨1,⟨#[41]⟩,0⟩]))):=by
 rw [inD,if_pos h];rfl
theorem y1b {l:Nat} {x:Td} {D:Tr} (h:¬ prc x<l):(inD l x D).nodes=D.nodes:=by rw [inD,if_neg h]
theorem z9h {w0:World} {b:Nat} {y:Td} {k:Fo} (hX:ExL w0 b y k) (hz:(q0l y k.dcs).nodes.length≤1000) (op:Int) (hop:op=5∨op=6) (s:Bool) (r:List Td) (w:World) (hW:LyE w0 b (y::(k.nodes++r)) w) :
  Calls Tryz.prog 241 #[.pointer (some ⟨b,0,none⟩),.int .i64 op,.bool s] w fun e w'=>NdG w0 b w (inD ((op - 5).toNat+s.toNat) y (q0l y k.dcs)).nodes r e w':=by
 have HNB:Hid (∀ W,Calls Tryz.prog 230 #[.int .i64 y.op,.int .i64 op,.bool s] W fun e w'=>e = .returned (.bool (decide (prc y<(op - 5).toNat+s.toNat)))∧W=w'):=fun W=>(z9m y op hop s W).mono fun _ _ h=>⟨h.1,h.2.symm⟩
 have HX:Hid (Calls Tryz.prog 185 #[.pointer (some ⟨b,0,none⟩)] w fun e w'=>NdG w0 b w (q0l y k.dcs).nodes r e w'):=hX r w hW
 have HL:Hid (Lk w0 b w (y::(k.nodes++r)) w):=hW.lk
 obtain ⟨A,c,h⟩:=hW
 obtain ⟨tb,tq,rfl,hlt,d0,_,_⟩:=h.td 0 (by simp)
 simp only [List.getElem_cons_zero,Nat.zero_mul,Nat.add_zero] at d0
 obtain ⟨bc,_⟩:=q0w h.bl
 have e0:w.cell? ⟨tb,tq,none⟩=some (.int .i64 y.op):=(bc _ _ hlt).trans d0
 have cR:w.cell? ⟨b,0,none⟩=some (.slice (some ⟨tb,tq,none⟩) (y::(k.nodes++r)).length c):=by rw [Lib.cell_of_heap h.x];rfl
 generalize hn:(y::(k.nodes++r)).length=n at cR
 have h1n:0<n:=by rw [←hn];simp
 have hi1:(0:Int)<(n:Int):=by omega
 have HY:Hid (prc y<(op - 5).toNat+s.toNat→(inD ((op - 5).toNat+s.toNat) y (q0l y k.dcs)).nodes=⟨6,⟨#[]⟩,0⟩::([⟨1,⟨#[40]⟩,0⟩]++(⟨6,⟨#[]⟩,0⟩::((q0l y k.dcs).nodes++[⟨1,⟨#[41]⟩,0⟩])))):=v6g
 have HNO:Hid (¬ prc y<(op - 5).toNat+s.toNat→(inD ((op - 5).toNat+s.toNat) y (q0l y k.dcs)).nodes=(q0l y k.dcs).nodes):=y1b
 generalize (inD ((op - 5).toNat+s.toNat) y (q0l y k.dcs)).nodes=R at HY HNO ⊢
 generalize (q0l y k.dcs).nodes=xs at HX HY HNO hz
 generalize y::(k.nodes++r)=r0 at HL
 generalize (op - 5).toNat+s.toNat=lv at HNB HY HNO
 generalize prc y=py at HNB HY HNO
 generalize y.op=yo at HNB e0
 clear h bc d0 hop hn hX
 by_cases hp:py<lv
 ·have HRR:=(show Hid (_=_) from HY.out hp)
  rw [decide_eq_true hp] at HNB
  clear HY HNO hp
  go_enter Tryz.func241,Tryz.ntmps241
  go_wp2_with fail
  refine (HNB.out _).mono ?_
  rintro e w1 ⟨rfl,rfl⟩
  go_wp2_with fail
  refine (HX.out).mono ?_
  rintro e w2 h2
  obtain ⟨v2,rfl,n2,l2⟩:=h2.val
  replace HL:=hid (HL.out.then l2)
  have DX:=hid n2
  clear h2 n2 l2
  go_wp2_with fail
  refine (q1p _ _).mono ?_
  rintro e w3 h3
  obtain ⟨v3,rfl,n3,b3⟩:=h3.valB HL.out.in
  replace HL:=hid (HL.out.step b3)
  replace DX:=hid (DX.out.bel b3)
  have DO:=hid n3
  clear h3 n3 b3
  go_wp2_with fail
  refine (q1p _ _).mono ?_
  rintro e w4 h4
  obtain ⟨v4,rfl,n4,b4⟩:=h4.valB HL.out.in
  replace HL:=hid (HL.out.step b4)
  replace DX:=hid (DX.out.bel b4)
  replace DO:=hid (DO.out.bel b4)
  have DC:=hid n4
  clear h4 n4 b4
  go_wp2_with fail
  refine (q1a _ DX.out.val DC.out.val (by first | (simp;done) | (simp;omega))).mono ?_
  rintro e w5 h5
  obtain ⟨v5,rfl,n5,b5⟩:=h5.valB HL.out.in
  replace HL:=hid (HL.out.step b5)
  clear DX
  clear DC
  replace DO:=hid (DO.out.bel b5)
  have DQ:=hid n5
  clear h5 n5 b5
  go_wp2_with fail
  refine (q1a _ DO.out.val DQ.out.val (by first | (simp;done) | (simp;omega))).mono ?_
  rintro e w6 h6
  have HX:Hid (NdG w0 b w R r e w6):=by
   have h:=h6.gof HL.out
   show NdG w0 b w R r e w6
   rw [HRR.out]
   exact h
  obtain ⟨v6,rfl,_,_⟩:=h6.val
  clear h6 HL HRR DO DQ
  go_wp2
  go_ret
  exact HX.out
 ·have HRR:=(show Hid (_=_) from HNO.out hp)
  rw [decide_eq_false hp] at HNB
  clear HY HNO hp
  go_enter Tryz.func241,Tryz.ntmps241
  go_wp2_with fail
  refine (HNB.out _).mono ?_
  rintro e w1 ⟨rfl,rfl⟩
  go_wp2_with fail
  refine HX.out.mono ?_
  rintro e w2 h2
  have HR:Hid (NdG w0 b w R r e w2):=by
   show NdG w0 b w R r e w2
   rw [HRR.out]
   exact h2
  obtain ⟨v2,rfl,_,_⟩:=h2.val
  clear h2
  go_wp2
  go_ret
  exact HR.out
theorem z5a {w0:World} {b:Nat} {y z:Td} {k l:Fo} (hX:ExL w0 b y k) (hZ:ExL w0 b z l) (hzy:(q0l y k.dcs).nodes.length≤1000) (hzz:(q0l z l.dcs).nodes.length≤1000) (op:Int) (hop:op=5∨op=6) (m:ByteArray) (r:List Td) (w:World)
  (hW:LyE w0 b (y::(k.nodes++(z::(l.nodes++r)))) w) :
  Calls Tryz.prog 220 #[.pointer (some ⟨b,0,none⟩),.int .i64 op,.string m] w fun e w'=>NdG w0 b w (grD (twD (inD (op - 5).toNat y (q0l y k.dcs)) (dpD (twD blD (twD (wdD (btL m)) (inD ((op - 5).toNat+1) z (q0l z l.dcs))))))).nodes r e w':=by
 have H1:Hid (Calls Tryz.prog 241 #[.pointer (some ⟨b,0,none⟩),.int .i64 op,.bool false] w fun e w'=>NdG w0 b w (inD (op - 5).toNat y (q0l y k.dcs)).nodes (z::(l.nodes++r)) e w'):=z9h hX hzy op hop false _ w hW
 have H2:Hid (∀ W,LyE w0 b (z::(l.nodes++r)) W→Calls Tryz.prog 241 #[.pointer (some ⟨b,0,none⟩),.int .i64 op,.bool true] W fun e w'=>NdG w0 b W (inD ((op - 5).toNat+1) z (q0l z l.dcs)).nodes r e w'):=fun W hW=>z9h hZ hzz op hop true _ W hW
 have HL:Hid (Lk w0 b w (y::(k.nodes++(z::(l.nodes++r)))) w):=hW.lk
 have n1:=j9w (op - 5).toNat y (q0l y k.dcs)
 have n2:=j9w ((op - 5).toNat+1) z (q0l z l.dcs)
 have HRR:Hid ((grD (twD (inD (op - 5).toNat y (q0l y k.dcs)) (dpD (twD blD (twD (wdD (btL m)) (inD ((op - 5).toNat+1) z (q0l z l.dcs))))))).nodes=⟨8,⟨#[]⟩,0⟩::(⟨6,⟨#[]⟩,0⟩::((inD (op - 5).toNat y (q0l y k.dcs)).nodes++(⟨7,⟨#[]⟩,2⟩::(⟨6,⟨#[]⟩,0⟩::([⟨2,⟨#[]⟩,0⟩]++(⟨6,⟨#[]⟩,0⟩::([⟨1,m,0⟩]++(inD ((op - 5).toNat+1) z (q0l z l.dcs)).nodes)))))))):=by
  show _=_
  have e:wbS (btL m)=m:=z1q m
  simp only [Tr.nodes,e]
 generalize (grD (twD (inD (op - 5).toNat y (q0l y k.dcs)) (dpD (twD blD (twD (wdD (btL m)) (inD ((op - 5).toNat+1) z (q0l z l.dcs))))))).nodes=R at HRR ⊢
 generalize (inD (op - 5).toNat y (q0l y k.dcs)).nodes=xs at H1 HRR n1
 generalize (inD ((op - 5).toNat+1) z (q0l z l.dcs)).nodes=ys at H2 HRR n2
 have hxs:xs.length≤1004:=by omega
 have hys:ys.length≤1004:=by omega
 generalize z::(l.nodes++r)=r1 at H1 H2 HL
 generalize y::(k.nodes++r1)=r0 at HL
 clear hX hZ hzy hzz hW n1 n2 hop
 go_enter Tryz.func220,Tryz.ntmps220
 go_wp2_with fail
 refine (H1.out).mono ?_
 rintro e w1 h1
 obtain ⟨v1,rfl,n1,l1⟩:=h1.val
 replace HL:=hid (HL.out.then l1)
 have DX:=hid n1
 clear h1 n1 l1
 go_wp2_with fail
 refine (H2.out _ HL.out.ly).mono ?_
 rintro e w2 h2
 obtain ⟨v2,rfl,n2,l2⟩:=h2.val
 replace HL:=hid (HL.out.then l2)
 replace DX:=hid (DX.out.but l2.bt)
 have DY:=hid n2
 clear h2 n2 l2
 go_wp2_with fail
 refine (z0w _).mono ?_
 rintro e w3 h3
 obtain ⟨v3,rfl,n3,b3⟩:=h3.valB HL.out.in
 replace HL:=hid (HL.out.step b3)
 replace DX:=hid (DX.out.bel b3)
 replace DY:=hid (DY.out.bel b3)
 have DB:=hid n3
 clear h3 n3 b3
 go_wp2_with fail
 refine (q1p _ _).mono ?_
 rintro e w4 h4
 obtain ⟨v4,rfl,n4,b4⟩:=h4.valB HL.out.in
 replace HL:=hid (HL.out.step b4)
 replace DX:=hid (DX.out.bel b4)
 replace DY:=hid (DY.out.bel b4)
 replace DB:=hid (DB.out.bel b4)
 have DM:=hid n4
 clear h4 n4 b4
 go_wp2_with fail
 refine (q1a _ DM.out.val DY.out.val (by first | (simp;done) | (simp;omega))).mono ?_
 rintro e w5 h5
 obtain ⟨v5,rfl,n5,b5⟩:=h5.valB HL.out.in
 replace HL:=hid (HL.out.step b5)
 clear DM
 clear DY
 replace DX:=hid (DX.out.bel b5)
 replace DB:=hid (DB.out.bel b5)
 have DA:=hid n5
 clear h5 n5 b5
 go_wp2_with fail
 refine (q1a _ DB.out.val DA.out.val (by first | (simp;done) | (simp;omega))).mono ?_
 rintro e w6 h6
 obtain ⟨v6,rfl,n6,b6⟩:=h6.valB HL.out.in
 replace HL:=hid (HL.out.step b6)
 clear DB
 clear DA
 replace DX:=hid (DX.out.bel b6)
 have DC:=hid n6
 clear h6 n6 b6
 go_wp2_with fail
 refine (q8g _ DC.out.val (by first | (simp;done) | (simp;omega))).mono ?_
 rintro e w7 h7
 obtain ⟨v7,rfl,n7,b7⟩:=h7.valB HL.out.in
 replace HL:=hid (HL.out.step b7)
 clear DC
 replace DX:=hid (DX.out.bel b7)
 have DE:=hid n7
 clear h7 n7 b7
 go_wp2_with fail
 refine (q1a _ DX.out.val DE.out.val (by first | (simp;done) | (simp;omega))).mono ?_
 rintro e w8 h8
 obtain ⟨v8,rfl,n8,b8⟩:=h8.valB HL.out.in
 replace HL:=hid (HL.out.step b8)
 clear DX
 clear DE
 have DF:=hid n8
 clear h8 n8 b8
 go_wp2_with fail
 refine (z0y _ DF.out.val (by first | (simp;done) | (simp;omega))).mono ?_
 rintro e w9 h9
 have HX:Hid (NdG w0 b w R r e w9):=by
  have h:=h9.gof HL.out
  show NdG w0 b w R r e w9
  rw [HRR.out]
  exact h
 obtain ⟨v9,rfl,_,_⟩:=h9.val
 clear h9 HL HRR DF
 go_wp2
 go_ret
 exact HX.out
theorem j9g {w0:World} {b:Nat} (ht:z5s w0) (n:Int) (h0:0≤n) (h9:n≤999999) (tx:ByteArray):ExL w0 b ⟨1,tx,n⟩ Fo.nil:=by
 intro r w hW
 have HN:Hid (Calls Tryz.prog 183 #[.pointer (some ⟨b,0,none⟩)] w fun e w'=>e = .returned (tdV ⟨1,tx,n⟩)∧Lk w0 b w (Fo.nil.nodes++r) w'):=q3i hW
 have HT:Hid (z5s w0):=ht
 clear ht
 generalize hR:(q0l ⟨1,tx,n⟩ Fo.nil.dcs).nodes=R
 have HR0:Hid ((q0l ⟨1,tx,n⟩ Fo.nil.dcs).nodes=R):=hR
 clear hW hR
 go_enter Tryz.func185,Tryz.ntmps185
 go_wp2_with fail
 refine HN.out.mono ?_
 rintro e w1 ⟨rfl,h1⟩
 have HI:Hid (∀ W:World,Below w1.heap.size w1 W→Calls Tryz.prog 168 #[.int .i64 n] W fun e w'=>e = .returned (.string (wbS (q3y n.toNat)))∧Below W.heap.size W w'):=fun W hb=>k3z n h0 h9 W (by
  obtain ⟨A,c,hl⟩:=h1.ly
  exact (HT.out.below hl.bl).below hb)
 have HS:Hid (∀ W:World,Below w1.heap.size w1 W→Calls Tryz.prog 186 #[.string (wbS (q3y n.toNat))] W fun e w'=>NdG w0 b w R r e w'):=fun W hb=>(q1p _ W).mono fun e w' h=>by
  rw [←HR0.out]
  exact h.gof (h1.step hb)
 generalize wbS (q3y n.toNat)=S at HI HS
 clear h1 HN
 go_wp2_with fail
 refine (HI.out _ (q1j w1 _)).mono ?_
 rintro e w2 ⟨rfl,b2⟩
 have HB2:Hid (Below w1.heap.size w1 w2):=q0j (q1j w1 _) (Nat.le_refl _) b2
 clear b2
 go_wp2_with fail
 refine (HS.out _ HB2.out).mono ?_
 rintro e w3 h3
 have HR:=(show Hid (_) from h3)
 obtain ⟨v3,rfl,_,_⟩:=h3.val
 clear h3
 go_wp2
 go_ret
 exact HR.out
theorem j2g {w0:World} {b:Nat} (tx:ByteArray) (htx:tx.size≤100) (n:Int):ExL w0 b ⟨2,tx,n⟩ Fo.nil:=by
 intro r w hW
 have HN:Hid (Calls Tryz.prog 183 #[.pointer (some ⟨b,0,none⟩)] w fun e w'=>e = .returned (tdV ⟨2,tx,n⟩)∧Lk w0 b w (Fo.nil.nodes++r) w'):=q3i hW
 generalize hR:(q0l ⟨2,tx,n⟩ Fo.nil.dcs).nodes=R
 have HR0:Hid ((q0l ⟨2,tx,n⟩ Fo.nil.dcs).nodes=R):=hR
 clear hW hR
 go_enter Tryz.func185,Tryz.ntmps185
 go_wp2_with fail
 refine HN.out.mono ?_
 rintro e w1 ⟨rfl,h1⟩
 have HI:Hid (∀ W:World,Calls Tryz.prog 77 #[.string tx] W fun e w'=>e = .returned (.string tx)∧Below W.heap.size W w'):=fun W=>q7j tx W (by omega)
 have HS:Hid (∀ W:World,Below w1.heap.size w1 W→Calls Tryz.prog 186 #[.string tx] W fun e w'=>NdG w0 b w R r e w'):=fun W hb=>(q1p _ W).mono fun e w' h=>by
  have e2:(q0l ⟨2,tx,n⟩ Fo.nil.dcs).nodes=[⟨1,tx,0⟩]:=by
   show [(⟨1,wbS (btL tx),0⟩:Nd)]=_
   rw [z1q]
  rw [←HR0.out,e2]
  exact h.gof (h1.step hb)
 clear h1 HN
 go_wp2_with fail
 refine (HI.out _).mono ?_
 rintro e w2 ⟨rfl,b2⟩
 have HB2:Hid (Below w1.heap.size w1 w2):=q0j (q1j w1 _) (Nat.le_refl _) b2
 clear b2
 go_wp2_with fail
 refine (HS.out _ HB2.out).mono ?_
 rintro e w3 h3
 have HR:=(show Hid (_) from h3)
 obtain ⟨v3,rfl,_,_⟩:=h3.val
 clear h3
 go_wp2
 go_ret
 exact HR.out
theorem j2f {w0:World} {b:Nat} {F:Fo} (tx:ByteArray) (hE:EAL w0 b F) (hs:z4g F.dcs≤1000) (hkl:F.len≤1000):ExL w0 b ⟨4,tx,(F.len:Int)⟩ F:=by
 intro r w hW
 have HN:Hid (Calls Tryz.prog 183 #[.pointer (some ⟨b,0,none⟩)] w fun e w'=>e = .returned (tdV ⟨4,tx,(F.len:Int)⟩)∧Lk w0 b w (F.nodes++r) w'):=q3i hW
 generalize hR:(q0l ⟨4,tx,(F.len:Int)⟩ F.dcs).nodes=R
 have HR0:Hid ((q0l ⟨4,tx,(F.len:Int)⟩ F.dcs).nodes=R):=hR
 clear hW hR
 go_enter Tryz.func185,Tryz.ntmps185
 go_wp2_with fail
 refine HN.out.mono ?_
 rintro e w1 ⟨rfl,h1⟩
 have HS:Hid (∀ W:World,Below w1.heap.size w1 W→Calls Tryz.prog 219 #[.pointer (some ⟨b,0,none⟩),.string ⟨#[91]⟩,.int .i64 (F.len:Int),.string ⟨#[93]⟩] W fun e w'=>NdG w0 b w R r e w'):=fun W hb=>(z1l F hE hs hkl ⟨#[91]⟩ ⟨#[93]⟩ (by decide) (by decide) r W (h1.step hb).ly).mono fun e w' h=>by
  have e2:q0l ⟨4,tx,(F.len:Int)⟩ F.dcs=q2c (btL ⟨#[91]⟩) (btL ⟨#[93]⟩) F.dcs:=rfl
  rw [←HR0.out,e2]
  exact NdG.then (h1.step hb) h
 clear h1 HN hE hs
 go_wp2_with fail
 refine (HS.out _ (q1j w1 _)).mono ?_
 rintro e w3 h3
 have HR:=(show Hid (_) from h3)
 obtain ⟨v3,rfl,_,_⟩:=h3.val
 clear h3
 go_wp2
 go_ret
 exact HR.out
theorem k9i (tx:ByteArray):btL (tx++(⟨#[40]⟩:ByteArray))=btL tx++[40]:=by
 have e:wbS (btL tx)++wbS [40]=wbS (btL tx++[40]):=q8m _ _
 rw [z1q] at e
 have e2:tx++(⟨#[40]⟩:ByteArray)=wbS (btL tx++[40]):=e
 rw [e2]
 rfl
theorem v8y (tx:ByteArray):(tx++(⟨#[40]⟩:ByteArray)).size=tx.size+1:=by
 rw [←q0b,k9i,List.length_append,q0b];rfl
theorem j2e {w0:World} {b:Nat} {F:Fo} (tx:ByteArray) (htx:tx.size≤80) (hE:EAL w0 b F) (hs:z4g F.dcs≤1000) (hkl:F.len≤1000):ExL w0 b ⟨3,tx,(F.len:Int)⟩ F:=by
 intro r w hW
 have HN:Hid (Calls Tryz.prog 183 #[.pointer (some ⟨b,0,none⟩)] w fun e w'=>e = .returned (tdV ⟨3,tx,(F.len:Int)⟩)∧Lk w0 b w (F.nodes++r) w'):=q3i hW
 generalize hR:(q0l ⟨3,tx,(F.len:Int)⟩ F.dcs).nodes=R
 have HR0:Hid ((q0l ⟨3,tx,(F.len:Int)⟩ F.dcs).nodes=R):=hR
 clear hW hR
 go_enter Tryz.func185,Tryz.ntmps185
 go_wp2_with fail
 refine HN.out.mono ?_
 rintro e w1 ⟨rfl,h1⟩
 have HS:Hid (∀ W:World,Below w1.heap.size w1 W→Calls Tryz.prog 219 #[.pointer (some ⟨b,0,none⟩),.string (tx++(⟨#[40]⟩:ByteArray)),.int .i64 (F.len:Int),.string ⟨#[41]⟩] W fun e w'=>NdG w0 b w R r e w'):=fun W hb=>(z1l F hE hs hkl (tx++(⟨#[40]⟩:ByteArray)) ⟨#[41]⟩ (by rw [v8y];omega) (by decide) r W (h1.step hb).ly).mono fun e w' h=>by
  have e2:q0l ⟨3,tx,(F.len:Int)⟩ F.dcs=q2c (btL (tx++(⟨#[40]⟩:ByteArray))) (btL ⟨#[41]⟩) F.dcs:=by rw [k9i];rfl
  rw [←HR0.out,e2]
  exact NdG.then (h1.step hb) h
 have hsz:¬ 9223372036854775807<tx.size+1:=by omega
 clear h1 HN hE hs
 go_wp2_with fail
 refine (HS.out _ (q1j w1 _)).mono ?_
 rintro e w3 h3
 have HR:=(show Hid (_) from h3)
 obtain ⟨v3,rfl,_,_⟩:=h3.val
 clear h3
 go_wp2
 go_ret
 exact HR.out
theorem j9h {w0:World} {b:Nat} {y z:Td} {k l:Fo} (tx:ByteArray) (n:Int) (hX:ExL w0 b y k) (hZ:ExL w0 b z l) (hzy:(q0l y k.dcs).nodes.length≤1000) (hzz:(q0l z l.dcs).nodes.length≤1000):ExL w0 b ⟨5,tx,n⟩ (Fo.cons y k (.cons z l .nil)):=by
 intro r w hW
 have HN:Hid (Calls Tryz.prog 183 #[.pointer (some ⟨b,0,none⟩)] w fun e w'=>e = .returned (tdV ⟨5,tx,n⟩)∧Lk w0 b w ((Fo.cons y k (.cons z l .nil)).nodes++r) w'):=q3i hW
 generalize hR:(q0l ⟨5,tx,n⟩ (Fo.cons y k (.cons z l .nil)).dcs).nodes=R
 have HR0:Hid ((q0l ⟨5,tx,n⟩ (Fo.cons y k (.cons z l .nil)).dcs).nodes=R):=hR
 clear hW hR
 go_enter Tryz.func185,Tryz.ntmps185
 go_wp2_with fail
 refine HN.out.mono ?_
 rintro e w1 ⟨rfl,h1⟩
 have HS:Hid (∀ W:World,Below w1.heap.size w1 W→Calls Tryz.prog 220 #[.pointer (some ⟨b,0,none⟩),.int .i64 5,.string ⟨#[43,32]⟩] W fun e w'=>NdG w0 b w R r e w'):=fun W hb=>by
  rw [←HR0.out]
  have hly:=(h1.step hb).ly
  have hnd:(Fo.cons y k (.cons z l .nil)).nodes++r=y::(k.nodes++(z::(l.nodes++r))):=by simp [Fo.nodes]
  rw [hnd] at hly
  exact (z5a hX hZ hzy hzz 5 (by decide) ⟨#[43,32]⟩ r W hly).mono fun e w' h=>NdG.then (h1.step hb) h
 clear h1 HN hX hZ hzy hzz
 go_wp2_with fail
 refine (HS.out _ (q1j w1 _)).mono ?_
 rintro e w3 h3
 have HR:=(show Hid (_) from h3)
 obtain ⟨v3,rfl,_,_⟩:=h3.val
 clear h3
 go_wp2
 go_ret
 exact HR.out
theorem j9f {w0:World} {b:Nat} {y z:Td} {k l:Fo} (tx:ByteArray) (n:Int) (hX:ExL w0 b y k) (hZ:ExL w0 b z l) (hzy:(q0l y k.dcs).nodes.length≤1000) (hzz:(q0l z l.dcs).nodes.length≤1000):ExL w0 b ⟨6,tx,n⟩ (Fo.cons y k (.cons z l .nil)):=by
 intro r w hW
 have HN:Hid (Calls Tryz.prog 183 #[.pointer (some ⟨b,0,none⟩)] w fun e w'=>e = .returned (tdV ⟨6,tx,n⟩)∧Lk w0 b w ((Fo.cons y k (.cons z l .nil)).nodes++r) w'):=q3i hW
 generalize hR:(q0l ⟨6,tx,n⟩ (Fo.cons y k (.cons z l .nil)).dcs).nodes=R
 have HR0:Hid ((q0l ⟨6,tx,n⟩ (Fo.cons y k (.cons z l .nil)).dcs).nodes=R):=hR
 clear hW hR
 go_enter Tryz.func185,Tryz.ntmps185
 go_wp2_with fail
 refine HN.out.mono ?_
 rintro e w1 ⟨rfl,h1⟩
 have HS:Hid (∀ W:World,Below w1.heap.size w1 W→Calls Tryz.prog 220 #[.pointer (some ⟨b,0,none⟩),.int .i64 6,.string ⟨#[42,32]⟩] W fun e w'=>NdG w0 b w R r e w'):=fun W hb=>by
  rw [←HR0.out]
  have hly:=(h1.step hb).ly
  have hnd:(Fo.cons y k (.cons z l .nil)).nodes++r=y::(k.nodes++(z::(l.nodes++r))):=by simp [Fo.nodes]
  rw [hnd] at hly
  exact (z5a hX hZ hzy hzz 6 (by decide) ⟨#[42,32]⟩ r W hly).mono fun e w' h=>NdG.then (h1.step hb) h
 clear h1 HN hX hZ hzy hzz
 go_wp2_with fail
 refine (HS.out _ (q1j w1 _)).mono ?_
 rintro e w3 h3
 have HR:=(show Hid (_) from h3)
 obtain ⟨v3,rfl,_,_⟩:=h3.val
 clear h3
 go_wp2
 go_ret
 exact HR.out
theorem k5i (x:Td) (k n:Fo):z4g k.dcs≤20*(Fo.cons x k n).nodes.length∧(q0l x k.dcs).nodes.length≤20*(Fo.cons x k n).nodes.length:=by
 have h:=z8i (.cons x k n)
 have h2:=z8i k
 rw [Fo.dcs,q3l] at h
 have e:(x,q0l x k.dcs).2=q0l x k.dcs:=rfl
 rw [e] at h
 have e2:k.nodes.length≤(Fo.cons x k n).nodes.length:=by simp only [Fo.nodes,List.length_cons,List.length_append];omega
 omega
theorem z6p {w0:World} {b:Nat} (ht:z5s w0):∀ F:Fo,F.ok→F.exs→F.nodes.length≤50→EAL w0 b F
 | .nil,_,_,_=>trivial
 | .cons x k n,hok,hex,hlen=>by
  have hl1:k.nodes.length+n.nodes.length+1≤50:=by simp only [Fo.nodes,List.length_cons,List.length_append] at hlen;omega
  have hk:EAL w0 b k:=z6p ht k hok.2.1 (fun y hy=>hex y (by simp [Fo.nodes,hy])) (by omega)
  have hn:EAL w0 b n:=z6p ht n hok.2.2 (fun y hy=>hex y (by simp [Fo.nodes,hy])) (by omega)
  refine ⟨?_,hn⟩
  have hx:=hex x (by simp [Fo.nodes])
  have hkl:=hok.1
  have hsum:z4g k.dcs≤1000:=by have:=(k5i x k n).1;omega
  obtain ⟨op,tx,m⟩:=x
  rcases q2e hx with ⟨e1,e2,e3,e4,e5⟩ | ⟨e1,e2,e3,e5⟩ | ⟨e1,e2,e3,e4,e5⟩ | ⟨e1,e2,e3,e4,e5⟩ | ⟨e1,e2,e3,e5⟩ | ⟨e1,e2,e3,e5⟩
  ·rw [e5] at hkl
   cases k with
   | cons=>simp [Fo.len] at hkl
   | nil=>
    dsimp only at e1 e3 e4
    subst e1
    exact j9g ht m e3 e4 tx
  ·rw [e5] at hkl
   cases k with
   | cons=>simp [Fo.len] at hkl
   | nil=>
    dsimp only at e1 e2
    subst e1
    have h8:=q1u e2
    rw [q0b] at h8
    exact j2g tx (by omega) m
  ·rw [e5] at hkl
   dsimp only at e1 e2 e3 e4 hkl
   subst e1
   have:m=(k.len:Int):=by omega
   subst this
   have h8:=q1u e2
   rw [q0b] at h8
   exact j2e tx (by omega) hk hsum (by omega)
  ·rw [e5] at hkl
   dsimp only at e1 e3 e4 hkl
   subst e1
   have:m=(k.len:Int):=by omega
   subst this
   exact j2f tx hk hsum (by omega)
  all_goals
   rw [e5] at hkl
   dsimp only at e1
   subst e1
   cases k with
   | nil=>simp [Fo.len] at hkl
   | cons y ky r=>
    cases r with
    | nil=>simp [Fo.len] at hkl
    | cons z kz r2=>
     cases r2 with
     | cons=>simp [Fo.len] at hkl
     | nil=>
      have q1:=(k5i y ky (.cons z kz .nil)).2
      have q2:=(k5i z kz .nil).2
      have q3:(Fo.cons z kz .nil).nodes.length≤(Fo.cons y ky (.cons z kz .nil)).nodes.length:=by simp only [Fo.nodes,List.length_cons,List.length_append];omega
      first
       | exact j9h tx m hk.1 hk.2.1 (by omega) (by omega)
       | exact j9f tx m hk.1 hk.2.1 (by omega) (by omega)
end Go.Proofs.YtchdplceopegoaaGreatDoor
