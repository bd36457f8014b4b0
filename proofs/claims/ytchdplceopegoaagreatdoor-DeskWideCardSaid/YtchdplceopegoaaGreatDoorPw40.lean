/- Texts as one: LyC, LayX, AppP. -/
/- Texts as one: AppS. -/
import Derived.Test.YtchdplceopegoaaGreatDoorPw39
import Derived.Deep.RegionLaw
namespace Go.Proofs.YtchdplceopegoaaGreatDoor
open Go Go.RowKit
set_option maxRecDepth 100000
set_option maxHeartbeats 4000000
theorem j0z {w0:World} {b:Nat} {xt:ByteArray} {xn:Int} {y:Td} {k:Fo} (hX:ExL w0 b y k) (hz:(q0m y k.dcs).nodes.length≤1000) (h8:xt.size≤8) (w:World) (hW:LyE w0 b (⟨7,xt,xn⟩::(y::(k.nodes++[]))) w) :
  Calls Tryz.prog 158 #[.pointer (some ⟨b,0,none⟩)] w fun e w'=>NdG w0 b w (stD ⟨7,xt,xn⟩ (q0m y k.dcs)).nodes [] e w':=by
 have HN:Hid (Calls Tryz.prog 183 #[.pointer (some ⟨b,0,none⟩)] w fun e w'=>e = .returned (.agg #[.int .i64 7,.string xt,.int .i64 xn])∧Lk w0 b w (y::(k.nodes++[])) w'):=q3d hW
 have HXL:Hid (∀ W,LyE w0 b (y::(k.nodes++[])) W→Calls Tryz.prog 185 #[.pointer (some ⟨b,0,none⟩)] W fun e w'=>NdG w0 b W (q0m y k.dcs).nodes [] e w'):=fun W hW=>hX [] W hW
 have HRR:Hid ((stD ⟨7,xt,xn⟩ (q0m y k.dcs)).nodes=⟨8,⟨#[]⟩,0⟩::(⟨6,⟨#[]⟩,0⟩::([⟨1,(⟨#[108,101,116,32]⟩:ByteArray)++xt++(⟨#[32,61]⟩:ByteArray),0⟩]++(⟨7,⟨#[]⟩,2⟩::(⟨6,⟨#[]⟩,0⟩::([⟨2,⟨#[]⟩,0⟩]++(⟨6,⟨#[]⟩,0⟩::((q0m y k.dcs).nodes++[⟨1,⟨#[59]⟩,0⟩])))))))):=by
  show _=_
  have e6:wbS ([108,101,116,32]++btL xt++[32,61])=(⟨#[108,101,116,32]⟩:ByteArray)++xt++(⟨#[32,61]⟩:ByteArray):=by
   have q1:wbS [108,101,116,32]++wbS (btL xt)=wbS ([108,101,116,32]++btL xt):=q7q _ _
   have q2:wbS ([108,101,116,32]++btL xt)++wbS [32,61]=wbS ([108,101,116,32]++btL xt++[32,61]):=q7q _ _
   rw [←q2,←q1]
   rfl
  rw [←e6]
  rfl
 generalize (stD ⟨7,xt,xn⟩ (q0m y k.dcs)).nodes=R at HRR ⊢
 generalize (q0m y k.dcs).nodes=xs at HXL HRR hz
 generalize y::(k.nodes++[])=r0 at HN HXL
 have g1:¬ 9223372036854775807<4+xt.size:=by omega
 have g2:¬ 9223372036854775807<4+xt.size+2:=by omega
 clear hX hW
 go_enter Tryz.func158,Tryz.ntmps158
 go_wp2_with fail
 refine HN.out.mono ?_
 rintro e w1 ⟨rfl,h1⟩
 have HSC:Hid (∃ w2,w1.alloc (.cells #[.int .i64 7,.string xt,.int .i64 xn] 71)=w2∧Lk w0 b w r0 w2∧w2.heap[w1.heap.size]? = some (.cells #[.int .i64 7,.string xt,.int .i64 xn] 71 (0,0))):=⟨_,rfl,h1.step (q1j w1 _),heap_alloc_new w1 _⟩
 have hgb:w1.heap.size≠b:=by have:=h1.in;omega
 clear h1 HN
 go_wp2_with fail
 obtain ⟨w2,hw2,hl2,hx2⟩:=HSC.out
 rw [hw2]
 have HL:Hid (Lk w0 b w r0 w2):=hl2
 have HBX:Hid (w2.heap[w1.heap.size]? = some (.cells #[.int .i64 7,.string xt,.int .i64 xn] 71 (0,0))):=hx2
 clear HSC hl2 hx2 hw2
 go_wp2_with fail
 refine (HXL.out _ HL.out.ly).mono ?_
 rintro e w3 h3
 obtain ⟨v3,rfl,n3,l3⟩:=h3.val
 replace HL:=hid (HL.out.then l3)
 replace HBX:=hid ((l3.bt.block _ (Array.getElem?_eq_some_iff.1 HBX.out).1 hgb).trans HBX.out)
 have DX:=hid n3
 clear h3 n3 l3
 go_wp2_with fail
 refine (q1p _ _).mono ?_
 rintro e w4 h4
 obtain ⟨v4,rfl,n4,b4⟩:=h4.valB HL.out.in
 replace HL:=hid (HL.out.step b4)
 replace HBX:=hid ((b4.block _ (Array.getElem?_eq_some_iff.1 HBX.out).1).trans HBX.out)
 replace DX:=hid (DX.out.bel b4)
 have DS:=hid n4
 clear h4 n4 b4
 go_wp2_with fail
 refine (q0y _ DX.out.val DS.out.val (by first | (simp;done) | (simp;omega))).mono ?_
 rintro e w5 h5
 obtain ⟨v5,rfl,n5,b5⟩:=h5.valB HL.out.in
 replace HL:=hid (HL.out.step b5)
 replace HBX:=hid ((b5.block _ (Array.getElem?_eq_some_iff.1 HBX.out).1).trans HBX.out)
 clear DX
 clear DS
 have DR:=hid n5
 clear h5 n5 b5
 have d0:w5.cell? ⟨w1.heap.size,0,none⟩=some (.int .i64 7):=by rw [Lib.cell_of_heap HBX.out];rfl
 have d1:w5.cell? ⟨w1.heap.size,1,none⟩=some (.string xt):=by rw [Lib.cell_of_heap HBX.out];rfl
 clear HBX
 go_wp2_with fail
 refine (q1p _ _).mono ?_
 rintro e w6 h6
 obtain ⟨v6,rfl,n6,b6⟩:=h6.valB HL.out.in
 replace HL:=hid (HL.out.step b6)
 replace DR:=hid (DR.out.bel b6)
 have DL:=hid n6
 clear h6 n6 b6
 clear d0 d1
 go_wp2_with fail
 refine (q9w _).mono ?_
 rintro e w7 h7
 obtain ⟨v7,rfl,n7,b7⟩:=h7.valB HL.out.in
 replace HL:=hid (HL.out.step b7)
 replace DR:=hid (DR.out.bel b7)
 replace DL:=hid (DL.out.bel b7)
 have DB:=hid n7
 clear h7 n7 b7
 go_wp2_with fail
 refine (q0y _ DB.out.val DR.out.val (by first | (simp;done) | (simp;omega))).mono ?_
 rintro e w8 h8
 obtain ⟨v8,rfl,n8,b8⟩:=h8.valB HL.out.in
 replace HL:=hid (HL.out.step b8)
 clear DB
 clear DR
 replace DL:=hid (DL.out.bel b8)
 have DQ:=hid n8
 clear h8 n8 b8
 go_wp2_with fail
 refine (q7k _ DQ.out.val (by first | (simp;done) | (simp;omega))).mono ?_
 rintro e w9 h9
 obtain ⟨v9,rfl,n9,b9⟩:=h9.valB HL.out.in
 replace HL:=hid (HL.out.step b9)
 clear DQ
 replace DL:=hid (DL.out.bel b9)
 have DD:=hid n9
 clear h9 n9 b9
 go_wp2_with fail
 refine (q0y _ DL.out.val DD.out.val (by first | (simp;done) | (simp;omega))).mono ?_
 rintro e w10 h10
 obtain ⟨v10,rfl,n10,b10⟩:=h10.valB HL.out.in
 replace HL:=hid (HL.out.step b10)
 clear DL
 clear DD
 have DG:=hid n10
 clear h10 n10 b10
 go_wp2_with fail
 refine (q9x _ DG.out.val (by first | (simp;done) | (simp;omega))).mono ?_
 rintro e w11 h11
 have HX:Hid (NdG w0 b w R [] e w11):=by
  have h:=h11.gof HL.out
  show NdG w0 b w R [] e w11
  rw [HRR.out]
  exact h
 obtain ⟨v11,rfl,_,_⟩:=h11.val
 clear h11 HL HRR DG
 go_wp2
 go_ret
 exact HX.out
theorem j7b {w0:World} {b:Nat} {xt:ByteArray} {xn:Int} {y:Td} {k:Fo} (hX:ExL w0 b y k) (hz:(q0m y k.dcs).nodes.length≤1000) (w:World) (hW:LyE w0 b (⟨8,xt,xn⟩::(y::(k.nodes++[]))) w) :
  Calls Tryz.prog 158 #[.pointer (some ⟨b,0,none⟩)] w fun e w'=>NdG w0 b w (stD ⟨8,xt,xn⟩ (q0m y k.dcs)).nodes [] e w':=by
 have HN:Hid (Calls Tryz.prog 183 #[.pointer (some ⟨b,0,none⟩)] w fun e w'=>e = .returned (.agg #[.int .i64 8,.string xt,.int .i64 xn])∧Lk w0 b w (y::(k.nodes++[])) w'):=q3d hW
 have HXL:Hid (∀ W,LyE w0 b (y::(k.nodes++[])) W→Calls Tryz.prog 185 #[.pointer (some ⟨b,0,none⟩)] W fun e w'=>NdG w0 b W (q0m y k.dcs).nodes [] e w'):=fun W hW=>hX [] W hW
 have HRR:Hid ((stD ⟨8,xt,xn⟩ (q0m y k.dcs)).nodes=⟨6,⟨#[]⟩,0⟩::((q0m y k.dcs).nodes++[⟨1,⟨#[59]⟩,0⟩])):=rfl
 generalize (stD ⟨8,xt,xn⟩ (q0m y k.dcs)).nodes=R at HRR ⊢
 generalize (q0m y k.dcs).nodes=xs at HXL HRR hz
 generalize y::(k.nodes++[])=r0 at HN HXL
 clear hX hW
 go_enter Tryz.func158,Tryz.ntmps158
 go_wp2_with fail
 refine HN.out.mono ?_
 rintro e w1 ⟨rfl,h1⟩
 have HSC:Hid (∃ w2,w1.alloc (.cells #[.int .i64 8,.string xt,.int .i64 xn] 71)=w2∧Lk w0 b w r0 w2∧w2.heap[w1.heap.size]? = some (.cells #[.int .i64 8,.string xt,.int .i64 xn] 71 (0,0))):=⟨_,rfl,h1.step (q1j w1 _),heap_alloc_new w1 _⟩
 have hgb:w1.heap.size≠b:=by have:=h1.in;omega
 clear h1 HN
 go_wp2_with fail
 obtain ⟨w2,hw2,hl2,hx2⟩:=HSC.out
 rw [hw2]
 have HL:Hid (Lk w0 b w r0 w2):=hl2
 have HBX:Hid (w2.heap[w1.heap.size]? = some (.cells #[.int .i64 8,.string xt,.int .i64 xn] 71 (0,0))):=hx2
 clear HSC hl2 hx2 hw2
 go_wp2_with fail
 refine (HXL.out _ HL.out.ly).mono ?_
 rintro e w3 h3
 obtain ⟨v3,rfl,n3,l3⟩:=h3.val
 replace HL:=hid (HL.out.then l3)
 replace HBX:=hid ((l3.bt.block _ (Array.getElem?_eq_some_iff.1 HBX.out).1 hgb).trans HBX.out)
 have DX:=hid n3
 clear h3 n3 l3
 go_wp2_with fail
 refine (q1p _ _).mono ?_
 rintro e w4 h4
 obtain ⟨v4,rfl,n4,b4⟩:=h4.valB HL.out.in
 replace HL:=hid (HL.out.step b4)
 replace HBX:=hid ((b4.block _ (Array.getElem?_eq_some_iff.1 HBX.out).1).trans HBX.out)
 replace DX:=hid (DX.out.bel b4)
 have DS:=hid n4
 clear h4 n4 b4
 go_wp2_with fail
 refine (q0y _ DX.out.val DS.out.val (by first | (simp;done) | (simp;omega))).mono ?_
 rintro e w5 h5
 have HX:Hid (NdG w0 b w R [] e w5):=by
  have h:=h5.gof HL.out
  show NdG w0 b w R [] e w5
  rw [HRR.out]
  exact h
 obtain ⟨v5,rfl,_,b5⟩:=h5.val
 have hbx:w5.heap[w1.heap.size]? = some (.cells #[.int .i64 8,.string xt,.int .i64 xn] 71 (0,0)):=(b5.block _ (Array.getElem?_eq_some_iff.1 HBX.out).1).trans HBX.out
 have d0:w5.cell? ⟨w1.heap.size,0,none⟩=some (.int .i64 8):=by rw [Lib.cell_of_heap hbx];rfl
 clear h5 HL HRR DX DS b5 hbx HBX
 go_wp2
 go_ret
 exact HX.out
theorem j0y {t:List Td} {a:Option Addr} {cap:Nat} {w W:World} {b:Nat} (ht:z4r w) (h:q0c t=0) (h9:opT t≠9) (hc:t.length≤cap) (hN:Tds w a t) (hlt:w.heap.size≤b) (hx:W.heap[b]? = some (.cells #[.slice a t.length cap] 243 (0,0))) (hb:Below w.heap.size w W) :
  Calls Tryz.prog 158 #[.pointer (some ⟨b,0,none⟩)] W fun e w'=>NdR w (q0z t).nodes e w':=by
 obtain ⟨h1,h2,_,_⟩:=q2i h
 obtain ⟨x,y,k,rfl,hok,hex,hk,hxx⟩:=z1f h h9
 have hall:EAL w b (.cons y k .nil):=z5p ht _ hok hex (by simp only [List.length_cons] at h1;omega)
 have hz:(q0m y k.dcs).nodes.length≤1000:=by
  have:=(k3z y k .nil).2
  simp only [List.length_cons] at h1
  omega
 have e0:q0z (x::(Fo.cons y k .nil).nodes)=stD x (q0m y k.dcs):=z6j hok hk
 have hnd:x::(Fo.cons y k .nil).nodes=x::(y::(k.nodes++[])):=by simp [Fo.nodes]
 rw [e0]
 have hW:LyE w b (x::(y::(k.nodes++[]))) W:=by
  rw [←hnd]
  exact ⟨a,cap,hx,hc,hN,hb,hlt⟩
 have key:Calls Tryz.prog 158 #[.pointer (some ⟨b,0,none⟩)] W fun e w'=>NdG w b W (stD x (q0m y k.dcs)).nodes [] e w':=by
  obtain ⟨xo,xt,xn⟩:=x
  rcases hxx with ⟨ho,hnm,_⟩ | ⟨ho,_,_⟩
  ·dsimp only at ho hnm
   subst ho
   have h8:=q2c hnm
   rw [q0b] at h8
   exact j0z hall.1 hz h8 W hW
  ·dsimp only at ho
   subst ho
   exact j7b hall.1 hz W hW
 refine key.mono ?_
 rintro e w' ⟨A,c,rfl,ho,hl⟩
 exact ⟨A,c,rfl,ho.down hb.size,hb.trans ((hl.bt.mono hb.size).below hlt)⟩
theorem j0v (t:List Td) (a:Option Addr) (cap:Nat) (w:World) (ht:z4r w) (h:q0c t=0) (h9:opT t≠9) (hc:t.length≤cap) (hN:Tds w a t):Calls Tryz.prog 123 #[.slice a t.length cap] w fun e w'=>z1h t e w'∧Below w.heap.size w w':=by
 have HST:Hid (∀ (W:World) (b:Nat),w.heap.size≤b→W.heap[b]? = some (.cells #[.slice a t.length cap] 243 (0,0))→Below w.heap.size w W→Calls Tryz.prog 158 #[.pointer (some ⟨b,0,none⟩)] W fun e w'=>NdR w (q0z t).nodes e w'):=fun W b hlt hx hb=>j0y ht h h9 hc hN hlt hx hb
 have hn9:=(z7l h h9).n
 by_cases hm:400<(q0z t).nodes.length
 ·obtain ⟨e1,e2,_,_⟩:=j6r h h9 hm
  have HO:Hid (∀ W,z1h t (.returned (.tuple #[.slice none 0 0,q1e 3])) W):=fun W=>⟨none,0,by rw [e1,e2];rfl,by rw [e2];exact fun i hi=>by simp at hi,by rw [e2];exact Nat.le_refl _⟩
  generalize (q0z t).nodes=xs at HST hm hn9
  have hmi:(400:Int)<(xs.length:Int):=by omega
  clear h h9 e1 e2 hN ht
  go_enter Tryz.func123,Tryz.ntmps123
  go_wp2_with fail
  refine (HST.out _ _ (Nat.le_refl _) (heap_alloc_new w _) (q1j w _)).mono ?_
  rintro e w2 ⟨A,c,rfl,hO,b2⟩
  have HB2:Hid (Below w.heap.size w w2):=b2
  clear hO b2
  go_wp2
  go_ret2
  exact ⟨HO.out _,HB2.out⟩
 ·obtain ⟨e1,e2,_,_⟩:=v3k h h9 hm
  have HO:Hid (∀ A c W,q2s W A (q0z t).nodes→(q0z t).nodes.length≤c→z1h t (.returned (.tuple #[.slice A (q0z t).nodes.length c,q1e 0])) W):=fun A c W h h2=>⟨A,c,by rw [e1,e2],by rw [e2];exact h,by rw [e2];exact h2⟩
  generalize (q0z t).nodes=xs at HST hm hn9 HO
  have hmi:¬ (400:Int)<(xs.length:Int):=by omega
  clear h h9 e1 e2 hN ht
  go_enter Tryz.func123,Tryz.ntmps123
  go_wp2_with fail
  refine (HST.out _ _ (Nat.le_refl _) (heap_alloc_new w _) (q1j w _)).mono ?_
  rintro e w2 ⟨A,c,rfl,hO,b2⟩
  have HB2:Hid (Below w.heap.size w w2):=b2
  have HN2:=(show Hid (_) from HO.out A c w2 hO.nods (k3n hO).2.1)
  clear hO b2
  go_wp2
  go_ret2
  exact ⟨HN2.out,HB2.out⟩
theorem j2z:∀ W:List Wd,(∀ w∈W,w.length≤20)→szW W≤21*W.length
 | [],_=>Nat.le_refl _
 | x::r,h=>by
  have h1:=j2z r fun w hw=>h w (by simp [hw])
  have h2:=h x (by simp)
  rw [q1n,List.length_cons]
  omega
theorem k3e {tx:ByteArray} (h:q3k tx=0):Lib.fields (btL tx)=q0k (btL tx)∧(btL tx).length≤2000∧∀ b∈btL tx,b.toNat<128:=by
 obtain ⟨h1,h2⟩:=z6a h
 by_cases hne:btL tx=[]
 ·rw [hne]
  exact ⟨rfl,by simp,fun b hb=>by cases hb⟩
 ·have e2:q0k (btL tx)=q4v (btL tx):=by rw [q0k,if_neg hne]
  rw [e2] at h1 h2 ⊢
  have hj:=z7w (btL tx)
  have hpr:∀ b∈btL tx,prB b=true:=by
   intro b hb
   rw [←hj] at hb
   refine z5l (p:=prB) rfl (q4v (btL tx)) (fun w hw b hb=>?_) b hb
   have h3:=(h2 w hw).2.2 b hb
   simp only [q9b,Bool.and_eq_true,decide_eq_true_eq] at h3
   simp only [prB,Bool.and_eq_true,decide_eq_true_eq]
   omega
  refine ⟨?_,?_,fun b hb=>?_⟩
  ·rw [q9p fun b hb hs=>v8z (hpr b hb) hs,List.filter_eq_self]
   intro w hw
   have:=(h2 w hw).1
   cases w with
   | nil=>exact absurd rfl this
   | cons=>rfl
  ·have q1:=v3i (q4v (btL tx))
   have q2:=j2z (q4v (btL tx)) fun w hw=>(h2 w hw).2.1
   rw [hj] at q1
   omega
  ·have:=hpr b hb
   simp only [prB,Bool.and_eq_true,decide_eq_true_eq] at this
   omega
theorem k0r {tx:ByteArray} (h:q3k tx=0) (w:World) (ht:q6n w):Calls Tryz.prog 118 #[.string tx] w fun e w'=>(∃ g,e = .returned (.slice (some ⟨g,0,none⟩) (q0k (btL tx)).length (q0k (btL tx)).length)∧Wds w' (some ⟨g,0,none⟩) ((q0k (btL tx)).map wbS))∧Below w.heap.size w w':=by
 obtain ⟨h1,h2,h3⟩:=k3e h
 rw [←h1]
 rw [q0b] at h2
 refine (fields_sh tx w (by omega) (fun j c hj=>h3 c (List.mem_of_getElem? hj)) ht.spc).mono ?_
 rintro e w' ⟨rfl,rfl⟩
 refine ⟨⟨w.heap.size,rfl,?_⟩,q1j w _⟩
 intro i hi
 have hi2:i<(Lib.fields (btL tx)).length:=by simpa using hi
 refine ⟨w.heap.size,0,rfl,by rw [World.size_alloc];omega,?_⟩
 rw [Nat.zero_add]
 have hk:=heap_alloc_new w (.cells ((Lib.fields (btL tx)).map fun l=>Value.string ⟨l.toArray⟩).toArray 9)
 rw [Lib.cell_of_heap hk]
 show ((Lib.fields (btL tx)).map fun l=>Value.string ⟨l.toArray⟩).toArray[i]? = _
 rw [List.getElem?_toArray,List.getElem?_map,show (Lib.fields (btL tx))[i]? = some (Lib.fields (btL tx))[i] from List.getElem?_eq_getElem hi2]
 simp [wbS]
theorem k1g {t:List Td} {a:Option Addr} {w:World} (h:q0c t=0) (hN:Tds w a t):0<t.length∧∃ b o,a=some ⟨b,o,none⟩∧b<w.heap.size∧w.cell? ⟨b,o,none⟩=some (.int .i64 (opT t))∧w.cell? ⟨b,o+1,none⟩=some (.string (txT t)):=by
 have hpos:=z6p h
 obtain ⟨b,o,e,hb,c1,c2,_⟩:=hN 0 hpos
 refine ⟨hpos,b,o,e,hb,?_,?_⟩
 ·rw [k1f hpos];simpa using c1
 ·cases t with
  | nil=>simp at hpos
  | cons x r=>simpa [txT] using c2
theorem z2g {b o cap n:Nat} {op:Int} {w:World} (hn:0<n) (h:w.cell? ⟨b,o,none⟩=some (.int .i64 op)):Calls Tryz.prog 117 #[.slice (some ⟨b,o,none⟩) n cap] w fun e w'=>e = .returned (.bool (op == 9))∧w=w':=by
 have hpi:(0:Int)<(n:Int):=by omega
 go_enter Tryz.func117,Tryz.ntmps117
 go_wp2
 go_ret
 exact ⟨rfl,rfl⟩
theorem k5h (t:List Td) (a:Option Addr) (cap:Nat) (w:World) (ht:z4r w) (hc:t.length≤cap) (hN:Tds w a t) (hsz:z3d t):Calls Tryz.prog 87 #[.slice a t.length cap] w fun e w'=>z1h t e w'∧Below w.heap.size w w':=by
 have HC:Hid (Calls Tryz.prog 51 #[.slice a t.length cap] w fun e w'=>e = .returned (q1e (q0c t))∧Below w.heap.size w w'):=q5m t a cap w hc hN hsz
 have HN:Hid (Tds w a t):=hN
 have HT:Hid (z4r w):=ht
 clear hN hsz ht
 by_cases h0:q0c t=0
 ·obtain ⟨hpos,b,o,rfl,hb,c1,c2⟩:=k1g h0 HN.out
  have HI:Hid (∀ W:World,Below w.heap.size w W→Calls Tryz.prog 117 #[.slice (some ⟨b,o,none⟩) t.length cap] W fun e w'=>e = .returned (.bool (opT t == 9))∧W=w'):=fun W h=>z2g hpos (((q0v h).1 _ _ hb).trans c1)
  rw [h0] at HC
  clear c1 c2
  by_cases h9:opT t=9
  ·obtain ⟨e1,e2,_,_⟩:=z5n h0 h9
   have HO:Hid (∀ W,z1h t (.returned (.tuple #[.slice none 0 0,q1e 2])) W):=fun W=>⟨none,0,by rw [e1,e2];rfl,by rw [e2];exact fun i hi=>by simp at hi,by rw [e2];exact Nat.le_refl _⟩
   rw [show (opT t == 9)=true by simp [h9]] at HI
   clear h0 h9 e1 e2
   go_enter Tryz.func87,Tryz.ntmps87
   go_wp2_with fail
   refine HC.out.mono ?_
   rintro e w1 ⟨rfl,b1⟩
   rw [q0n]
   have HB1:Hid (Below w.heap.size w w1):=b1
   clear b1
   go_wp2_with fail
   refine (HI.out _ HB1.out).mono ?_
   rintro e w2 ⟨rfl,rfl⟩
   go_wp2
   go_ret2
   exact ⟨HO.out _,HB1.out⟩
  ·have HLD:Hid (∀ W:World,Below w.heap.size w W→Calls Tryz.prog 123 #[.slice (some ⟨b,o,none⟩) t.length cap] W fun e w'=>(∃ A c,e = .returned (.tuple #[.slice A (q6r t).length c,q1e (q7v t)])∧q2s w' A (q6r t)∧(q6r t).length≤c)∧Below W.heap.size W w'):=fun W h=>j0v t _ cap W (HT.out.below h) h0 h9 hc (HN.out.below h)
   have HO:Hid (∀ A c W,q2s W A (q6r t)→(q6r t).length≤c→z1h t (.returned (.tuple #[.slice A (q6r t).length c,q1e (q7v t)])) W):=fun A c W h h2=>⟨A,c,rfl,h,h2⟩
   rw [show (opT t == 9)=false by simp [h9]] at HI
   generalize q6r t=xs at HLD HO
   generalize q1e (q7v t)=er at HLD HO
   clear h0 h9
   go_enter Tryz.func87,Tryz.ntmps87
   go_wp2_with fail
   refine HC.out.mono ?_
   rintro e w1 ⟨rfl,b1⟩
   rw [q0n]
   have HB1:Hid (Below w.heap.size w w1):=b1
   clear b1
   go_wp2_with fail
   refine (HI.out _ HB1.out).mono ?_
   rintro e w2 ⟨rfl,rfl⟩
   go_wp2_with fail
   refine (HLD.out _ HB1.out).mono ?_
   rintro e w3 ⟨⟨A,c,rfl,hO,hl⟩,b3⟩
   have HB3:Hid (Below w.heap.size w w3):=q0h HB1.out (Nat.le_refl _) b3
   have HN3:=(show Hid (_) from HO.out A c w3 hO hl)
   clear hO hl b3
   generalize xs.length=nx at HN3 ⊢
   go_wp2
   go_ret2
   exact ⟨HN3.out,HB3.out⟩
 ·obtain ⟨e1,e2,_,_⟩:=j0g h0
  have HE:Hid (q1e (q0c t) = .iface 24 (.int .i64 (q0c t))):=q0g h0
  have HO:Hid (∀ W,z1h t (.returned (.tuple #[.slice none 0 0,q1e (q0c t)])) W):=fun W=>⟨none,0,by rw [e1,e2];rfl,by rw [e2];exact fun i hi=>by simp at hi,by rw [e2];exact Nat.le_refl _⟩
  clear e1 e2 h0
  go_enter Tryz.func87,Tryz.ntmps87
  go_wp2_with fail
  refine HC.out.mono ?_
  rintro e w1 ⟨rfl,b1⟩
  rw [HE.out]
  go_wp2
  go_ret2
  exact ⟨by have:=HO.out w1;rw [HE.out] at this;exact this,b1⟩
theorem j1m {t:List Td} (h:q0c t=0) (h9:opT t=9):q3k (txT t)=0:=by
 rcases q5l h with ⟨x,rfl,_,_,hf⟩ | ⟨x,F,rfl,_,_,_,hx⟩
 ·exact hf
 ·exfalso
  have e:opT (x::F.nodes)=x.op:=rfl
  rcases hx with ⟨ho,_⟩ | ⟨ho,_⟩<;>omega
theorem k0q (t:List Td) (a:Option Addr) (cap:Nat) (w:World) (ht:q6n w) (hc:t.length≤cap) (hN:Tds w a t) (hsz:z3d t):Calls Tryz.prog 84 #[.slice a t.length cap] w fun e w'=>z4p t e w'∧Below w.heap.size w w':=by
 have HC:Hid (Calls Tryz.prog 51 #[.slice a t.length cap] w fun e w'=>e = .returned (q1e (q0c t))∧Below w.heap.size w w'):=q5m t a cap w hc hN hsz
 have HN:Hid (Tds w a t):=hN
 have HT:Hid (q6n w):=ht
 clear hN hsz ht
 by_cases h0:q0c t=0
 ·obtain ⟨hpos,b,o,rfl,hb,c1,c2⟩:=k1g h0 HN.out
  have HI:Hid (∀ W:World,Below w.heap.size w W→Calls Tryz.prog 117 #[.slice (some ⟨b,o,none⟩) t.length cap] W fun e w'=>e = .returned (.bool (opT t == 9))∧W=w'):=fun W h=>z2g hpos (((q0v h).1 _ _ hb).trans c1)
  have HCE:Hid (∀ W:World,Below w.heap.size w W→W.cell? ⟨b,o+1,none⟩=some (.string (txT t))):=fun W h=>((q0v h).1 _ _ hb).trans c2
  rw [h0] at HC
  have hpi:(0:Int)<(t.length:Int):=by omega
  clear c1 c2
  by_cases h9:opT t=9
  ·obtain ⟨_,_,e1,e2⟩:=z5n h0 h9
   have hnf:=j1m h0 h9
   have htz:(txT t).size≤2000:=by rw [←q0b];exact (k3e hnf).2.1
   have HCL:Hid (∀ W:World,Calls Tryz.prog 77 #[.string (txT t)] W fun e w'=>e = .returned (.string (txT t))∧Below W.heap.size W w'):=fun W=>q6q _ W (by omega)
   have HNW:Hid (∀ W:World,Below w.heap.size w W→Calls Tryz.prog 118 #[.string (txT t)] W fun e w'=>(∃ g,e = .returned (.slice (some ⟨g,0,none⟩) (q0k (btL (txT t))).length (q0k (btL (txT t))).length)∧Wds w' (some ⟨g,0,none⟩) ((q0k (btL (txT t))).map wbS))∧Below W.heap.size W w'):=fun W h=>k0r hnf W (HT.out.below h)
   have HO:Hid (∀ A c W,Wds W A ((q0k (btL (txT t))).map wbS)→(q0k (btL (txT t))).length≤c→z4p t (.returned (.tuple #[.slice A (q0k (btL (txT t))).length c,q1e 0])) W):=fun A c W h h2=>⟨A,c,by rw [e1,e2,List.length_map],by rw [e2];exact h,by rw [e2,List.length_map];exact h2⟩
   rw [show (opT t == 9)=true by simp [h9]] at HI
   generalize q0k (btL (txT t))=ws at HNW HO
   generalize txT t=tx at HNW HCE HCL
   clear h0 h9 e1 e2 htz hnf
   go_enter Tryz.func84,Tryz.ntmps84
   go_wp2_with fail
   refine HC.out.mono ?_
   rintro e w1 ⟨rfl,b1⟩
   rw [q0n]
   have c2:=HCE.out w1 b1
   have HB1:Hid (Below w.heap.size w w1):=b1
   clear b1
   go_wp2_with fail
   refine (HI.out _ HB1.out).mono ?_
   rintro e w2 ⟨rfl,rfl⟩
   go_wp2_with fail
   refine (HCL.out _).mono ?_
   rintro e w3 ⟨rfl,b3⟩
   have HB3:Hid (Below w.heap.size w w3):=q0h HB1.out (Nat.le_refl _) b3
   clear b3
   go_wp2_with fail
   refine (HNW.out _ HB3.out).mono ?_
   rintro e w4 ⟨⟨g,rfl,hS⟩,b4⟩
   have HB4:Hid (Below w.heap.size w w4):=q0h HB3.out (Nat.le_refl _) b4
   have HN4:=(show Hid (_) from HO.out _ ws.length w4 hS (Nat.le_refl _))
   clear hS b4 c2
   generalize ws.length=nw at HN4 ⊢
   go_wp2
   go_ret2
   exact ⟨HN4.out,HB4.out⟩
  ·have HO:Hid (∀ W,z4p t (.returned (.tuple #[.slice none 0 0,q1e 2])) W):=fun W=>by
    have e1:z9s t=2:=by rw [z9s,if_neg (by simp [h0]),if_neg h9]
    have e2:k5i t=[]:=by rw [k5i,if_neg (by rw [e1];decide)]
    exact ⟨none,0,by rw [e1,e2];rfl,by rw [e2];exact fun i hi=>by simp at hi,by rw [e2];exact Nat.le_refl _⟩
   rw [show (opT t == 9)=false by simp [h9]] at HI
   clear h0 h9 HCE
   go_enter Tryz.func84,Tryz.ntmps84
   go_wp2_with fail
   refine HC.out.mono ?_
   rintro e w1 ⟨rfl,b1⟩
   rw [q0n]
   have HB1:Hid (Below w.heap.size w w1):=b1
   clear b1
   go_wp2_with fail
   refine (HI.out _ HB1.out).mono ?_
   rintro e w2 ⟨rfl,rfl⟩
   go_wp2
   go_ret2
   exact ⟨HO.out _,HB1.out⟩
 ·obtain ⟨_,_,e1,e2⟩:=j0g h0
  have HE:Hid (q1e (q0c t) = .iface 24 (.int .i64 (q0c t))):=q0g h0
  have HO:Hid (∀ W,z4p t (.returned (.tuple #[.slice none 0 0,q1e (q0c t)])) W):=fun W=>⟨none,0,by rw [e1,e2];rfl,by rw [e2];exact fun i hi=>by simp at hi,by rw [e2];exact Nat.le_refl _⟩
  clear e1 e2 h0
  go_enter Tryz.func84,Tryz.ntmps84
  go_wp2_with fail
  refine HC.out.mono ?_
  rintro e w1 ⟨rfl,b1⟩
  rw [HE.out]
  go_wp2
  go_ret2
  exact ⟨by have:=HO.out w1;rw [HE.out] at this;exact this,b1⟩
theorem v9l:(Tryz.prog.info? 59).map (fun i=>(i.zero,i.size,i.bytes))=some (some (.slice none 0 0),1,24):=by kernel_rfl
def z0h (B:Nat) (v:Value) (ps:List (List Td)) (w:World):Prop:=
 ∃ hs:List Value,w.ownsRow B 59 1 v ps.length hs∧∀ i (h:i<ps.length),∃ g c,hs[i]? = some (.slice (some ⟨g,0,none⟩) ps[i].length c)∧q1o B (.slice (some ⟨g,0,none⟩) ps[i].length c) ps[i] w
theorem z0h.nil (B:Nat) (w:World):z0h B (.slice Option.none 0 0) [] w:=⟨[],⟨rfl,.inl ⟨rfl,rfl⟩⟩,fun i h=>by simp at h⟩
theorem z4j {B:Nat} {w:World} {g n c:Nat} {xs:List Td} (h:q1o B (.slice (some ⟨g,0,none⟩) n c) xs w):B≤g∧n≤c∧∃ cur,w.heap[g]? = some (.cells cur 71 (0,0)):=by
 rcases h.2 with ⟨hv,_⟩ | ⟨g',c',cur,hv,hB,hg,hc,_⟩
 ·cases hv
 ·simp only [Value.slice.injEq,Option.some.injEq,Addr.mk.injEq,and_true] at hv
  obtain ⟨rfl,rfl,rfl⟩:=hv
  exact ⟨hB,hc,cur,hg⟩
theorem j8y {B:Nat} {w w':World} {g n c:Nat} {xs:List Td} (h:q1o B (.slice (some ⟨g,0,none⟩) n c) xs w) (hk:w'.heap[g]? = w.heap[g]?):q1o B (.slice (some ⟨g,0,none⟩) n c) xs w':=by
 refine ⟨h.1,?_⟩
 rcases h.2 with ⟨hv,_⟩ | ⟨g',c',cur,hv,hB,hg,rest⟩
 ·cases hv
 ·have e:=hv
  simp only [Value.slice.injEq,Option.some.injEq,Addr.mk.injEq,and_true] at e
  obtain ⟨rfl,_,_⟩:=e
  exact .inr ⟨g,c',cur,hv,hB,hk.trans hg,rest⟩
theorem z0h.kept {B:Nat} {v:Value} {ps:List (List Td)} {w w':World} (h:z0h B v ps w) (hk:∀ g,B≤g→g<w.heap.size→w'.heap[g]? = w.heap[g]?):z0h B v ps w':=by
 obtain ⟨hs,h1,h2⟩:=h
 refine ⟨hs,⟨h1.1,?_⟩,fun i hi=>?_⟩
 ·rcases h1.2 with h0 | ⟨g,c,cur,hv,hB,hg,rest⟩
  ·exact .inl h0
  ·exact .inr ⟨g,c,cur,hv,hB,(hk g hB (Array.getElem?_eq_some_iff.1 hg).1).trans hg,rest⟩
 ·obtain ⟨g,c,e1,e2⟩:=h2 i hi
  exact ⟨g,c,e1,e2.kept hk⟩
theorem z0h.but {B b:Nat} {v:Value} {ps:List (List Td)} {w w':World} (h:z0h B v ps w) (hb:But w.heap.size b w w') (hB:b<B):z0h B v ps w':=h.kept fun g h1 h2=>hb.block g h2 (by omega)
theorem z0h.cell {B:Nat} {A:Option Addr} {n c:Nat} {ps:List (List Td)} {w:World} (h:z0h B (.slice A n c) ps w):n=ps.length∧n≤c∧(A=none→n=0∧c=0)∧∀ i (h:i<ps.length),∃ go g c',A=some ⟨go,0,none⟩∧B≤go∧z9r w go c∧w.cell? ⟨go,i,none⟩=some (.slice (some ⟨g,0,none⟩) ps[i].length c')∧q1o B (.slice (some ⟨g,0,none⟩) ps[i].length c') ps[i] w:=by
 obtain ⟨hs,h1,h2⟩:=h
 rcases h1.2 with ⟨hv,h0⟩ | ⟨go,co,cur,hv,hB,hg,hnc,_,hsz,htake⟩
 ·simp only [Value.slice.injEq] at hv
  obtain ⟨rfl,rfl,rfl⟩:=hv
  exact ⟨h0.symm,Nat.le_refl _,fun _=>⟨rfl,rfl⟩,fun i hi=>by omega⟩
 ·simp only [Value.slice.injEq] at hv
  obtain ⟨rfl,rfl,rfl⟩:=hv
  refine ⟨rfl,hnc,(fun e=>by cases e),fun i hi=>?_⟩
  obtain ⟨g,c',e1,e2⟩:=h2 i hi
  refine ⟨go,g,c',rfl,hB,⟨cur,_,hg,by omega⟩,?_,e2⟩
  rw [←htake,List.getElem?_take_of_lt (by omega)] at e1
  simp only [World.cell?,hg]
  simpa using e1
theorem z0h.prg {B:Nat} {A:Option Addr} {n c:Nat} {ps:List (List Td)} {w:World} (h:z0h B (.slice A n c) ps w):Prg w A ps:=by
 intro i hi
 obtain ⟨go,g,c',e,_,hr,hc,hT⟩:=h.cell.2.2.2 i hi
 exact ⟨go,0,_,c',e,hr.lt,by rw [Nat.zero_add];exact hc,(z4j hT).2.1,hT.tds⟩
theorem j7x {B:Nat} {w:World} {v:Value} {n:Nat} {hs:List Value} (h:w.ownsRow B 59 1 v n hs) {k:Nat} (hk:v.ownBlock=some k):∃ cur,w.heap[k]? = some (.cells cur 59 (0,0)):=by
 rcases h.2 with ⟨rfl,_⟩ | ⟨g,c,cur,rfl,_,hg,_⟩
 ·cases hk
 ·have:g=k:=by simpa [Value.ownBlock] using hk
  subst this
  exact ⟨cur,hg⟩
theorem z0h.own_le {B:Nat} {v:Value} {ps:List (List Td)} {w:World} (h:z0h B v ps w) {k:Nat} (hk:v.ownBlock=some k):B≤k:=by
 obtain ⟨hs,h1,_⟩:=h
 rcases h1.2 with ⟨rfl,_⟩ | ⟨g,c,cur,rfl,hB,_⟩
 ·cases hk
 ·have:g=k:=by simpa [Value.ownBlock] using hk
  omega
theorem j2n {B:Nat} {v:Value} {ps:List (List Td)} {w:World} (h:z0h B v ps w) {g n c:Nat} {t:List Td} (hT:q1o B (.slice (some ⟨g,0,none⟩) n c) t w) :
  z0h B v ps (w.alloc (.cells #[.slice (some ⟨g,0,none⟩) n c] 59))∧q1o B (.slice (some ⟨g,0,none⟩) n c) t (w.alloc (.cells #[.slice (some ⟨g,0,none⟩) n c] 59))∧
  (w.alloc (.cells #[.slice (some ⟨g,0,none⟩) n c] 59)).cell? ⟨w.heap.size,0,none⟩=some (.slice (some ⟨g,0,none⟩) n c):=by
 have b1:Below w.heap.size w (w.alloc (.cells #[.slice (some ⟨g,0,none⟩) n c] 59)):=(Below.refl _ _).alloc (Nat.le_refl _) _
 exact ⟨h.kept fun g _ h2=>b1.block g h2,hT.kept fun g _ h2=>b1.block g h2,cell_one_new w (.slice (some ⟨g,0,none⟩) n c) 59 0 _ rfl⟩
theorem z9h {B:Nat} {w:World} {A:Option Addr} {n c:Nat} {x:Td} {xs:List Td} (h:q1o B (.slice A n c) (x::xs) w):∃ g,A=some ⟨g,0,none⟩:=by
 rcases h.2 with ⟨_,h0⟩ | ⟨g,c',cur,hv,_⟩
 ·simp at h0
 ·simp only [Value.slice.injEq] at hv
  exact ⟨g,hv.1⟩
end Go.Proofs.YtchdplceopegoaaGreatDoor
namespace Go.Proofs.YtchdplceopegoaaGreatDoor
open Go Go.RowKit
set_option maxRecDepth 100000
theorem z6k {w:World} {ops:Array Oper} {o:Oper} {a:Act} {K:Act→World→Prop} {Q:Exit→Act→World→Prop} {E:Prop} (hgd:o.guard=none) (s x:Operand) (t:TypeId)
  (ho:o.op = .call { callee:=.builtin .append,args:=#[s,x],argTypes:=#[t,t] }) (v u v':Value) (w':World) (hs:a.eval s=v) (hx:a.eval x=u)
  (hrun:(Builtin.append_ #[t,t] o.type #[v,u]).run Tryz.prog w = .ok v' w') (hK:K (a.put o.dst v') w'):if Region.wanted o (yielded ops a.tmps)=true then Oper.wp Tryz.prog o a w K Q else E:=by
 have hw:Region.wanted o (yielded ops a.tmps)=true:=by simp [Region.wanted,hgd]
 rw [if_pos hw]
 unfold Oper.wp
 simp [execOp,ho,resolve,invoke,builtin,hs,hx,hrun,Result.andThen]
 exact hK
theorem q1l {w:World} {ops:Array Oper} {o:Oper} {a:Act} {K:Act→World→Prop} {Q:Exit→Act→World→Prop} {E:Prop} (hgd:o.guard=none) (s x:Operand)
  (ho:o.op = .call { callee:=.builtin .append,args:=#[s,x],argTypes:=#[59,59] })
  (base:Nat) (v:Value) (xs:List Td) (hs:a.eval s=v) (hown:q1o base v xs w)
  (wa:Option Addr) (n:Nat) (ws:List Td) (hn:ws.length=n) (wc:Nat) (hx:a.eval x = .slice wa n wc) (hW:Tds w wa ws) (hnil:wa=none→n=0∧wc=0)
  (m:Nat) (hm:xs.length+n=m) (hb:m≤1000000) (hbase:base≤w.heap.size)
  (h:∀ A c w',q1o base (.slice A m c) (xs++ws) w'→w.grownBy w' v.ownBlock→K (a.put o.dst (.slice A m c)) w'):if Region.wanted o (yielded ops a.tmps)=true then Oper.wp Tryz.prog o a w K Q else E:=by
 subst hn hm
 obtain ⟨i0,hi,hz0,hz1,hz2⟩:=info_parts j3g
 have h':∀ v' w',q1o base v' (xs++ws) w'→w.grownBy w' v.ownBlock→K (a.put o.dst v') w':=by
  intro v' w' h1 h2
  obtain ⟨A,c,rfl⟩:∃ A c,v' = .slice A (xs.length+ws.length) c:=by
   rcases h1.2 with ⟨hv,h0⟩ | ⟨g,c,cur,hv,_⟩
   ·rw [List.length_append] at h0;exact ⟨.none,0,by rw [hv,h0]⟩
   ·rw [List.length_append] at hv;exact ⟨_,c,hv⟩
  exact h A c w' h1 h2
 cases wa with
 | none=>
  obtain ⟨h0,rfl⟩:=hnil rfl
  obtain rfl:ws=[]:=List.eq_nil_of_length_eq_zero h0
  refine z6k hgd s x 59 ho v _ _ _ hs hx (run_append_owned_none (P:=Tryz.prog) (w:=w) base 59 o.type 71 i0 3 Tryz.underlying59 hi v xs.length (q0s xs) hown) ?_
  refine h' v w ?_ ⟨rfl,rfl,rfl,Nat.le_refl _,fun _ _ _=>rfl⟩
  rw [List.append_nil]
  exact hown
 | some ad=>
  have hsp:ws=[]∨∃ b o,ad=⟨b,o,Option.none⟩:=by
   rcases Nat.eq_zero_or_pos ws.length with h0 | h0
   ·exact .inl (List.eq_nil_of_length_eq_zero h0)
   ·obtain ⟨b,o,e,_⟩:=hW 0 h0
    exact .inr ⟨b,o,by simpa using e⟩
  obtain ⟨v',w',hrun,h1,h2,_⟩:=run_append_own (P:=Tryz.prog) w base 59 o.type 71 i0 _ 3 32 Tryz.underlying59 hi hz0 hz1 hz2 rfl (by decide) v xs.length (q0s xs) hown ad ws.length wc (q0s ws) (q5n ws) (by
   rcases hsp with rfl | ⟨b,o,rfl⟩
   ·intro j u hj;simp [q0s] at hj
   ·exact k4b hW) (z2r ws) (by unfold maxLen;omega) (by omega) hbase
  refine z6k hgd s x 59 ho v _ v' w' hs hx hrun (h' v' w' ?_ h2)
  rw [←z2q] at h1
  show w'.ownsRow _ _ _ _ _ _
  rw [List.length_append]
  exact h1
theorem q6g {w:World} {ops:Array Oper} {o:Oper} {a:Act} {K:Act→World→Prop} {Q:Exit→Act→World→Prop} {E:Prop} (hgd:o.guard=none) (s x:Operand)
  (ho:o.op = .call { callee:=.builtin .append,args:=#[s,x],argTypes:=#[31,31] })
  (base:Nat) (v:Value) (ps:List (List Td)) (hs:a.eval s=v) (hown:z0h base v ps w)
  (b0 g n c:Nat) (t:List Td) (hn:t.length=n) (hx:a.eval x = .slice (some ⟨b0,0,none⟩) 1 1) (hc:w.cell? ⟨b0,0,none⟩=some (.slice (some ⟨g,0,none⟩) n c)) (hT:q1o base (.slice (some ⟨g,0,none⟩) n c) t w)
  (m:Nat) (hm:ps.length+1=m) (hb:m≤1000000) (hbase:base≤w.heap.size)
  (h:∀ A c' w',z0h base (.slice A m c') (ps++[t]) w'→w.grownBy w' v.ownBlock→K (a.put o.dst (.slice A m c')) w'):if Region.wanted o (yielded ops a.tmps)=true then Oper.wp Tryz.prog o a w K Q else E:=by
 subst hn hm
 obtain ⟨i0,hi,hz0,hz1,hz2⟩:=info_parts v9l
 obtain ⟨hvs,h1,h2⟩:=hown
 obtain ⟨v',w',hrun,h3,h4,_⟩:=run_append_own (P:=Tryz.prog) w base 31 o.type 59 i0 _ 1 24 Tryz.underlying31 hi hz0 hz1 hz2 rfl (by decide) v ps.length hvs h1 ⟨b0,0,none⟩ 1 1 [.slice (some ⟨g,0,none⟩) t.length c] rfl (by
  intro j u hj
  cases j with
  | zero=>
   simp at hj
   subst hj
   rw [z0w];exact hc
  | succ j=>simp at hj) (by intro u hu;simp at hu;subst hu;rfl) (by unfold maxLen;omega) (by omega) hbase
 have hkeep:∀ {g' n' c':Nat} {t':List Td},q1o base (.slice (some ⟨g',0,none⟩) n' c') t' w→q1o base (.slice (some ⟨g',0,none⟩) n' c') t' w':=by
  intro g' n' c' t' hT'
  obtain ⟨_,_,cur,hg'⟩:=z4j hT'
  refine j8y hT' (h4.block g' (Array.getElem?_eq_some_iff.1 hg').1 fun e=>?_)
  obtain ⟨cur2,hg2⟩:=j7x h1 e.symm
  rw [hg'] at hg2
  simp at hg2
 obtain ⟨A,c',rfl⟩:∃ A c',v' = .slice A (ps.length+1) c':=by
  rcases h3.2 with ⟨hv,h0⟩ | ⟨g',c',cur,hv,_⟩
  ·omega
  ·exact ⟨_,c',hv⟩
 refine z6k hgd s x 31 ho v _ _ w' hs hx hrun (h A c' w' ⟨hvs++[.slice (some ⟨g,0,none⟩) t.length c],?_,fun i hi=>?_⟩ h4)
 ·rw [List.length_append];exact h3
 ·have hl:=h1.1
  rw [Nat.mul_one] at hl
  by_cases e:i<ps.length
  ·obtain ⟨g',c'',e1,e2⟩:=h2 i e
   rw [List.getElem_append_left e]
   refine ⟨g',c'',?_,hkeep e2⟩
   rw [List.getElem?_append_left (by omega)]
   exact e1
  ·have hie:i=ps.length:=by simp at hi;omega
   subst hie
   rw [List.getElem_append_right (Nat.le_refl _)]
   refine ⟨g,c,?_,?_⟩
   ·rw [List.getElem?_append_right (by omega),hl]
    simp
   ·simp only [Nat.sub_self,List.getElem_cons_zero]
    exact hkeep hT
end Go.Proofs.YtchdplceopegoaaGreatDoor
