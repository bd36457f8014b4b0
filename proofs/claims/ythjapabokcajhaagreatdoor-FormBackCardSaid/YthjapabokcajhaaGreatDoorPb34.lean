/- Texts as one: LyC, SyQ, SyM, LayX, TreS. -/
import Derived.Test.YthjapabokcajhaaGreatDoorPb33
import Derived.Test.YthjapabokcajhaaGreatDoorPb07
import Derived.Test.YthjapabokcajhaaGreatDoorPb04
import Derived.Lib.Fields
import Derived.Lib.Join
import Derived.Test.YthjapabokcajhaaGreatDoorPb12
import Derived.Test.YthjapabokcajhaaGreatDoorPb27
import Derived.Test.YthjapabokcajhaaGreatDoorPb09
namespace Go.Proofs.YthjapabokcajhaaGreatDoor
open Go Go.RowKit
set_option maxRecDepth 100000
set_option maxHeartbeats 4000000
theorem j1z {w0:World} {b:Nat} {xt:ByteArray} {xn:Int} {y:Td} {k:Fo} (hX:ExL w0 b y k) (hz:(q0e y k.dcs).nodes.length≤1000) (h8:xt.size≤8) (w:World) (hW:LyE w0 b (⟨7,xt,xn⟩::(y::(k.nodes++[]))) w) :
  Calls Tryz.prog 86 #[.pointer (some ⟨b,0,none⟩)] w fun e w'=>NdG w0 b w (stD ⟨7,xt,xn⟩ (q0e y k.dcs)).nodes [] e w':=by
 have HN:Hid (Calls Tryz.prog 134 #[.pointer (some ⟨b,0,none⟩)] w fun e w'=>e = .returned (.agg #[.int .i64 7,.string xt,.int .i64 xn])∧Lk w0 b w (y::(k.nodes++[])) w'):=q3j hW
 have HXL:Hid (∀ W,LyE w0 b (y::(k.nodes++[])) W→Calls Tryz.prog 136 #[.pointer (some ⟨b,0,none⟩)] W fun e w'=>NdG w0 b W (q0e y k.dcs).nodes [] e w'):=fun W hW=>hX [] W hW
 have HRR:Hid ((stD ⟨7,xt,xn⟩ (q0e y k.dcs)).nodes=⟨8,⟨#[]⟩,0⟩::(⟨6,⟨#[]⟩,0⟩::([⟨1,(⟨#[108,101,116,32]⟩:ByteArray)++xt++(⟨#[32,61]⟩:ByteArray),0⟩]++(⟨7,⟨#[]⟩,2⟩::(⟨6,⟨#[]⟩,0⟩::([⟨2,⟨#[]⟩,0⟩]++(⟨6,⟨#[]⟩,0⟩::((q0e y k.dcs).nodes++[⟨1,⟨#[59]⟩,0⟩])))))))):=by
  show _=_
  have e6:wbS ([108,101,116,32]++btL xt++[32,61])=(⟨#[108,101,116,32]⟩:ByteArray)++xt++(⟨#[32,61]⟩:ByteArray):=by
   have q1:wbS [108,101,116,32]++wbS (btL xt)=wbS ([108,101,116,32]++btL xt):=q3d _ _
   have q2:wbS ([108,101,116,32]++btL xt)++wbS [32,61]=wbS ([108,101,116,32]++btL xt++[32,61]):=q3d _ _
   rw [←q2,←q1]
   rfl
  rw [←e6]
  rfl
 generalize (stD ⟨7,xt,xn⟩ (q0e y k.dcs)).nodes=R at HRR ⊢
 generalize (q0e y k.dcs).nodes=xs at HXL HRR hz
 generalize y::(k.nodes++[])=r0 at HN HXL
 have g1:¬ 9223372036854775807<4+xt.size:=by omega
 have g2:¬ 9223372036854775807<4+xt.size+2:=by omega
 clear hX hW
 go_enter Tryz.func86,Tryz.ntmps86
 go_wp2_with fail
 refine HN.out.mono ?_
 rintro e w1 ⟨rfl,h1⟩
 have HSC:Hid (∃ w2,w1.alloc (.cells #[.int .i64 7,.string xt,.int .i64 xn] 47)=w2∧Lk w0 b w r0 w2∧w2.heap[w1.heap.size]? = some (.cells #[.int .i64 7,.string xt,.int .i64 xn] 47 (0,0))):=⟨_,rfl,h1.step (q3e w1 _),heap_alloc_new w1 _⟩
 have hgb:w1.heap.size≠b:=by have:=h1.in;omega
 clear h1 HN
 go_wp2_with fail
 obtain ⟨w2,hw2,hl2,hx2⟩:=HSC.out
 rw [hw2]
 have HL:Hid (Lk w0 b w r0 w2):=hl2
 have HBX:Hid (w2.heap[w1.heap.size]? = some (.cells #[.int .i64 7,.string xt,.int .i64 xn] 47 (0,0))):=hx2
 clear HSC hl2 hx2 hw2
 go_wp2_with fail
 refine (HXL.out _ HL.out.ly).mono ?_
 rintro e w3 h3
 obtain ⟨v3,rfl,n3,l3⟩:=h3.val
 replace HL:=hid (HL.out.then l3)
 replace HBX:=hid ((l3.bt.block _ (Array.getElem?_eq_some_iff.1 HBX.out).1 hgb).trans HBX.out)
 have DX:=hid n3
 clear h3 n3 l3
 go_wp2_with fail
 refine (q1s _ _).mono ?_
 rintro e w4 h4
 obtain ⟨v4,rfl,n4,b4⟩:=h4.valB HL.out.in
 replace HL:=hid (HL.out.step b4)
 replace HBX:=hid ((b4.block _ (Array.getElem?_eq_some_iff.1 HBX.out).1).trans HBX.out)
 replace DX:=hid (DX.out.bel b4)
 have DS:=hid n4
 clear h4 n4 b4
 go_wp2_with fail
 refine (q1b _ DX.out.val DS.out.val (by first | (simp;done) | (simp;omega))).mono ?_
 rintro e w5 h5
 obtain ⟨v5,rfl,n5,b5⟩:=h5.valB HL.out.in
 replace HL:=hid (HL.out.step b5)
 replace HBX:=hid ((b5.block _ (Array.getElem?_eq_some_iff.1 HBX.out).1).trans HBX.out)
 clear DX
 clear DS
 have DR:=hid n5
 clear h5 n5 b5
 have d0:w5.cell? ⟨w1.heap.size,0,none⟩=some (.int .i64 7):=by rw [Lib.cell_of_heap HBX.out];rfl
 have d1:w5.cell? ⟨w1.heap.size,1,none⟩=some (.string xt):=by rw [Lib.cell_of_heap HBX.out];rfl
 clear HBX
 go_wp2_with fail
 refine (q1s _ _).mono ?_
 rintro e w6 h6
 obtain ⟨v6,rfl,n6,b6⟩:=h6.valB HL.out.in
 replace HL:=hid (HL.out.step b6)
 replace DR:=hid (DR.out.bel b6)
 have DL:=hid n6
 clear h6 n6 b6
 clear d0 d1
 go_wp2_with fail
 refine (z0m _).mono ?_
 rintro e w7 h7
 obtain ⟨v7,rfl,n7,b7⟩:=h7.valB HL.out.in
 replace HL:=hid (HL.out.step b7)
 replace DR:=hid (DR.out.bel b7)
 replace DL:=hid (DL.out.bel b7)
 have DB:=hid n7
 clear h7 n7 b7
 go_wp2_with fail
 refine (q1b _ DB.out.val DR.out.val (by first | (simp;done) | (simp;omega))).mono ?_
 rintro e w8 h8
 obtain ⟨v8,rfl,n8,b8⟩:=h8.valB HL.out.in
 replace HL:=hid (HL.out.step b8)
 clear DB
 clear DR
 replace DL:=hid (DL.out.bel b8)
 have DQ:=hid n8
 clear h8 n8 b8
 go_wp2_with fail
 refine (q8c _ DQ.out.val (by first | (simp;done) | (simp;omega))).mono ?_
 rintro e w9 h9
 obtain ⟨v9,rfl,n9,b9⟩:=h9.valB HL.out.in
 replace HL:=hid (HL.out.step b9)
 clear DQ
 replace DL:=hid (DL.out.bel b9)
 have DD:=hid n9
 clear h9 n9 b9
 go_wp2_with fail
 refine (q1b _ DL.out.val DD.out.val (by first | (simp;done) | (simp;omega))).mono ?_
 rintro e w10 h10
 obtain ⟨v10,rfl,n10,b10⟩:=h10.valB HL.out.in
 replace HL:=hid (HL.out.step b10)
 clear DL
 clear DD
 have DG:=hid n10
 clear h10 n10 b10
 go_wp2_with fail
 refine (z0n _ DG.out.val (by first | (simp;done) | (simp;omega))).mono ?_
 rintro e w11 h11
 have HX:Hid (NdG w0 b w R [] e w11):=by
  have h:=h11.gof HL.out
  show NdG w0 b w R [] e w11
  rw [HRR.out]
  exact h
 obtain ⟨v11,rfl,_,_⟩:=h11.val
 clear h11 HL HRR DG
 go_wp2
 go_ret
 exact HX.out
theorem j8n {w0:World} {b:Nat} {xt:ByteArray} {xn:Int} {y:Td} {k:Fo} (hX:ExL w0 b y k) (hz:(q0e y k.dcs).nodes.length≤1000) (w:World) (hW:LyE w0 b (⟨8,xt,xn⟩::(y::(k.nodes++[]))) w) :
  Calls Tryz.prog 86 #[.pointer (some ⟨b,0,none⟩)] w fun e w'=>NdG w0 b w (stD ⟨8,xt,xn⟩ (q0e y k.dcs)).nodes [] e w':=by
 have HN:Hid (Calls Tryz.prog 134 #[.pointer (some ⟨b,0,none⟩)] w fun e w'=>e = .returned (.agg #[.int .i64 8,.string xt,.int .i64 xn])∧Lk w0 b w (y::(k.nodes++[])) w'):=q3j hW
 have HXL:Hid (∀ W,LyE w0 b (y::(k.nodes++[])) W→Calls Tryz.prog 136 #[.pointer (some ⟨b,0,none⟩)] W fun e w'=>NdG w0 b W (q0e y k.dcs).nodes [] e w'):=fun W hW=>hX [] W hW
 have HRR:Hid ((stD ⟨8,xt,xn⟩ (q0e y k.dcs)).nodes=⟨6,⟨#[]⟩,0⟩::((q0e y k.dcs).nodes++[⟨1,⟨#[59]⟩,0⟩])):=rfl
 generalize (stD ⟨8,xt,xn⟩ (q0e y k.dcs)).nodes=R at HRR ⊢
 generalize (q0e y k.dcs).nodes=xs at HXL HRR hz
 generalize y::(k.nodes++[])=r0 at HN HXL
 clear hX hW
 go_enter Tryz.func86,Tryz.ntmps86
 go_wp2_with fail
 refine HN.out.mono ?_
 rintro e w1 ⟨rfl,h1⟩
 have HSC:Hid (∃ w2,w1.alloc (.cells #[.int .i64 8,.string xt,.int .i64 xn] 47)=w2∧Lk w0 b w r0 w2∧w2.heap[w1.heap.size]? = some (.cells #[.int .i64 8,.string xt,.int .i64 xn] 47 (0,0))):=⟨_,rfl,h1.step (q3e w1 _),heap_alloc_new w1 _⟩
 have hgb:w1.heap.size≠b:=by have:=h1.in;omega
 clear h1 HN
 go_wp2_with fail
 obtain ⟨w2,hw2,hl2,hx2⟩:=HSC.out
 rw [hw2]
 have HL:Hid (Lk w0 b w r0 w2):=hl2
 have HBX:Hid (w2.heap[w1.heap.size]? = some (.cells #[.int .i64 8,.string xt,.int .i64 xn] 47 (0,0))):=hx2
 clear HSC hl2 hx2 hw2
 go_wp2_with fail
 refine (HXL.out _ HL.out.ly).mono ?_
 rintro e w3 h3
 obtain ⟨v3,rfl,n3,l3⟩:=h3.val
 replace HL:=hid (HL.out.then l3)
 replace HBX:=hid ((l3.bt.block _ (Array.getElem?_eq_some_iff.1 HBX.out).1 hgb).trans HBX.out)
 have DX:=hid n3
 clear h3 n3 l3
 go_wp2_with fail
 refine (q1s _ _).mono ?_
 rintro e w4 h4
 obtain ⟨v4,rfl,n4,b4⟩:=h4.valB HL.out.in
 replace HL:=hid (HL.out.step b4)
 replace HBX:=hid ((b4.block _ (Array.getElem?_eq_some_iff.1 HBX.out).1).trans HBX.out)
 replace DX:=hid (DX.out.bel b4)
 have DS:=hid n4
 clear h4 n4 b4
 go_wp2_with fail
 refine (q1b _ DX.out.val DS.out.val (by first | (simp;done) | (simp;omega))).mono ?_
 rintro e w5 h5
 have HX:Hid (NdG w0 b w R [] e w5):=by
  have h:=h5.gof HL.out
  show NdG w0 b w R [] e w5
  rw [HRR.out]
  exact h
 obtain ⟨v5,rfl,_,b5⟩:=h5.val
 have hbx:w5.heap[w1.heap.size]? = some (.cells #[.int .i64 8,.string xt,.int .i64 xn] 47 (0,0)):=(b5.block _ (Array.getElem?_eq_some_iff.1 HBX.out).1).trans HBX.out
 have d0:w5.cell? ⟨w1.heap.size,0,none⟩=some (.int .i64 8):=by rw [Lib.cell_of_heap hbx];rfl
 clear h5 HL HRR DX DS b5 hbx HBX
 go_wp2
 go_ret
 exact HX.out
theorem j1y {t:List Td} {a:Option Addr} {cap:Nat} {w W:World} {b:Nat} (ht:k7q w) (h:q0f t=0) (h9:opT t≠9) (hc:t.length≤cap) (hN:Tds w a t) (hlt:w.heap.size≤b) (hx:W.heap[b]? = some (.cells #[.slice a t.length cap] 144 (0,0))) (hb:Below w.heap.size w W) :
  Calls Tryz.prog 86 #[.pointer (some ⟨b,0,none⟩)] W fun e w'=>NdR w (q0n t).nodes e w':=by
 obtain ⟨h1,h2,_,_⟩:=q2e h
 obtain ⟨x,y,k,rfl,hok,hex,hk,hxx⟩:=q4q h h9
 have hall:EAL w b (.cons y k .nil):=z6q ht _ hok hex (by simp only [List.length_cons] at h1;omega)
 have hz:(q0e y k.dcs).nodes.length≤1000:=by
  have:=(k4q y k .nil).2
  simp only [List.length_cons] at h1
  omega
 have e0:q0n (x::(Fo.cons y k .nil).nodes)=stD x (q0e y k.dcs):=q7l hok hk
 have hnd:x::(Fo.cons y k .nil).nodes=x::(y::(k.nodes++[])):=by simp [Fo.nodes]
 rw [e0]
 have hW:LyE w b (x::(y::(k.nodes++[]))) W:=by
  rw [←hnd]
  exact ⟨a,cap,hx,hc,hN,hb,hlt⟩
 have key:Calls Tryz.prog 86 #[.pointer (some ⟨b,0,none⟩)] W fun e w'=>NdG w b W (stD x (q0e y k.dcs)).nodes [] e w':=by
  obtain ⟨xo,xt,xn⟩:=x
  rcases hxx with ⟨ho,hnm,_⟩ | ⟨ho,_,_⟩
  ·dsimp only at ho hnm
   subst ho
   have h8:=q2c hnm
   rw [q0b] at h8
   exact j1z hall.1 hz h8 W hW
  ·dsimp only at ho
   subst ho
   exact j8n hall.1 hz W hW
 refine key.mono ?_
 rintro e w' ⟨A,c,rfl,ho,hl⟩
 exact ⟨A,c,rfl,ho.down hb.size,hb.trans ((hl.bt.mono hb.size).below hlt)⟩
theorem j1w (t:List Td) (a:Option Addr) (cap:Nat) (w:World) (ht:k7q w) (h:q0f t=0) (h9:opT t≠9) (hc:t.length≤cap) (hN:Tds w a t):Calls Tryz.prog 47 #[.slice a t.length cap] w fun e w'=>z1v t e w'∧Below w.heap.size w w':=by
 have HST:Hid (∀ (W:World) (b:Nat),w.heap.size≤b→W.heap[b]? = some (.cells #[.slice a t.length cap] 144 (0,0))→Below w.heap.size w W→Calls Tryz.prog 86 #[.pointer (some ⟨b,0,none⟩)] W fun e w'=>NdR w (q0n t).nodes e w'):=fun W b hlt hx hb=>j1y ht h h9 hc hN hlt hx hb
 have hn9:=(q7s h h9).n
 by_cases hm:400<(q0n t).nodes.length
 ·obtain ⟨e1,e2,_,_⟩:=j8d h h9 hm
  have HO:Hid (∀ W,z1v t (.returned (.tuple #[.slice none 0 0,q1o 3])) W):=fun W=>⟨none,0,by rw [e1,e2];rfl,by rw [e2];exact fun i hi=>by simp at hi,by rw [e2];exact Nat.le_refl _⟩
  generalize (q0n t).nodes=xs at HST hm hn9
  have hmi:(400:Int)<(xs.length:Int):=by omega
  clear h h9 e1 e2 hN ht
  go_enter Tryz.func47,Tryz.ntmps47
  go_wp2_with fail
  refine (HST.out _ _ (Nat.le_refl _) (heap_alloc_new w _) (q3e w _)).mono ?_
  rintro e w2 ⟨A,c,rfl,hO,b2⟩
  have HB2:Hid (Below w.heap.size w w2):=b2
  clear hO b2
  go_wp2
  go_ret2
  exact ⟨HO.out _,HB2.out⟩
 ·obtain ⟨e1,e2,_,_⟩:=v5g h h9 hm
  have HO:Hid (∀ A c W,q2i W A (q0n t).nodes→(q0n t).nodes.length≤c→z1v t (.returned (.tuple #[.slice A (q0n t).nodes.length c,q1o 0])) W):=fun A c W h h2=>⟨A,c,by rw [e1,e2],by rw [e2];exact h,by rw [e2];exact h2⟩
  generalize (q0n t).nodes=xs at HST hm hn9 HO
  have hmi:¬ (400:Int)<(xs.length:Int):=by omega
  clear h h9 e1 e2 hN ht
  go_enter Tryz.func47,Tryz.ntmps47
  go_wp2_with fail
  refine (HST.out _ _ (Nat.le_refl _) (heap_alloc_new w _) (q3e w _)).mono ?_
  rintro e w2 ⟨A,c,rfl,hO,b2⟩
  have HB2:Hid (Below w.heap.size w w2):=b2
  have HN2:=(show Hid (_) from HO.out A c w2 hO.nods (k4h hO).2.1)
  clear hO b2
  go_wp2
  go_ret2
  exact ⟨HN2.out,HB2.out⟩
end Go.Proofs.YthjapabokcajhaaGreatDoor
namespace Go.Proofs.YthjapabokcajhaaGreatDoor
open Go
abbrev neW (w:Wd):Bool:=!w.isEmpty
theorem k1h:∀ (ws:List Wd) (t:Wd),ws.foldl q9x t=(ws.filter neW).foldl q9x t
 | [],_=>rfl
 | w::r,t=>by
  cases w with
  | nil=>
   have e:q9x t []=t:=by simp [q9x]
   rw [List.foldl_cons,e,k1h r t];rfl
  | cons c z=>exact k1h r _
theorem z2k:∀ (l cur h:Wd) (tl:List Wd),(∀ b∈l,Lib.isSp b=true→b=32)→q4w l=h::tl→Lib.fieldsGo cur l=((cur++h)::tl).filter neW
 | [],cur,h,tl,_,e=>by
  have e2:[[]]=h::tl:=e
  simp only [List.cons.injEq] at e2
  obtain ⟨rfl,rfl⟩:=e2
  cases cur<;>simp [Lib.fieldsGo]
 | b::l,cur,h,tl,hb,e=>by
  have hl:∀ x∈l,Lib.isSp x=true→x=32:=fun x hx=>hb x (by simp [hx])
  cases hs:q4w l with
  | nil=>exact absurd hs (q5y l)
  | cons h2 tl2=>
   by_cases h32:b=32
   ·subst h32
    rw [q5h,hs] at e
    simp only [List.cons.injEq] at e
    obtain ⟨rfl,rfl⟩:=e
    have ih:=z2k l [] h2 tl2 hl hs
    have hsp:Lib.isSp 32=true:=by decide
    cases cur with
    | nil=>rw [Lib.fieldsGo_sp _ _ hsp,ih];simp
    | cons a z=>rw [Lib.fieldsGo_end _ _ _ hsp (by simp),ih];simp
   ·have hsp:Lib.isSp b=false:=by
     cases hq:Lib.isSp b with
     | false=>rfl
     | true=>exact absurd (hb b (by simp) hq) h32
    rw [q5i h32 hs] at e
    simp only [List.cons.injEq] at e
    obtain ⟨rfl,rfl⟩:=e
    rw [Lib.fieldsGo_more _ _ _ hsp,z2k l (cur++[b]) h2 tl2 hl hs]
    simp
theorem z0g {l:Wd} (h:∀ b∈l,Lib.isSp b=true→b=32):Lib.fields l=(q4w l).filter neW:=by
 cases hs:q4w l with
 | nil=>exact absurd hs (q5y l)
 | cons a tl=>exact z2k l [] a tl h hs
theorem z8k {l:Wd} (h:∀ b∈l,Lib.isSp b=true→b=32):∀ w∈Lib.fields l,w≠[]:=by
 intro w hw
 rw [z0g h] at hw
 have:=(List.mem_filter.1 hw).2
 rintro rfl
 simp at this
theorem k6k {l:Wd} (h:∀ b∈l,Lib.isSp b=true→b=32):ntx (q0h l)=jb (Lib.fields l):=by
 have e:(q0h l).filter neW=Lib.fields l:=by
  rw [z0g h]
  unfold q0h
  split
  ·rename_i h0;subst h0;rfl
  ·rfl
 rw [←v2p (z8k h),←e,ntx,ntx,k1h]
theorem j0x:∀ (a b:List Wd),a≠[]→b≠[]→jb (a++b)=jb a++32::jb b
 | [w],b,_,hb=>by
  cases b with
  | nil=>exact absurd rfl hb
  | cons x y=>simp [jb]
 | w::u::r,b,_,hb=>by
  have ih:=j0x (u::r) b (by simp) hb
  rw [List.cons_append] at ih
  simp only [List.cons_append,jb] at ih ⊢
  rw [ih];simp
theorem v2a {a:List Wd} (h:∀ w∈a,w≠[]):jb a=[]↔a=[]:=by
 cases a with
 | nil=>simp [jb]
 | cons w r=>
  have:=h w (by simp)
  constructor
  ·intro e
   have e2:w++(match r with | []=>[] | _::_=>32::jb r)=[]:=e
   exact absurd (List.append_eq_nil_iff.1 e2).1 this
  ·intro e;cases e
theorem v3p {a b:List Wd} (ha:∀ w∈a,w≠[]) (hb:∀ w∈b,w≠[]):q9x (jb a) (jb b)=jb (a++b):=by
 by_cases h1:a=[]
 ·subst h1
  have:jb ([]:List Wd)=[]:=rfl
  rw [this,q9x,if_neg (by simp)];rfl
 ·by_cases h2:b=[]
  ·subst h2
   have:jb ([]:List Wd)=[]:=rfl
   rw [this,q9x,if_neg (by simp)];simp
  ·have e1:jb a≠[]:=fun e=>h1 ((v2a ha).1 e)
   have e2:jb b≠[]:=fun e=>h2 ((v2a hb).1 e)
   rw [q9x,if_pos ⟨e2,e1⟩,j0x a b h1 h2];simp
theorem j0y:∀ ws:List Wd,Lib.join ws [32]=jb ws
 | []=>rfl
 | [w]=>by rw [Lib.join_one];simp [jb]
 | w::u::r=>by
  have ih:=j0y (u::r)
  rw [Lib.join_cons] at ih ⊢
  rw [jb,←ih]
  simp [Lib.joinTail]
def q8j (w:Wd):List Wd:=Lib.fields (w.drop 1)
def v1z (w:Wd):Prop:=w.headD 0=35∧∀ b∈w,prB b=true
theorem y1n {b:UInt8} (h:prB b=true) (hs:Lib.isSp b=true):b=32:=by
 simp only [prB,Bool.and_eq_true,decide_eq_true_eq] at h
 simp only [Lib.isSp,Bool.or_eq_true,beq_iff_eq] at hs
 have h1:=h.1
 rcases hs with (((((e | e) | e) | e) | e) | e)<;>subst e<;>first | rfl | (exfalso;revert h1;decide)
theorem y1d {w:Wd} (h:v1z w):∀ b∈w.drop 1,Lib.isSp b=true→b=32:=fun b hb hs=>y1n (h.2 b (List.mem_of_mem_drop hb)) hs
theorem y1e {w:Wd} (h:v1z w):q4n w=jb (q8j w):=k6k (y1d h)
theorem j0h {w:Wd} (h:v1z w):∀ x∈q8j w,x≠[]:=z8k (y1d h)
theorem k7x (acc:List (List Td)) (X t:Wd):k2s true (acc++[[ntT X]]) t=acc++[[ntT (q9x X t)]]:=by
 have e:q4l (acc++[[ntT X]])=X:=by
  simp only [q4l,List.getLast?_append,List.getLast?_singleton]
  rfl
 rw [k2s,if_pos rfl,e,List.dropLast_concat]
theorem j3g:∀ (nts:List Wd) (acc:List (List Td)) (W:List Wd) (ts:List Wd) (r:Rp),(∀ w∈nts,v1z w)→(∀ x∈W,x≠[])→PG true (acc++[[ntT (jb (W++nts.flatMap q8j))]]) ts r→PG true (acc++[[ntT (jb W)]]) (nts++ts) r
 | [],acc,W,ts,r,_,_,h=>by simpa using h
 | w::z,acc,W,ts,r,hn,hW,h=>by
  have hw:=hn w (by simp)
  refine .note hw.1 ?_
  rw [k7x,y1e hw,v3p hW (j0h hw)]
  refine j3g z acc (W++q8j w) ts r (fun x hx=>hn x (by simp [hx])) ?_ ?_
  ·intro x hx
   rcases List.mem_append.1 hx with hx | hx
   ·exact hW x hx
   ·exact j0h hw x hx
  ·rw [List.flatMap_cons,←List.append_assoc] at h;exact h
theorem j9p {nts:List Wd} {acc:List (List Td)} {ts:List Wd} {r:Rp} (h0:nts≠[]) (hn:∀ w∈nts,v1z w) (h:PG true (acc++[[ntT (jb (nts.flatMap q8j))]]) ts r):PG false acc (nts++ts) r:=by
 cases nts with
 | nil=>exact absurd rfl h0
 | cons w z=>
  have hw:=hn w (by simp)
  refine .note hw.1 ?_
  rw [k2s,if_neg (by simp),y1e hw]
  refine j3g z acc (q8j w) ts r (fun x hx=>hn x (by simp [hx])) (j0h hw) ?_
  rw [List.flatMap_cons] at h;exact h
theorem j4n {p:UInt8→Bool} {c:UInt8} {r:List UInt8} (hc:p c=true) (hl:(r.takeWhile p).length+1=(c::r).length):∀ b∈c::r,p b=true:=by
 have hall:r.takeWhile p=r:=by
  have h1:=z4b (p:=p) r
  rw [show (r.takeWhile p).length=r.length by simp only [List.length_cons] at hl;omega,List.take_length] at h1
  exact h1.symm
 have hta:∀ (l:List UInt8) x,x∈l.takeWhile p→p x=true:=by
  intro l
  induction l with
  | nil=>intro x hx;cases hx
  | cons a l ih=>
   intro x hx
   rw [List.takeWhile_cons] at hx
   by_cases ha:p a=true
   ·rw [if_pos ha] at hx
    rcases List.mem_cons.1 hx with rfl | hx
    ·exact ha
    ·exact ih x hx
   ·rw [if_neg ha] at hx;cases hx
 intro b hb
 rcases List.mem_cons.1 hb with rfl | hb
 ·exact hc
 ·rw [←hall] at hb;exact hta r b hb
theorem v3c {w:Wd} (h:q3p w):w≠[]:=by
 obtain ⟨c,r,rfl,_⟩:=h
 simp
theorem v0m {w:Wd} (h:q3p w):nmW w=(decide (w≠z2v) && q3g (w.headD 0)):=by
 obtain ⟨c,r,rfl,_,ho,hl,_⟩:=h
 have hb:btL (wbS (c::r))=c::r:=rfl
 have hsz:(wbS (c::r)).size=(c::r).length:=by rw [←q0b,hb]
 unfold nmW q0z
 rw [hb,hsz]
 show _=(decide ((c::r)≠z2v) && q3g c)
 cases hc:q3g c with
 | false=>simp [hc]
 | true=>
  simp only [q4r,hc,if_true,decide_eq_true_eq] at ho
  simp only [q0q,hc,if_true] at hl
  have h1:=j4n hc hl
  have h2:(c::r).all q3g=true:=List.all_eq_true.2 h1
  rw [h2]
  have h3:(c::r).length≤8:=by omega
  simp only [List.length_cons] at h3 ⊢
  simp
  omega
theorem v8f {w:Wd} (h:q3p w) (hn:k0m w=true):(∀ b∈w,q4e b=true)∧w.length≤6:=by
 obtain ⟨c,r,rfl,_,ho,hl,_⟩:=h
 have hf:q4e c=true:=hn
 have hlow:q3g c=false:=k1f hf
 simp only [q4r,hlow,hf,if_true,Bool.false_eq_true,if_false,Bool.and_eq_true,decide_eq_true_eq] at ho
 simp only [q0q,hlow,hf,if_true,Bool.false_eq_true,if_false] at hl
 exact ⟨j4n hf hl,by omega⟩
theorem y1y {w:Wd} (h:q3p w) (hn:w.headD 0=35):v1z w:=by
 obtain ⟨c,r,rfl,_,ho,hl,_⟩:=h
 have hc:c=35:=hn
 subst hc
 have h1:q3g 35=false:=by decide
 have h2:q4e 35=false:=by decide
 have h3:((35:UInt8) == 35)=true:=by decide
 simp only [q4r,h1,h2,h3,if_true,Bool.false_eq_true,if_false] at ho
 simp only [q0q,h1,h2,h3,if_true,Bool.false_eq_true,if_false] at hl
 have hall:r.takeWhile nlB=r:=by
  have h4:=z4b (p:=nlB) r
  rw [show (r.takeWhile nlB).length=r.length by simp only [List.length_cons] at hl;omega,List.take_length] at h4
  exact h4.symm
 rw [hall,List.all_eq_true] at ho
 refine ⟨rfl,fun b hb=>?_⟩
 rcases List.mem_cons.1 hb with rfl | hb
 ·decide
 ·exact ho b hb
end Go.Proofs.YthjapabokcajhaaGreatDoor
namespace Go.Proofs.YthjapabokcajhaaGreatDoor
open Go
theorem y1u (s:List UInt8):(tkW s).length≤q0q s:=by
 unfold tkW
 refine Nat.le_trans (q9s _) ?_
 rw [List.length_take];omega
theorem z6u:∀ (n:Nat) (s:List UInt8) (i:Nat),s.length≤n→((lxW s i).map fun x=>x.2.length).sum≤s.length
 | 0,s,i,h=>by
  have:s=[]:=List.eq_nil_of_length_eq_zero (by omega)
  subst this
  rw [lxW,z0z];simp
 | n+1,s,i,h=>by
  cases s with
  | nil=>rw [lxW,z0z];simp
  | cons c r=>
   cases hs:spB c with
   | true=>
    have ih:=z6u n r (i+1) (by simp at h;omega)
    rw [lxW,k1n r i hs]
    rw [lxW] at ih
    simp only [List.length_cons];omega
   | false=>
    cases ho:q4r (c::r) with
    | false=>rw [lxW,k3r i hs ho];simp
    | true=>
     have hp:=q4i c r
     have hle:=q9q (c::r)
     have ih:=z6u n ((c::r).drop (q0q (c::r))) (i+q0q (c::r)) (by simp only [List.length_drop];omega)
     have hw:=y1u (c::r)
     rw [List.length_drop] at ih
     rw [lxW,z4y i hs ho]
     simp only [List.map_cons,List.sum_cons]
     omega
theorem j5f (s:List UInt8):((q2w s).map List.length).sum≤s.length:=by
 have h:=z6u s.length s 0 (Nat.le_refl _)
 rw [q2w,List.map_map]
 exact h
def szW (W:List Wd):Nat:=(W.map fun x=>x.length+1).sum
theorem k2g (a b:List Wd):szW (a++b)=szW a+szW b:=by simp [szW]
theorem q1q (x:Wd) (b:List Wd):szW (x::b)=x.length+1+szW b:=by simp [szW]
theorem z7i:∀ W:List Wd,W.length≤szW W
 | []=>Nat.zero_le _
 | x::r=>by have:=z7i r;rw [q1q,List.length_cons];omega
theorem v5e:∀ W:List Wd,(jb W).length≤szW W
 | []=>Nat.zero_le _
 | x::r=>by
  have:=v5e r
  rw [q1q]
  cases r with
  | nil=>simp [jb];omega
  | cons y r=>
   have e:jb (x::y::r)=x++32::jb (y::r):=by simp [jb]
   rw [e,List.length_append,List.length_cons];omega
theorem z2l:∀ (l cur:Wd),szW (Lib.fieldsGo cur l)≤2*(cur.length+l.length)
 | [],cur=>by
  cases cur with
  | nil=>simp [Lib.fieldsGo,szW]
  | cons a z=>simp [Lib.fieldsGo,szW];omega
 | c::l,cur=>by
  cases hs:Lib.isSp c with
  | true=>
   have ih:=z2l l []
   cases cur with
   | nil=>
    rw [Lib.fieldsGo_sp _ _ hs]
    simp only [List.length_nil,List.length_cons] at ih ⊢;omega
   | cons a z=>
    rw [Lib.fieldsGo_end _ _ _ hs (by simp),q1q]
    simp only [List.length_nil,List.length_cons] at ih ⊢;omega
  | false=>
   have ih:=z2l l (cur++[c])
   rw [Lib.fieldsGo_more _ _ _ hs]
   simp only [List.length_append,List.length_cons,List.length_nil] at ih ⊢;omega
theorem v9z (w:Wd):szW (q8j w)≤2*w.length:=by
 have:=z2l (w.drop 1) []
 rw [List.length_drop] at this
 simp only [List.length_nil] at this
 show szW (Lib.fieldsGo [] (w.drop 1))≤_
 omega
theorem j0i:∀ nts:List Wd,szW (nts.flatMap q8j)≤2*(nts.map List.length).sum
 | []=>Nat.zero_le _
 | x::r=>by
  have h1:=j0i r
  have h2:=v9z x
  rw [List.flatMap_cons,k2g,List.map_cons,List.sum_cons];omega
theorem v0d (ws:List Wd) (p k:Nat):(((ws.drop p).take k).map List.length).sum≤(ws.map List.length).sum:=by
 have e:ws=ws.take p++((ws.drop p).take k++(ws.drop p).drop k):=by rw [List.take_append_drop,List.take_append_drop]
 have h:=congrArg (fun l=>(l.map List.length).sum) e
 simp only [List.map_append,List.sum_append] at h
 omega
end Go.Proofs.YthjapabokcajhaaGreatDoor
namespace Go.Proofs.YthjapabokcajhaaGreatDoor
open Go Go.RowKit
set_option maxRecDepth 100000
set_option maxHeartbeats 2000000
theorem j4e:∀ W:List Wd,(∀ w∈W,w.length≤20)→szW W≤21*W.length
 | [],_=>Nat.le_refl _
 | x::r,h=>by
  have h1:=j4e r fun w hw=>h w (by simp [hw])
  have h2:=h x (by simp)
  rw [q1q,List.length_cons]
  omega
theorem k3v {tx:ByteArray} (h:q2t tx=0):Lib.fields (btL tx)=q0h (btL tx)∧(btL tx).length≤2000∧∀ b∈btL tx,b.toNat<128:=by
 obtain ⟨h1,h2⟩:=z0q h
 by_cases hne:btL tx=[]
 ·rw [hne]
  exact ⟨rfl,by simp,fun b hb=>by cases hb⟩
 ·have e2:q0h (btL tx)=q4w (btL tx):=by rw [q0h,if_neg hne]
  rw [e2] at h1 h2 ⊢
  have hj:=z2s (btL tx)
  have hpr:∀ b∈btL tx,prB b=true:=by
   intro b hb
   rw [←hj] at hb
   refine z6m (p:=prB) rfl (q4w (btL tx)) (fun w hw b hb=>?_) b hb
   have h3:=(h2 w hw).2.2 b hb
   simp only [q7r,Bool.and_eq_true,decide_eq_true_eq] at h3
   simp only [prB,Bool.and_eq_true,decide_eq_true_eq]
   omega
  refine ⟨?_,?_,fun b hb=>?_⟩
  ·rw [z0g fun b hb hs=>y1n (hpr b hb) hs,List.filter_eq_self]
   intro w hw
   have:=(h2 w hw).1
   cases w with
   | nil=>exact absurd rfl this
   | cons=>rfl
  ·have q1:=v5e (q4w (btL tx))
   have q2:=j4e (q4w (btL tx)) fun w hw=>(h2 w hw).2.1
   rw [hj] at q1
   omega
  ·have:=hpr b hb
   simp only [prB,Bool.and_eq_true,decide_eq_true_eq] at this
   omega
theorem k1m {tx:ByteArray} (h:q2t tx=0) (w:World) (ht:z2a w):Calls Tryz.prog 103 #[.string tx] w fun e w'=>(∃ g,e = .returned (.slice (some ⟨g,0,none⟩) (q0h (btL tx)).length (q0h (btL tx)).length)∧Wds w' (some ⟨g,0,none⟩) ((q0h (btL tx)).map wbS))∧Below w.heap.size w w':=by
 obtain ⟨h1,h2,h3⟩:=k3v h
 rw [←h1]
 rw [q0b] at h2
 refine (fields_sh tx w (by omega) (fun j c hj=>h3 c (List.mem_of_getElem? hj)) ht.spc).mono ?_
 rintro e w' ⟨rfl,rfl⟩
 refine ⟨⟨w.heap.size,rfl,?_⟩,q3e w _⟩
 intro i hi
 have hi2:i<(Lib.fields (btL tx)).length:=by simpa using hi
 refine ⟨w.heap.size,0,rfl,by rw [World.size_alloc];omega,?_⟩
 rw [Nat.zero_add]
 have hk:=heap_alloc_new w (.cells ((Lib.fields (btL tx)).map fun l=>Value.string ⟨l.toArray⟩).toArray 9)
 rw [Lib.cell_of_heap hk]
 show ((Lib.fields (btL tx)).map fun l=>Value.string ⟨l.toArray⟩).toArray[i]? = _
 rw [List.getElem?_toArray,List.getElem?_map,show (Lib.fields (btL tx))[i]? = some (Lib.fields (btL tx))[i] from List.getElem?_eq_getElem hi2]
 simp [wbS]
theorem z7b {t:List Td} {a:Option Addr} {w:World} (h:q0f t=0) (hN:Tds w a t):0<t.length∧∃ b o,a=some ⟨b,o,none⟩∧b<w.heap.size∧w.cell? ⟨b,o,none⟩=some (.int .i64 (opT t))∧w.cell? ⟨b,o+1,none⟩=some (.string (txT t)):=by
 have hpos:=z7k h
 obtain ⟨b,o,e,hb,c1,c2,_⟩:=hN 0 hpos
 refine ⟨hpos,b,o,e,hb,?_,?_⟩
 ·rw [k1y hpos];simpa using c1
 ·cases t with
  | nil=>simp at hpos
  | cons x r=>simpa [txT] using c2
theorem z2x {b o cap n:Nat} {op:Int} {w:World} (hn:0<n) (h:w.cell? ⟨b,o,none⟩=some (.int .i64 op)):Calls Tryz.prog 46 #[.slice (some ⟨b,o,none⟩) n cap] w fun e w'=>e = .returned (.bool (op == 9))∧w=w':=by
 have hpi:(0:Int)<(n:Int):=by omega
 go_enter Tryz.func46,Tryz.ntmps46
 go_wp2
 go_ret
 exact ⟨rfl,rfl⟩
theorem k6c (t:List Td) (a:Option Addr) (cap:Nat) (w:World) (ht:k7q w) (hc:t.length≤cap) (hN:Tds w a t) (hsz:k7o t):Calls Tryz.prog 18 #[.slice a t.length cap] w fun e w'=>z1v t e w'∧Below w.heap.size w w':=by
 have HC:Hid (Calls Tryz.prog 29 #[.slice a t.length cap] w fun e w'=>e = .returned (q1o (q0f t))∧Below w.heap.size w w'):=q5z t a cap w hc hN hsz
 have HN:Hid (Tds w a t):=hN
 have HT:Hid (k7q w):=ht
 clear hN hsz ht
 by_cases h0:q0f t=0
 ·obtain ⟨hpos,b,o,rfl,hb,c1,c2⟩:=z7b h0 HN.out
  have HI:Hid (∀ W:World,Below w.heap.size w W→Calls Tryz.prog 46 #[.slice (some ⟨b,o,none⟩) t.length cap] W fun e w'=>e = .returned (.bool (opT t == 9))∧W=w'):=fun W h=>z2x hpos (((q1r h).1 _ _ hb).trans c1)
  rw [h0] at HC
  clear c1 c2
  by_cases h9:opT t=9
  ·obtain ⟨e1,e2,_,_⟩:=z6o h0 h9
   have HO:Hid (∀ W,z1v t (.returned (.tuple #[.slice none 0 0,q1o 2])) W):=fun W=>⟨none,0,by rw [e1,e2];rfl,by rw [e2];exact fun i hi=>by simp at hi,by rw [e2];exact Nat.le_refl _⟩
   rw [show (opT t == 9)=true by simp [h9]] at HI
   clear h0 h9 e1 e2
   go_enter Tryz.func18,Tryz.ntmps18
   go_wp2_with fail
   refine HC.out.mono ?_
   rintro e w1 ⟨rfl,b1⟩
   rw [q0r]
   have HB1:Hid (Below w.heap.size w w1):=b1
   clear b1
   go_wp2_with fail
   refine (HI.out _ HB1.out).mono ?_
   rintro e w2 ⟨rfl,rfl⟩
   go_wp2
   go_ret2
   exact ⟨HO.out _,HB1.out⟩
  ·have HLD:Hid (∀ W:World,Below w.heap.size w W→Calls Tryz.prog 47 #[.slice (some ⟨b,o,none⟩) t.length cap] W fun e w'=>(∃ A c,e = .returned (.tuple #[.slice A (q7g t).length c,q1o (q8k t)])∧q2i w' A (q7g t)∧(q7g t).length≤c)∧Below W.heap.size W w'):=fun W h=>j1w t _ cap W (HT.out.below h) h0 h9 hc (HN.out.below h)
   have HO:Hid (∀ A c W,q2i W A (q7g t)→(q7g t).length≤c→z1v t (.returned (.tuple #[.slice A (q7g t).length c,q1o (q8k t)])) W):=fun A c W h h2=>⟨A,c,rfl,h,h2⟩
   rw [show (opT t == 9)=false by simp [h9]] at HI
   generalize q7g t=xs at HLD HO
   generalize q1o (q8k t)=er at HLD HO
   clear h0 h9
   go_enter Tryz.func18,Tryz.ntmps18
   go_wp2_with fail
   refine HC.out.mono ?_
   rintro e w1 ⟨rfl,b1⟩
   rw [q0r]
   have HB1:Hid (Below w.heap.size w w1):=b1
   clear b1
   go_wp2_with fail
   refine (HI.out _ HB1.out).mono ?_
   rintro e w2 ⟨rfl,rfl⟩
   go_wp2_with fail
   refine (HLD.out _ HB1.out).mono ?_
   rintro e w3 ⟨⟨A,c,rfl,hO,hl⟩,b3⟩
   have HB3:Hid (Below w.heap.size w w3):=q0i HB1.out (Nat.le_refl _) b3
   have HN3:=(show Hid (_) from HO.out A c w3 hO hl)
   clear hO hl b3
   generalize xs.length=nx at HN3 ⊢
   go_wp2
   go_ret2
   exact ⟨HN3.out,HB3.out⟩
 ·obtain ⟨e1,e2,_,_⟩:=j1h h0
  have HE:Hid (q1o (q0f t) = .iface 23 (.int .i64 (q0f t))):=q0l h0
  have HO:Hid (∀ W,z1v t (.returned (.tuple #[.slice none 0 0,q1o (q0f t)])) W):=fun W=>⟨none,0,by rw [e1,e2];rfl,by rw [e2];exact fun i hi=>by simp at hi,by rw [e2];exact Nat.le_refl _⟩
  clear e1 e2 h0
  go_enter Tryz.func18,Tryz.ntmps18
  go_wp2_with fail
  refine HC.out.mono ?_
  rintro e w1 ⟨rfl,b1⟩
  rw [HE.out]
  go_wp2
  go_ret2
  exact ⟨by have:=HO.out w1;rw [HE.out] at this;exact this,b1⟩
theorem j2r {t:List Td} (h:q0f t=0) (h9:opT t=9):q2t (txT t)=0:=by
 rcases q4a h with ⟨x,rfl,_,_,hf⟩ | ⟨x,F,rfl,_,_,_,hx⟩
 ·exact hf
 ·exfalso
  have e:opT (x::F.nodes)=x.op:=rfl
  rcases hx with ⟨ho,_⟩ | ⟨ho,_⟩<;>omega
theorem k1l (t:List Td) (a:Option Addr) (cap:Nat) (w:World) (ht:z2a w) (hc:t.length≤cap) (hN:Tds w a t) (hsz:k7o t):Calls Tryz.prog 68 #[.slice a t.length cap] w fun e w'=>z5p t e w'∧Below w.heap.size w w':=by
 have HC:Hid (Calls Tryz.prog 29 #[.slice a t.length cap] w fun e w'=>e = .returned (q1o (q0f t))∧Below w.heap.size w w'):=q5z t a cap w hc hN hsz
 have HN:Hid (Tds w a t):=hN
 have HT:Hid (z2a w):=ht
 clear hN hsz ht
 by_cases h0:q0f t=0
 ·obtain ⟨hpos,b,o,rfl,hb,c1,c2⟩:=z7b h0 HN.out
  have HI:Hid (∀ W:World,Below w.heap.size w W→Calls Tryz.prog 46 #[.slice (some ⟨b,o,none⟩) t.length cap] W fun e w'=>e = .returned (.bool (opT t == 9))∧W=w'):=fun W h=>z2x hpos (((q1r h).1 _ _ hb).trans c1)
  have HCE:Hid (∀ W:World,Below w.heap.size w W→W.cell? ⟨b,o+1,none⟩=some (.string (txT t))):=fun W h=>((q1r h).1 _ _ hb).trans c2
  rw [h0] at HC
  have hpi:(0:Int)<(t.length:Int):=by omega
  clear c1 c2
  by_cases h9:opT t=9
  ·obtain ⟨_,_,e1,e2⟩:=z6o h0 h9
   have hnf:=j2r h0 h9
   have htz:(txT t).size≤2000:=by rw [←q0b];exact (k3v hnf).2.1
   have HCL:Hid (∀ W:World,Calls Tryz.prog 78 #[.string (txT t)] W fun e w'=>e = .returned (.string (txT t))∧Below W.heap.size W w'):=fun W=>q7f _ W (by omega)
   have HNW:Hid (∀ W:World,Below w.heap.size w W→Calls Tryz.prog 103 #[.string (txT t)] W fun e w'=>(∃ g,e = .returned (.slice (some ⟨g,0,none⟩) (q0h (btL (txT t))).length (q0h (btL (txT t))).length)∧Wds w' (some ⟨g,0,none⟩) ((q0h (btL (txT t))).map wbS))∧Below W.heap.size W w'):=fun W h=>k1m hnf W (HT.out.below h)
   have HO:Hid (∀ A c W,Wds W A ((q0h (btL (txT t))).map wbS)→(q0h (btL (txT t))).length≤c→z5p t (.returned (.tuple #[.slice A (q0h (btL (txT t))).length c,q1o 0])) W):=fun A c W h h2=>⟨A,c,by rw [e1,e2,List.length_map],by rw [e2];exact h,by rw [e2,List.length_map];exact h2⟩
   rw [show (opT t == 9)=true by simp [h9]] at HI
   generalize q0h (btL (txT t))=ws at HNW HO
   generalize txT t=tx at HNW HCE HCL
   clear h0 h9 e1 e2 htz hnf
   go_enter Tryz.func68,Tryz.ntmps68
   go_wp2_with fail
   refine HC.out.mono ?_
   rintro e w1 ⟨rfl,b1⟩
   rw [q0r]
   have c2:=HCE.out w1 b1
   have HB1:Hid (Below w.heap.size w w1):=b1
   clear b1
   go_wp2_with fail
   refine (HI.out _ HB1.out).mono ?_
   rintro e w2 ⟨rfl,rfl⟩
   go_wp2_with fail
   refine (HCL.out _).mono ?_
   rintro e w3 ⟨rfl,b3⟩
   have HB3:Hid (Below w.heap.size w w3):=q0i HB1.out (Nat.le_refl _) b3
   clear b3
   go_wp2_with fail
   refine (HNW.out _ HB3.out).mono ?_
   rintro e w4 ⟨⟨g,rfl,hS⟩,b4⟩
   have HB4:Hid (Below w.heap.size w w4):=q0i HB3.out (Nat.le_refl _) b4
   have HN4:=(show Hid (_) from HO.out _ ws.length w4 hS (Nat.le_refl _))
   clear hS b4 c2
   generalize ws.length=nw at HN4 ⊢
   go_wp2
   go_ret2
   exact ⟨HN4.out,HB4.out⟩
  ·have HO:Hid (∀ W,z5p t (.returned (.tuple #[.slice none 0 0,q1o 2])) W):=fun W=>by
    have e1:k0k t=2:=by rw [k0k,if_neg (by simp [h0]),if_neg h9]
    have e2:k6d t=[]:=by rw [k6d,if_neg (by rw [e1];decide)]
    exact ⟨none,0,by rw [e1,e2];rfl,by rw [e2];exact fun i hi=>by simp at hi,by rw [e2];exact Nat.le_refl _⟩
   rw [show (opT t == 9)=false by simp [h9]] at HI
   clear h0 h9 HCE
   go_enter Tryz.func68,Tryz.ntmps68
   go_wp2_with fail
   refine HC.out.mono ?_
   rintro e w1 ⟨rfl,b1⟩
   rw [q0r]
   have HB1:Hid (Below w.heap.size w w1):=b1
   clear b1
   go_wp2_with fail
   refine (HI.out _ HB1.out).mono ?_
   rintro e w2 ⟨rfl,rfl⟩
   go_wp2
   go_ret2
   exact ⟨HO.out _,HB1.out⟩
 ·obtain ⟨_,_,e1,e2⟩:=j1h h0
  have HE:Hid (q1o (q0f t) = .iface 23 (.int .i64 (q0f t))):=q0l h0
  have HO:Hid (∀ W,z5p t (.returned (.tuple #[.slice none 0 0,q1o (q0f t)])) W):=fun W=>⟨none,0,by rw [e1,e2];rfl,by rw [e2];exact fun i hi=>by simp at hi,by rw [e2];exact Nat.le_refl _⟩
  clear e1 e2 h0
  go_enter Tryz.func68,Tryz.ntmps68
  go_wp2_with fail
  refine HC.out.mono ?_
  rintro e w1 ⟨rfl,b1⟩
  rw [HE.out]
  go_wp2
  go_ret2
  exact ⟨by have:=HO.out w1;rw [HE.out] at this;exact this,b1⟩
end Go.Proofs.YthjapabokcajhaaGreatDoor
