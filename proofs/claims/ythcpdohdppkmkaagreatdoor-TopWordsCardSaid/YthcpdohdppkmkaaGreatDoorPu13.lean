import Derived.Test.YthcpdohdppkmkaaGreatDoorPu12
open Go.Proofs.Tryz
namespace Go.Proofs.YthcpdohdppkmkaaGreatDoor
open Go Go.RowKit
set_option maxRecDepth 100000
set_option maxHeartbeats 4000000
theorem v0b{w0:World}{b:Nat}{xt:ByteArray}{xn:Int}{y:Td}{k:Fo}(hX:ExL w0 b y k)(hz:(q0l y k.D).N.length<=1000)(h8:xt.size<=8)(w:World)(hW:LyE w0 b (⟨7,xt,xn⟩::(y::(k.N++[]))) w):
  Calls prog 104 #[.pointer (some ⟨b,0,none⟩)] w fun e w'=>NdG w0 b w (stD ⟨7,xt,xn⟩ (q0l y k.D)).N [] e w':=by
 have HN:Hid (Calls prog 169 #[.pointer (some ⟨b,0,none⟩)] w fun e w'=>e=.returned (.agg #[.int .i64 7,.string xt,.int .i64 xn])/\Lk w0 b w (y::(k.N++[])) w'):=q4e hW;have HXL:Hid (∀W,LyE w0 b (y::(k.N++[])) W->Calls prog 171 #[.pointer (some ⟨b,0,none⟩)] W fun e w'=>NdG w0 b W (q0l y k.D).N [] e w'):=fun W hW=>hX [] W hW
 have HRR:Hid ((stD ⟨7,xt,xn⟩ (q0l y k.D)).N=⟨8,⟨#[]⟩,0⟩::(⟨6,⟨#[]⟩,0⟩::([⟨1,(⟨#[108,101,116,32]⟩:ByteArray)++xt++(⟨#[32,61]⟩:ByteArray),0⟩]++(⟨7,⟨#[]⟩,2⟩::(⟨6,⟨#[]⟩,0⟩::([⟨2,⟨#[]⟩,0⟩]++(⟨6,⟨#[]⟩,0⟩::((q0l y k.D).N++[⟨1,⟨#[59]⟩,0⟩])))))))):=by
  show _=_
  have e6:wbS ([108,101,116,32]++btL xt++[32,61])=(⟨#[108,101,116,32]⟩:ByteArray)++xt++(⟨#[32,61]⟩:ByteArray):=by
   have q1:wbS [108,101,116,32]++wbS (btL xt)=wbS ([108,101,116,32]++btL xt):=q9q _ _;have q2:wbS ([108,101,116,32]++btL xt)++wbS [32,61]=wbS ([108,101,116,32]++btL xt++[32,61]):=q9q _ _;rw[<-q2,<-q1];rfl
  rw[<-e6];rfl
 generalize(stD ⟨7,xt,xn⟩ (q0l y k.D)).N=R at HRR⊢
 generalize(q0l y k.D).N=xs at HXL HRR hz
 generalize y::(k.N++[])=r0 at HN HXL;have g1:¬9223372036854775807<4+xt.size:=by omega
 have g2:¬9223372036854775807<4+xt.size+2:=by omega
 clear hX hW;go_in;go_wp2_with fail;refine HN.o.mono ?_;rintro e w1⟨rfl,h1⟩;have HSC:Hid (∃w2,w1.alloc (.cells #[.int .i64 7,.string xt,.int .i64 xn] 71)=w2/\Lk w0 b w r0 w2/\w2.heap[w1.heap.size]?=some (.cells #[.int .i64 7,.string xt,.int .i64 xn] 71 (0,0))):=⟨_,rfl,h1.step (q1t w1 _),heap_alloc_new w1 _⟩;have hgb:w1.heap.size≠b:=by have:=h1.in;omega
 clear h1 HN;go_wp2_with fail;obtain⟨w2,hw2,hl2,hx2⟩:=HSC.o;rw[hw2];have HL:Hid (Lk w0 b w r0 w2):=hl2;have HBX:Hid (w2.heap[w1.heap.size]?=some (.cells #[.int .i64 7,.string xt,.int .i64 xn] 71 (0,0))):=hx2;clear HSC hl2 hx2 hw2;go_wp2_with fail;refine(HXL.o _ HL.o.ly).mono ?_;rintro e w3 h3;obtain⟨v3,rfl,n3,l3⟩:=h3.val;replace HL:=hid (HL.o.then l3);replace HBX:=hid ((l3.bt.block _ (Array.getElem?_eq_some_iff.1 HBX.o).1 hgb).trans HBX.o);have DX:=hid n3;clear h3 n3 l3;go_wp2_with fail;refine(q1x _ _).mono ?_;rintro e w4 h4;obtain⟨v4,rfl,n4,b4⟩:=h4.valB HL.o.in;replace HL:=hid (HL.o.step b4);replace HBX:=hid ((b4.block _ (Array.getElem?_eq_some_iff.1 HBX.o).1).trans HBX.o);replace DX:=hid (DX.o.bel b4);have DS:=hid n4;clear h4 n4 b4;go_wp2_with fail;refine(q1e _ DX.o.val DS.o.val (by first|(simp;done)|(simp;omega))).mono ?_;rintro e w5 h5;obtain⟨v5,rfl,n5,b5⟩:=h5.valB HL.o.in;replace HL:=hid (HL.o.step b5);replace HBX:=hid ((b5.block _ (Array.getElem?_eq_some_iff.1 HBX.o).1).trans HBX.o);clear DX;clear DS;have DR:=hid n5;clear h5 n5 b5;have d0:w5.cell? ⟨w1,0,none⟩=some (.int .i64 7):=by rw[Lib.cell_of_heap HBX.o];rfl
 have d1:w5.cell? ⟨w1,1,none⟩=some (.string xt):=by rw[Lib.cell_of_heap HBX.o];rfl
 clear HBX;go_wp2_with fail;refine(q1x _ _).mono ?_;rintro e w6 h6;obtain⟨v6,rfl,n6,b6⟩:=h6.valB HL.o.in;replace HL:=hid (HL.o.step b6);replace DR:=hid (DR.o.bel b6);have DL:=hid n6;clear h6 n6 b6;clear d0 d1;go_wp2_with fail;refine(z2l _).mono ?_;rintro e w7 h7;obtain⟨v7,rfl,n7,b7⟩:=h7.valB HL.o.in;replace HL:=hid (HL.o.step b7);replace DR:=hid (DR.o.bel b7);replace DL:=hid (DL.o.bel b7);have DB:=hid n7;clear h7 n7 b7;go_wp2_with fail;refine(q1e _ DB.o.val DR.o.val (by first|(simp;done)|(simp;omega))).mono ?_;rintro e w8 h8;obtain⟨v8,rfl,n8,b8⟩:=h8.valB HL.o.in;replace HL:=hid (HL.o.step b8);clear DB;clear DR;replace DL:=hid (DL.o.bel b8);have DQ:=hid n8;clear h8 n8 b8;go_wp2_with fail;refine(q9k _ DQ.o.val (by first|(simp;done)|(simp;omega))).mono ?_;rintro e w9 h9;obtain⟨v9,rfl,n9,b9⟩:=h9.valB HL.o.in;replace HL:=hid (HL.o.step b9);clear DQ;replace DL:=hid (DL.o.bel b9);have DD:=hid n9;clear h9 n9 b9;go_wp2_with fail;refine(q1e _ DL.o.val DD.o.val (by first|(simp;done)|(simp;omega))).mono ?_;rintro e w10 h10;obtain⟨v10,rfl,n10,b10⟩:=h10.valB HL.o.in;replace HL:=hid (HL.o.step b10);clear DL;clear DD;have DG:=hid n10;clear h10 n10 b10;go_wp2_with fail;refine(z2m _ DG.o.val (by first|(simp;done)|(simp;omega))).mono ?_;rintro e w11 h11
 have HX:Hid (NdG w0 b w R [] e w11):=by
  have h:=h11.gof HL.o;show NdG w0 b w R [] e w11;rw[HRR.o];exact h
 obtain⟨v11,rfl,_,_⟩:=h11.val;clear h11 HL HRR DG;go_wp2;go_ret;exact HX.o
theorem v7q{w0:World}{b:Nat}{xt:ByteArray}{xn:Int}{y:Td}{k:Fo}(hX:ExL w0 b y k)(hz:(q0l y k.D).N.length<=1000)(w:World)(hW:LyE w0 b (⟨8,xt,xn⟩::(y::(k.N++[]))) w):
  Calls prog 104 #[.pointer (some ⟨b,0,none⟩)] w fun e w'=>NdG w0 b w (stD ⟨8,xt,xn⟩ (q0l y k.D)).N [] e w':=by
 have HN:Hid (Calls prog 169 #[.pointer (some ⟨b,0,none⟩)] w fun e w'=>e=.returned (.agg #[.int .i64 8,.string xt,.int .i64 xn])/\Lk w0 b w (y::(k.N++[])) w'):=q4e hW;have HXL:Hid (∀W,LyE w0 b (y::(k.N++[])) W->Calls prog 171 #[.pointer (some ⟨b,0,none⟩)] W fun e w'=>NdG w0 b W (q0l y k.D).N [] e w'):=fun W hW=>hX [] W hW
 have HRR:Hid ((stD ⟨8,xt,xn⟩ (q0l y k.D)).N=⟨6,⟨#[]⟩,0⟩::((q0l y k.D).N++[⟨1,⟨#[59]⟩,0⟩])):=rfl
 generalize(stD ⟨8,xt,xn⟩ (q0l y k.D)).N=R at HRR⊢
 generalize(q0l y k.D).N=xs at HXL HRR hz
 generalize y::(k.N++[])=r0 at HN HXL;clear hX hW;go_in;go_wp2_with fail;refine HN.o.mono ?_;rintro e w1⟨rfl,h1⟩;have HSC:Hid (∃w2,w1.alloc (.cells #[.int .i64 8,.string xt,.int .i64 xn] 71)=w2/\Lk w0 b w r0 w2/\w2.heap[w1.heap.size]?=some (.cells #[.int .i64 8,.string xt,.int .i64 xn] 71 (0,0))):=⟨_,rfl,h1.step (q1t w1 _),heap_alloc_new w1 _⟩;have hgb:w1.heap.size≠b:=by have:=h1.in;omega
 clear h1 HN;go_wp2_with fail;obtain⟨w2,hw2,hl2,hx2⟩:=HSC.o;rw[hw2];have HL:Hid (Lk w0 b w r0 w2):=hl2;have HBX:Hid (w2.heap[w1.heap.size]?=some (.cells #[.int .i64 8,.string xt,.int .i64 xn] 71 (0,0))):=hx2;clear HSC hl2 hx2 hw2;go_wp2_with fail;refine(HXL.o _ HL.o.ly).mono ?_;rintro e w3 h3;obtain⟨v3,rfl,n3,l3⟩:=h3.val;replace HL:=hid (HL.o.then l3);replace HBX:=hid ((l3.bt.block _ (Array.getElem?_eq_some_iff.1 HBX.o).1 hgb).trans HBX.o);have DX:=hid n3;clear h3 n3 l3;go_wp2_with fail;refine(q1x _ _).mono ?_;rintro e w4 h4;obtain⟨v4,rfl,n4,b4⟩:=h4.valB HL.o.in;replace HL:=hid (HL.o.step b4);replace HBX:=hid ((b4.block _ (Array.getElem?_eq_some_iff.1 HBX.o).1).trans HBX.o);replace DX:=hid (DX.o.bel b4);have DS:=hid n4;clear h4 n4 b4;go_wp2_with fail;refine(q1e _ DX.o.val DS.o.val (by first|(simp;done)|(simp;omega))).mono ?_;rintro e w5 h5
 have HX:Hid (NdG w0 b w R [] e w5):=by
  have h:=h5.gof HL.o;show NdG w0 b w R [] e w5;rw[HRR.o];exact h
 obtain⟨v5,rfl,_,b5⟩:=h5.val;have hbx:w5.heap[w1.heap.size]?=some (.cells #[.int .i64 8,.string xt,.int .i64 xn] 71 (0,0)):=(b5.block _ (Array.getElem?_eq_some_iff.1 HBX.o).1).trans HBX.o;have d0:w5.cell? ⟨w1,0,none⟩=some (.int .i64 8):=by rw[Lib.cell_of_heap hbx];rfl
 clear h5 HL HRR DX DS b5 hbx HBX;go_wp2;go_ret;exact HX.o
theorem v0a{t:List Td}{a:Option Addr}{cap:Nat}{w W:World}{b:Nat}(ht:z8n w)(h:q0d t=0)(h9:opT t≠9)(hc:t.length<=cap)(hN:Tds w a t)(hlt:w.heap.size<=b)(hx:W.heap[b]?=some (.cells #[.slice a t.length cap] 175 (0,0)))(hb:Below w w W):
  Calls prog 104 #[.pointer (some ⟨b,0,none⟩)] W fun e w'=>NdR w (q0n t).N e w':=by
 obtain⟨h1,h2,_,_⟩:=q2o h;obtain⟨x,y,k,rfl,hok,hex,hk,hxx⟩:=q7b h h9;have hall:EAL w b (.cons y k .nil):=z9n ht _ hok hex (by simp only[List.length_cons]at h1;omega)
 have hz:(q0l y k.D).N.length<=1000:=by
  have:=(j1r y k .nil).2
  simp only[List.length_cons]at h1;omega
 have e0:q0n (x::(Fo.cons y k .nil).N)=stD x (q0l y k.D):=z1g hok hk;have hnd:x::(Fo.cons y k .nil).N=x::(y::(k.N++[])):=by simp[Fo.N]
 rw[e0]
 have hW:LyE w b (x::(y::(k.N++[]))) W:=by
  rw[<-hnd];exact⟨a,cap,hx,hc,hN,hb,hlt⟩
 have key:Calls prog 104 #[.pointer (some ⟨b,0,none⟩)] W fun e w'=>NdG w b W (stD x (q0l y k.D)).N [] e w':=by
  obtain⟨xo,xt,xn⟩:=x;rcases hxx with⟨ho,hnm,_⟩|⟨ho,_,_⟩
  ·dsimp only at ho hnm;subst ho;have h8:=q2e hnm;rw[q0b]at h8;exact v0b hall.1 hz h8 W hW
  ·dsimp only at ho;subst ho;exact v7q hall.1 hz W hW
 refine key.mono ?_;rintro e w'⟨A,c,rfl,ho,hl⟩;exact⟨A,c,rfl,ho.down hb.size,hb.trans ((hl.bt.mono hb.size).W hlt)⟩
theorem j9x(t:List Td)(a:Option Addr)(cap:Nat)(w:World)(ht:z8n w)(h:q0d t=0)(h9:opT t≠9)(hc:t.length<=cap)(hN:Tds w a t):Calls prog 60 #[.slice a t.length cap] w fun e w'=>z4d t e w'/\Below w w w':=by
 have HST:Hid (∀(W:World)(b:Nat),w.heap.size<=b->W.heap[b]?=some (.cells #[.slice a t.length cap] 175 (0,0))->Below w w W->Calls prog 104 #[.pointer (some ⟨b,0,none⟩)] W fun e w'=>NdR w (q0n t).N e w'):=fun W b hlt hx hb=>v0a ht h h9 hc hN hlt hx hb
 have hn9:=(z0h h h9).n;by_cases hm:400<(q0n t).N.length
 ·obtain⟨e1,e2,_,_⟩:=v7b h h9 hm;have HO:Hid (∀W,z4d t (.returned (.tuple #[.slice none 0 0,q0s 3])) W):=fun W=>⟨none,0,by rw[e1,e2];rfl,by rw[e2];exact fun i hi=>by simp at hi,by rw[e2];exact Nat.le_refl _⟩
  generalize(q0n t).N=xs at HST hm hn9
  have hmi:(400:Int)<(xs.length:Int):=by omega
  clear h h9 e1 e2 hN ht;go_in;go_wp2_with fail;refine(HST.o _ _ Zl (heap_alloc_new w _) (q1t w _)).mono ?_;rintro e w2⟨A,c,rfl,hO,b2⟩;have HB2:Hid (Below w w w2):=b2;clear hO b2;go_wp2;go_ret2;exact⟨HO.o _,HB2.o⟩
 ·obtain⟨e1,e2,_,_⟩:=y5p h h9 hm;have HO:Hid (∀A c W,q3p W A (q0n t).N->(q0n t).N.length<=c->z4d t (.returned (.tuple #[.slice A (q0n t).N.length c,q0s 0])) W):=fun A c W h h2=>⟨A,c,by rw[e1,e2],by rw[e2];exact h,by rw[e2];exact h2⟩
  generalize(q0n t).N=xs at HST hm hn9 HO
  have hmi:¬(400:Int)<(xs.length:Int):=by omega
  clear h h9 e1 e2 hN ht;go_in;go_wp2_with fail;refine(HST.o _ _ Zl (heap_alloc_new w _) (q1t w _)).mono ?_;rintro e w2⟨A,c,rfl,hO,b2⟩;have HB2:Hid (Below w w w2):=b2;have HN2:=(show Hid (_)from HO.o A c w2 hO.nods (j1a hO).2.1);clear hO b2;go_wp2;go_ret2;exact⟨HN2.o,HB2.o⟩
end Go.Proofs.YthcpdohdppkmkaaGreatDoor
