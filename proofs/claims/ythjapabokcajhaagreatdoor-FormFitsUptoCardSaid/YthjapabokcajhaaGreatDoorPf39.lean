/- Texts as one: LyC, SyQ, SyM, LayX. -/
import Derived.Test.YthjapabokcajhaaGreatDoorPf38
import Derived.Test.YthjapabokcajhaaGreatDoorPf05
import Derived.Test.YthjapabokcajhaaGreatDoorPf03
import Derived.Lib.Fields
import Derived.Lib.Join
import Derived.Test.YthjapabokcajhaaGreatDoorPf11
namespace Go.Proofs.YthjapabokcajhaaGreatDoor
open Go Go.RowKit
set_option maxRecDepth 100000
set_option maxHeartbeats 4000000
theorem k4w{w0:World}{b:Nat}{xt:ByteArray}{xn:Int}{y:Td}{k:Fo}(hX:ExL w0 b y k)(hz:(q0d y k.dcs).nodes.length<=1000)(h8:xt.size<=8)(w:World)(hW:LyE w0 b (⟨7,xt,xn⟩::(y::(k.nodes++[]))) w):
  Calls Tryz.prog 86 #[.pointer (some ⟨b,0,none⟩)] w fun e w'=>NdG w0 b w (stD ⟨7,xt,xn⟩ (q0d y k.dcs)).nodes [] e w':=by
 have HN:Hid (Calls Tryz.prog 134 #[.pointer (some ⟨b,0,none⟩)] w fun e w'=>e=.returned (.agg #[.int .i64 7,.string xt,.int .i64 xn])/\Lk w0 b w (y::(k.nodes++[])) w'):=q2k hW;have HXL:Hid (∀W,LyE w0 b (y::(k.nodes++[])) W->Calls Tryz.prog 136 #[.pointer (some ⟨b,0,none⟩)] W fun e w'=>NdG w0 b W (q0d y k.dcs).nodes [] e w'):=fun W hW=>hX [] W hW
 have HRR:Hid ((stD ⟨7,xt,xn⟩ (q0d y k.dcs)).nodes=⟨8,⟨#[]⟩,0⟩::(⟨6,⟨#[]⟩,0⟩::([⟨1,(⟨#[108,101,116,32]⟩:ByteArray)++xt++(⟨#[32,61]⟩:ByteArray),0⟩]++(⟨7,⟨#[]⟩,2⟩::(⟨6,⟨#[]⟩,0⟩::([⟨2,⟨#[]⟩,0⟩]++(⟨6,⟨#[]⟩,0⟩::((q0d y k.dcs).nodes++[⟨1,⟨#[59]⟩,0⟩])))))))):=by
  show _=_
  have e6:wbS ([108,101,116,32]++btL xt++[32,61])=(⟨#[108,101,116,32]⟩:ByteArray)++xt++(⟨#[32,61]⟩:ByteArray):=by
   have q1:wbS [108,101,116,32]++wbS (btL xt)=wbS ([108,101,116,32]++btL xt):=q1q _ _;have q2:wbS ([108,101,116,32]++btL xt)++wbS [32,61]=wbS ([108,101,116,32]++btL xt++[32,61]):=q1q _ _;rw[<-q2,<-q1];rfl
  rw[<-e6];rfl
 generalize(stD ⟨7,xt,xn⟩ (q0d y k.dcs)).nodes=R at HRR⊢
 generalize(q0d y k.dcs).nodes=xs at HXL HRR hz
 generalize y::(k.nodes++[])=r0 at HN HXL;have g1:¬9223372036854775807<4+xt.size:=by omega
 have g2:¬9223372036854775807<4+xt.size+2:=by omega
 clear hX hW;go_in;go_wp2_with fail;refine HN.out.mono ?_;rintro e w1⟨rfl,h1⟩;have HSC:Hid (∃w2,w1.alloc (.cells #[.int .i64 7,.string xt,.int .i64 xn] 47)=w2/\Lk w0 b w r0 w2/\w2.heap[w1.heap.size]?=some (.cells #[.int .i64 7,.string xt,.int .i64 xn] 47 (0,0))):=⟨_,rfl,h1.step (q7o w1 _),heap_alloc_new w1 _⟩;have hgb:w1.heap.size≠b:=by have:=h1.in;omega
 clear h1 HN;go_wp2_with fail;obtain⟨w2,hw2,hl2,hx2⟩:=HSC.out;rw[hw2];have HL:Hid (Lk w0 b w r0 w2):=hl2;have HBX:Hid (w2.heap[w1.heap.size]?=some (.cells #[.int .i64 7,.string xt,.int .i64 xn] 47 (0,0))):=hx2;clear HSC hl2 hx2 hw2;go_wp2_with fail;refine(HXL.out _ HL.out.ly).mono ?_;rintro e w3 h3;obtain⟨v3,rfl,n3,l3⟩:=h3.val;replace HL:=hid (HL.out.then l3);replace HBX:=hid ((l3.bt.block _ (Array.getElem?_eq_some_iff.1 HBX.out).1 hgb).trans HBX.out);have DX:=hid n3;clear h3 n3 l3;go_wp2_with fail;refine(q1h _ _).mono ?_;rintro e w4 h4;obtain⟨v4,rfl,n4,b4⟩:=h4.valB HL.out.in;replace HL:=hid (HL.out.step b4);replace HBX:=hid ((b4.block _ (Array.getElem?_eq_some_iff.1 HBX.out).1).trans HBX.out);replace DX:=hid (DX.out.bel b4);have DS:=hid n4;clear h4 n4 b4;go_wp2_with fail;refine(q0z _ DX.out.val DS.out.val (by first|(simp;done)|(simp;omega))).mono ?_;rintro e w5 h5;obtain⟨v5,rfl,n5,b5⟩:=h5.valB HL.out.in;replace HL:=hid (HL.out.step b5);replace HBX:=hid ((b5.block _ (Array.getElem?_eq_some_iff.1 HBX.out).1).trans HBX.out);clear DX;clear DS;have DR:=hid n5;clear h5 n5 b5;have d0:w5.cell? ⟨w1.heap.size,0,none⟩=some (.int .i64 7):=by rw[Lib.cell_of_heap HBX.out];rfl
 have d1:w5.cell? ⟨w1.heap.size,1,none⟩=some (.string xt):=by rw[Lib.cell_of_heap HBX.out];rfl
 clear HBX;go_wp2_with fail;refine(q1h _ _).mono ?_;rintro e w6 h6;obtain⟨v6,rfl,n6,b6⟩:=h6.valB HL.out.in;replace HL:=hid (HL.out.step b6);replace DR:=hid (DR.out.bel b6);have DL:=hid n6;clear h6 n6 b6;clear d0 d1;go_wp2_with fail;refine(q7z _).mono ?_;rintro e w7 h7;obtain⟨v7,rfl,n7,b7⟩:=h7.valB HL.out.in;replace HL:=hid (HL.out.step b7);replace DR:=hid (DR.out.bel b7);replace DL:=hid (DL.out.bel b7);have DB:=hid n7;clear h7 n7 b7;go_wp2_with fail;refine(q0z _ DB.out.val DR.out.val (by first|(simp;done)|(simp;omega))).mono ?_;rintro e w8 h8;obtain⟨v8,rfl,n8,b8⟩:=h8.valB HL.out.in;replace HL:=hid (HL.out.step b8);clear DB;clear DR;replace DL:=hid (DL.out.bel b8);have DQ:=hid n8;clear h8 n8 b8;go_wp2_with fail;refine(q6c _ DQ.out.val (by first|(simp;done)|(simp;omega))).mono ?_;rintro e w9 h9;obtain⟨v9,rfl,n9,b9⟩:=h9.valB HL.out.in;replace HL:=hid (HL.out.step b9);clear DQ;replace DL:=hid (DL.out.bel b9);have DD:=hid n9;clear h9 n9 b9;go_wp2_with fail;refine(q0z _ DL.out.val DD.out.val (by first|(simp;done)|(simp;omega))).mono ?_;rintro e w10 h10;obtain⟨v10,rfl,n10,b10⟩:=h10.valB HL.out.in;replace HL:=hid (HL.out.step b10);clear DL;clear DD;have DG:=hid n10;clear h10 n10 b10;go_wp2_with fail;refine(q8a _ DG.out.val (by first|(simp;done)|(simp;omega))).mono ?_;rintro e w11 h11
 have HX:Hid (NdG w0 b w R [] e w11):=by
  have h:=h11.gof HL.out;show NdG w0 b w R [] e w11;rw[HRR.out];exact h
 obtain⟨v11,rfl,_,_⟩:=h11.val;clear h11 HL HRR DG;go_wp2;go_ret;exact HX.out
theorem j0q{w0:World}{b:Nat}{xt:ByteArray}{xn:Int}{y:Td}{k:Fo}(hX:ExL w0 b y k)(hz:(q0d y k.dcs).nodes.length<=1000)(w:World)(hW:LyE w0 b (⟨8,xt,xn⟩::(y::(k.nodes++[]))) w):
  Calls Tryz.prog 86 #[.pointer (some ⟨b,0,none⟩)] w fun e w'=>NdG w0 b w (stD ⟨8,xt,xn⟩ (q0d y k.dcs)).nodes [] e w':=by
 have HN:Hid (Calls Tryz.prog 134 #[.pointer (some ⟨b,0,none⟩)] w fun e w'=>e=.returned (.agg #[.int .i64 8,.string xt,.int .i64 xn])/\Lk w0 b w (y::(k.nodes++[])) w'):=q2k hW;have HXL:Hid (∀W,LyE w0 b (y::(k.nodes++[])) W->Calls Tryz.prog 136 #[.pointer (some ⟨b,0,none⟩)] W fun e w'=>NdG w0 b W (q0d y k.dcs).nodes [] e w'):=fun W hW=>hX [] W hW
 have HRR:Hid ((stD ⟨8,xt,xn⟩ (q0d y k.dcs)).nodes=⟨6,⟨#[]⟩,0⟩::((q0d y k.dcs).nodes++[⟨1,⟨#[59]⟩,0⟩])):=rfl
 generalize(stD ⟨8,xt,xn⟩ (q0d y k.dcs)).nodes=R at HRR⊢
 generalize(q0d y k.dcs).nodes=xs at HXL HRR hz
 generalize y::(k.nodes++[])=r0 at HN HXL;clear hX hW;go_in;go_wp2_with fail;refine HN.out.mono ?_;rintro e w1⟨rfl,h1⟩;have HSC:Hid (∃w2,w1.alloc (.cells #[.int .i64 8,.string xt,.int .i64 xn] 47)=w2/\Lk w0 b w r0 w2/\w2.heap[w1.heap.size]?=some (.cells #[.int .i64 8,.string xt,.int .i64 xn] 47 (0,0))):=⟨_,rfl,h1.step (q7o w1 _),heap_alloc_new w1 _⟩;have hgb:w1.heap.size≠b:=by have:=h1.in;omega
 clear h1 HN;go_wp2_with fail;obtain⟨w2,hw2,hl2,hx2⟩:=HSC.out;rw[hw2];have HL:Hid (Lk w0 b w r0 w2):=hl2;have HBX:Hid (w2.heap[w1.heap.size]?=some (.cells #[.int .i64 8,.string xt,.int .i64 xn] 47 (0,0))):=hx2;clear HSC hl2 hx2 hw2;go_wp2_with fail;refine(HXL.out _ HL.out.ly).mono ?_;rintro e w3 h3;obtain⟨v3,rfl,n3,l3⟩:=h3.val;replace HL:=hid (HL.out.then l3);replace HBX:=hid ((l3.bt.block _ (Array.getElem?_eq_some_iff.1 HBX.out).1 hgb).trans HBX.out);have DX:=hid n3;clear h3 n3 l3;go_wp2_with fail;refine(q1h _ _).mono ?_;rintro e w4 h4;obtain⟨v4,rfl,n4,b4⟩:=h4.valB HL.out.in;replace HL:=hid (HL.out.step b4);replace HBX:=hid ((b4.block _ (Array.getElem?_eq_some_iff.1 HBX.out).1).trans HBX.out);replace DX:=hid (DX.out.bel b4);have DS:=hid n4;clear h4 n4 b4;go_wp2_with fail;refine(q0z _ DX.out.val DS.out.val (by first|(simp;done)|(simp;omega))).mono ?_;rintro e w5 h5
 have HX:Hid (NdG w0 b w R [] e w5):=by
  have h:=h5.gof HL.out;show NdG w0 b w R [] e w5;rw[HRR.out];exact h
 obtain⟨v5,rfl,_,b5⟩:=h5.val;have hbx:w5.heap[w1.heap.size]?=some (.cells #[.int .i64 8,.string xt,.int .i64 xn] 47 (0,0)):=(b5.block _ (Array.getElem?_eq_some_iff.1 HBX.out).1).trans HBX.out;have d0:w5.cell? ⟨w1.heap.size,0,none⟩=some (.int .i64 8):=by rw[Lib.cell_of_heap hbx];rfl
 clear h5 HL HRR DX DS b5 hbx HBX;go_wp2;go_ret;exact HX.out
theorem k4v{t:List Td}{a:Option Addr}{cap:Nat}{w W:World}{b:Nat}(ht:z1v w)(h:q0b t=0)(h9:opT t≠9)(hc:t.length<=cap)(hN:Tds w a t)(hlt:w.heap.size<=b)(hx:W.heap[b]?=some (.cells #[.slice a t.length cap] 144 (0,0)))(hb:Below w.heap.size w W):
  Calls Tryz.prog 86 #[.pointer (some ⟨b,0,none⟩)] W fun e w'=>NdR w (q0i t).nodes e w':=by
 obtain⟨h1,h2,_,_⟩:=q1z h;obtain⟨x,y,k,rfl,hok,hex,hk,hxx⟩:=q4j h h9;have hall:EAL w b (.cons y k .nil):=z2q ht _ hok hex (by simp only[List.length_cons]at h1;omega)
 have hz:(q0d y k.dcs).nodes.length<=1000:=by
  have:=(z9j y k .nil).2
  simp only[List.length_cons]at h1;omega
 have e0:q0i (x::(Fo.cons y k .nil).nodes)=stD x (q0d y k.dcs):=q5n hok hk;have hnd:x::(Fo.cons y k .nil).nodes=x::(y::(k.nodes++[])):=by simp[Fo.nodes]
 rw[e0]
 have hW:LyE w b (x::(y::(k.nodes++[]))) W:=by
  rw[<-hnd];exact⟨a,cap,hx,hc,hN,hb,hlt⟩
 have key:Calls Tryz.prog 86 #[.pointer (some ⟨b,0,none⟩)] W fun e w'=>NdG w b W (stD x (q0d y k.dcs)).nodes [] e w':=by
  obtain⟨xo,xt,xn⟩:=x;rcases hxx with⟨ho,hnm,_⟩|⟨ho,_,_⟩
  ·dsimp only at ho hnm;subst ho;have h8:=q1v hnm;rw[q0h]at h8;exact k4w hall.1 hz h8 W hW
  ·dsimp only at ho;subst ho;exact j0q hall.1 hz W hW
 refine key.mono ?_;rintro e w'⟨A,c,rfl,ho,hl⟩;exact⟨A,c,rfl,ho.down hb.size,hb.trans ((hl.bt.mono hb.size).below hlt)⟩
theorem k4t(t:List Td)(a:Option Addr)(cap:Nat)(w:World)(ht:z1v w)(h:q0b t=0)(h9:opT t≠9)(hc:t.length<=cap)(hN:Tds w a t):Calls Tryz.prog 47 #[.slice a t.length cap] w fun e w'=>q8u t e w'/\Below w.heap.size w w':=by
 have HST:Hid (∀(W:World)(b:Nat),w.heap.size<=b->W.heap[b]?=some (.cells #[.slice a t.length cap] 144 (0,0))->Below w.heap.size w W->Calls Tryz.prog 86 #[.pointer (some ⟨b,0,none⟩)] W fun e w'=>NdR w (q0i t).nodes e w'):=fun W b hlt hx hb=>k4v ht h h9 hc hN hlt hx hb
 have hn9:=(q5q h h9).n;by_cases hm:400<(q0i t).nodes.length
 ·obtain⟨e1,e2,_,_⟩:=j0i h h9 hm;have HO:Hid (∀W,q8u t (.returned (.tuple #[.slice none 0 0,q1p 3])) W):=fun W=>⟨none,0,by rw[e1,e2];rfl,by rw[e2];exact fun i hi=>by simp at hi,by rw[e2];exact Nat.le_refl _⟩
  generalize(q0i t).nodes=xs at HST hm hn9
  have hmi:(400:Int)<(xs.length:Int):=by omega
  clear h h9 e1 e2 hN ht;go_in;go_wp2_with fail;refine(HST.out _ _ (Nat.le_refl _) (heap_alloc_new w _) (q7o w _)).mono ?_;rintro e w2⟨A,c,rfl,hO,b2⟩;have HB2:Hid (Below w.heap.size w w2):=b2;clear hO b2;go_wp2;go_ret2;exact⟨HO.out _,HB2.out⟩
 ·obtain⟨e1,e2,_,_⟩:=j6d h h9 hm;have HO:Hid (∀A c W,q1u W A (q0i t).nodes->(q0i t).nodes.length<=c->q8u t (.returned (.tuple #[.slice A (q0i t).nodes.length c,q1p 0])) W):=fun A c W h h2=>⟨A,c,by rw[e1,e2],by rw[e2];exact h,by rw[e2];exact h2⟩
  generalize(q0i t).nodes=xs at HST hm hn9 HO
  have hmi:¬(400:Int)<(xs.length:Int):=by omega
  clear h h9 e1 e2 hN ht;go_in;go_wp2_with fail;refine(HST.out _ _ (Nat.le_refl _) (heap_alloc_new w _) (q7o w _)).mono ?_;rintro e w2⟨A,c,rfl,hO,b2⟩;have HB2:Hid (Below w.heap.size w w2):=b2;have HN2:=(show Hid (_)from HO.out A c w2 hO.nods (z8z hO).2.1);clear hO b2;go_wp2;go_ret2;exact⟨HN2.out,HB2.out⟩
end Go.Proofs.YthjapabokcajhaaGreatDoor
namespace Go.Proofs.YthjapabokcajhaaGreatDoor
open Go
abbrev neW(w:Wd):Bool:=!w.isEmpty
theorem q9e:∀(l cur h:Wd)(tl:List Wd),(∀b∈l,Lib.isSp b=true->b=32)->q3w l=h::tl->Lib.fieldsGo cur l=((cur++h)::tl).filter neW
 | [],cur,h,tl,_,e=>by
  have e2:[[]]=h::tl:=e;simp only[List.cons.injEq]at e2;obtain⟨rfl,rfl⟩:=e2;cases cur<;>simp[Lib.fieldsGo]
 | b::l,cur,h,tl,hb,e=>by
  have hl:∀x∈l,Lib.isSp x=true->x=32:=fun x hx=>hb x (by simp[hx])
  cases hs:q3w l with
  | nil=>exact absurd hs (q6h l)
  | cons h2 tl2=>
   by_cases h32:b=32
   ·subst h32;rw[q8e,hs]at e;simp only[List.cons.injEq]at e;obtain⟨rfl,rfl⟩:=e;have ih:=q9e l [] h2 tl2 hl hs;have hsp:Lib.isSp 32=true:=by decide
    cases cur with
    | nil=>rw[Lib.fieldsGo_sp _ _ hsp,ih];simp
    | cons a z=>rw[Lib.fieldsGo_end _ _ _ hsp (by simp),ih];simp
   ·have hsp:Lib.isSp b=false:=by
     cases hq:Lib.isSp b with
     | false=>rfl
     | true=>exact absurd (hb b (by simp) hq) h32
    rw[q5m h32 hs]at e;simp only[List.cons.injEq]at e;obtain⟨rfl,rfl⟩:=e;rw[Lib.fieldsGo_more _ _ _ hsp,q9e l (cur++[b]) h2 tl2 hl hs];simp
theorem k0g{l:Wd}(h:∀b∈l,Lib.isSp b=true->b=32):Lib.fields l=(q3w l).filter neW:=by
 cases hs:q3w l with
 | nil=>exact absurd hs (q6h l)
 | cons a tl=>exact q9e l [] a tl h hs
theorem v2l{b:UInt8}(h:prB b=true)(hs:Lib.isSp b=true):b=32:=by
 simp only[prB,Bool.and_eq_true,decide_eq_true_eq]at h;simp only[Lib.isSp,Bool.or_eq_true,beq_iff_eq]at hs;have h1:=h.1;rcases hs with(((((e|e)|e)|e)|e)|e)<;>subst e<;>first|rfl|(exfalso;revert h1;decide)
end Go.Proofs.YthjapabokcajhaaGreatDoor
namespace Go.Proofs.YthjapabokcajhaaGreatDoor
open Go
def szW(W:List Wd):Nat:=(W.map fun x=>x.length+1).sum
theorem z9k(x:Wd)(b:List Wd):szW (x::b)=x.length+1+szW b:=by simp[szW]
theorem j9j:∀W:List Wd,(jb W).length<=szW W
 | []=>Nat.zero_le _
 | x::r=>by
  have:=j9j r
  rw[z9k];cases r with
  | nil=>simp[jb];omega
  | cons y r=>
   have e:jb (x::y::r)=x++32::jb (y::r):=by simp[jb]
   rw[e,List.length_append,List.length_cons];omega
end Go.Proofs.YthjapabokcajhaaGreatDoor
namespace Go.Proofs.YthjapabokcajhaaGreatDoor
open Go Go.RowKit
set_option maxRecDepth 100000
set_option maxHeartbeats 2000000
theorem k7i:∀W:List Wd,(∀w∈W,w.length<=20)->szW W<=21*W.length
 | [],_=>Nat.le_refl _
 | x::r,h=>by
  have h1:=k7i r fun w hw=>h w (by simp[hw])
  have h2:=h x (by simp);rw[z9k,List.length_cons];omega
theorem z8q{tx:ByteArray}(h:q1s tx=0):Lib.fields (btL tx)=q0f (btL tx)/\(btL tx).length<=2000/\∀b∈btL tx,b.toNat<128:=by
 obtain⟨h1,h2⟩:=z6u h;by_cases hne:btL tx=[]
 ·rw[hne];exact⟨rfl,by simp,fun b hb=>by cases hb⟩
 ·have e2:q0f (btL tx)=q3w (btL tx):=by rw[q0f,if_neg hne]
  rw[e2]at h1 h2⊢;have hj:=z8i (btL tx)
  have hpr:∀b∈btL tx,prB b=true:=by
   intro b hb;rw[<-hj]at hb;refine z8h (p:=prB) rfl (q3w (btL tx)) (fun w hw b hb=>?_) b hb;have h3:=(h2 w hw).2.2 b hb;simp only[q3y,Bool.and_eq_true,decide_eq_true_eq]at h3;simp only[prB,Bool.and_eq_true,decide_eq_true_eq];omega
  refine⟨?_,?_,fun b hb=>?_⟩
  ·rw[k0g fun b hb hs=>v2l (hpr b hb) hs,List.filter_eq_self];intro w hw
   have:=(h2 w hw).1
   cases w with
   | nil=>exact absurd rfl this
   | cons=>rfl
  ·have q1:=j9j (q3w (btL tx));have q2:=k7i (q3w (btL tx)) fun w hw=>(h2 w hw).2.1
   rw[hj]at q1;omega
  ·have:=hpr b hb
   simp only[prB,Bool.and_eq_true,decide_eq_true_eq]at this;omega
theorem z6o{tx:ByteArray}(h:q1s tx=0)(w:World)(ht:z7p w):Calls Tryz.prog 103 #[.string tx] w fun e w'=>(∃g,e=.returned (.slice (some ⟨g,0,none⟩) (q0f (btL tx)).length (q0f (btL tx)).length)/\Wds w' (some ⟨g,0,none⟩) ((q0f (btL tx)).map wbS))/\Below w.heap.size w w':=by
 obtain⟨h1,h2,h3⟩:=z8q h;rw[<-h1];rw[q0h]at h2;refine(fields_sh tx w (by omega) (fun j c hj=>h3 c (List.mem_of_getElem? hj)) ht.spc).mono ?_;rintro e w'⟨rfl,rfl⟩;refine⟨⟨w.heap.size,rfl,?_⟩,q7o w _⟩;intro i hi;have hi2:i<(Lib.fields (btL tx)).length:=by simpa using hi
 refine⟨w.heap.size,0,rfl,by rw[World.size_alloc];omega,?_⟩;rw[Nat.zero_add];have hk:=heap_alloc_new w (.cells ((Lib.fields (btL tx)).map fun l=>Value.string ⟨l.toArray⟩).toArray 9);rw[Lib.cell_of_heap hk]
 show((Lib.fields (btL tx)).map fun l=>Value.string ⟨l.toArray⟩).toArray[i]?=_
 rw[List.getElem?_toArray,List.getElem?_map,show(Lib.fields (btL tx))[i]?=some (Lib.fields (btL tx))[i]from List.getElem?_eq_getElem hi2];simp[wbS]
theorem z3b{t:List Td}{a:Option Addr}{w:World}(h:q0b t=0)(hN:Tds w a t):0<t.length/\∃b o,a=some ⟨b,o,none⟩/\b<w.heap.size/\w.cell? ⟨b,o,none⟩=some (.int .i64 (opT t))/\w.cell? ⟨b,o+1,none⟩=some (.string (txT t)):=by
 have hpos:=z3g h;obtain⟨b,o,e,hb,c1,c2,_⟩:=hN 0 hpos;refine⟨hpos,b,o,e,hb,?_,?_⟩
 ·rw[z6z hpos];simpa using c1
 ·cases t with
  | nil=>simp at hpos
  | cons x r=>simpa[txT]using c2
theorem q9o{b o cap n:Nat}{op:Int}{w:World}(hn:0<n)(h:w.cell? ⟨b,o,none⟩=some (.int .i64 op)):Calls Tryz.prog 46 #[.slice (some ⟨b,o,none⟩) n cap] w fun e w'=>e=.returned (.bool (op==9))/\w=w':=by
 have hpi:(0:Int)<(n:Int):=by omega
 go_in;go_wp2;go_ret;exact⟨rfl,rfl⟩
theorem z1b(t:List Td)(a:Option Addr)(cap:Nat)(w:World)(ht:z1v w)(hc:t.length<=cap)(hN:Tds w a t)(hsz:k1o t):Calls Tryz.prog 18 #[.slice a t.length cap] w fun e w'=>q8u t e w'/\Below w.heap.size w w':=by
 have HC:Hid (Calls Tryz.prog 29 #[.slice a t.length cap] w fun e w'=>e=.returned (q1p (q0b t))/\Below w.heap.size w w'):=q4k t a cap w hc hN hsz;have HN:Hid (Tds w a t):=hN;have HT:Hid (z1v w):=ht;clear hN hsz ht;by_cases h0:q0b t=0
 ·obtain⟨hpos,b,o,rfl,hb,c1,c2⟩:=z3b h0 HN.out;have HI:Hid (∀W:World,Below w.heap.size w W->Calls Tryz.prog 46 #[.slice (some ⟨b,o,none⟩) t.length cap] W fun e w'=>e=.returned (.bool (opT t==9))/\W=w'):=fun W h=>q9o hpos (((q1g h).1 _ _ hb).trans c1)
  rw[h0]at HC;clear c1 c2;by_cases h9:opT t=9
  ·obtain⟨e1,e2,_,_⟩:=z2n h0 h9;have HO:Hid (∀W,q8u t (.returned (.tuple #[.slice none 0 0,q1p 2])) W):=fun W=>⟨none,0,by rw[e1,e2];rfl,by rw[e2];exact fun i hi=>by simp at hi,by rw[e2];exact Nat.le_refl _⟩
   rw[show(opT t==9)=true by simp[h9]]at HI;clear h0 h9 e1 e2;go_in;go_wp2_with fail;refine HC.out.mono ?_;rintro e w1⟨rfl,b1⟩;rw[q0u];have HB1:Hid (Below w.heap.size w w1):=b1;clear b1;go_wp2_with fail;refine(HI.out _ HB1.out).mono ?_;rintro e w2⟨rfl,rfl⟩;go_wp2;go_ret2;exact⟨HO.out _,HB1.out⟩
  ·have HLD:Hid (∀W:World,Below w.heap.size w W->Calls Tryz.prog 47 #[.slice (some ⟨b,o,none⟩) t.length cap] W fun e w'=>(∃A c,e=.returned (.tuple #[.slice A (q3g t).length c,q1p (q4v t)])/\q1u w' A (q3g t)/\(q3g t).length<=c)/\Below W.heap.size W w'):=fun W h=>k4t t _ cap W (HT.out.below h) h0 h9 hc (HN.out.below h)
   have HO:Hid (∀A c W,q1u W A (q3g t)->(q3g t).length<=c->q8u t (.returned (.tuple #[.slice A (q3g t).length c,q1p (q4v t)])) W):=fun A c W h h2=>⟨A,c,rfl,h,h2⟩
   rw[show(opT t==9)=false by simp[h9]]at HI;generalize q3g t=xs at HLD HO;generalize q1p (q4v t)=er at HLD HO;clear h0 h9;go_in;go_wp2_with fail;refine HC.out.mono ?_;rintro e w1⟨rfl,b1⟩;rw[q0u];have HB1:Hid (Below w.heap.size w w1):=b1;clear b1;go_wp2_with fail;refine(HI.out _ HB1.out).mono ?_;rintro e w2⟨rfl,rfl⟩;go_wp2_with fail;refine(HLD.out _ HB1.out).mono ?_;rintro e w3⟨⟨A,c,rfl,hO,hl⟩,b3⟩;have HB3:Hid (Below w.heap.size w w3):=q0g HB1.out (Nat.le_refl _) b3;have HN3:=(show Hid (_)from HO.out A c w3 hO hl);clear hO hl b3;generalize xs.length=nx at HN3⊢;go_wp2;go_ret2;exact⟨HN3.out,HB3.out⟩
 ·obtain⟨e1,e2,_,_⟩:=k4j h0;have HE:Hid (q1p (q0b t)=.iface 23 (.int .i64 (q0b t))):=q0o h0;have HO:Hid (∀W,q8u t (.returned (.tuple #[.slice none 0 0,q1p (q0b t)])) W):=fun W=>⟨none,0,by rw[e1,e2];rfl,by rw[e2];exact fun i hi=>by simp at hi,by rw[e2];exact Nat.le_refl _⟩
  clear e1 e2 h0;go_in;go_wp2_with fail;refine HC.out.mono ?_;rintro e w1⟨rfl,b1⟩;rw[HE.out];go_wp2;go_ret2;exact⟨by have:=HO.out w1;rw[HE.out]at this;exact this,b1⟩
theorem k6b{t:List Td}(h:q0b t=0)(h9:opT t=9):q1s (txT t)=0:=by
 rcases q5o h with⟨x,rfl,_,_,hf⟩|⟨x,F,rfl,_,_,_,hx⟩
 ·exact hf
 ·exfalso;have e:opT (x::F.nodes)=x.op:=rfl;rcases hx with⟨ho,_⟩|⟨ho,_⟩<;>omega
theorem z6n(t:List Td)(a:Option Addr)(cap:Nat)(w:World)(ht:z7p w)(hc:t.length<=cap)(hN:Tds w a t)(hsz:k1o t):Calls Tryz.prog 68 #[.slice a t.length cap] w fun e w'=>z1t t e w'/\Below w.heap.size w w':=by
 have HC:Hid (Calls Tryz.prog 29 #[.slice a t.length cap] w fun e w'=>e=.returned (q1p (q0b t))/\Below w.heap.size w w'):=q4k t a cap w hc hN hsz;have HN:Hid (Tds w a t):=hN;have HT:Hid (z7p w):=ht;clear hN hsz ht;by_cases h0:q0b t=0
 ·obtain⟨hpos,b,o,rfl,hb,c1,c2⟩:=z3b h0 HN.out;have HI:Hid (∀W:World,Below w.heap.size w W->Calls Tryz.prog 46 #[.slice (some ⟨b,o,none⟩) t.length cap] W fun e w'=>e=.returned (.bool (opT t==9))/\W=w'):=fun W h=>q9o hpos (((q1g h).1 _ _ hb).trans c1)
  have HCE:Hid (∀W:World,Below w.heap.size w W->W.cell? ⟨b,o+1,none⟩=some (.string (txT t))):=fun W h=>((q1g h).1 _ _ hb).trans c2
  rw[h0]at HC;have hpi:(0:Int)<(t.length:Int):=by omega
  clear c1 c2;by_cases h9:opT t=9
  ·obtain⟨_,_,e1,e2⟩:=z2n h0 h9;have hnf:=k6b h0 h9;have htz:(txT t).size<=2000:=by rw[<-q0h];exact(z8q hnf).2.1
   have HCL:Hid (∀W:World,Calls Tryz.prog 78 #[.string (txT t)] W fun e w'=>e=.returned (.string (txT t))/\Below W.heap.size W w'):=fun W=>z1a _ W (by omega)
   have HNW:Hid (∀W:World,Below w.heap.size w W->Calls Tryz.prog 103 #[.string (txT t)] W fun e w'=>(∃g,e=.returned (.slice (some ⟨g,0,none⟩) (q0f (btL (txT t))).length (q0f (btL (txT t))).length)/\Wds w' (some ⟨g,0,none⟩) ((q0f (btL (txT t))).map wbS))/\Below W.heap.size W w'):=fun W h=>z6o hnf W (HT.out.below h)
   have HO:Hid (∀A c W,Wds W A ((q0f (btL (txT t))).map wbS)->(q0f (btL (txT t))).length<=c->z1t t (.returned (.tuple #[.slice A (q0f (btL (txT t))).length c,q1p 0])) W):=fun A c W h h2=>⟨A,c,by rw[e1,e2,List.length_map],by rw[e2];exact h,by rw[e2,List.length_map];exact h2⟩
   rw[show(opT t==9)=true by simp[h9]]at HI;generalize q0f (btL (txT t))=ws at HNW HO;generalize txT t=tx at HNW HCE HCL;clear h0 h9 e1 e2 htz hnf;go_in;go_wp2_with fail;refine HC.out.mono ?_;rintro e w1⟨rfl,b1⟩;rw[q0u];have c2:=HCE.out w1 b1;have HB1:Hid (Below w.heap.size w w1):=b1;clear b1;go_wp2_with fail;refine(HI.out _ HB1.out).mono ?_;rintro e w2⟨rfl,rfl⟩;go_wp2_with fail;refine(HCL.out _).mono ?_;rintro e w3⟨rfl,b3⟩;have HB3:Hid (Below w.heap.size w w3):=q0g HB1.out (Nat.le_refl _) b3;clear b3;go_wp2_with fail;refine(HNW.out _ HB3.out).mono ?_;rintro e w4⟨⟨g,rfl,hS⟩,b4⟩;have HB4:Hid (Below w.heap.size w w4):=q0g HB3.out (Nat.le_refl _) b4;have HN4:=(show Hid (_)from HO.out _ ws.length w4 hS (Nat.le_refl _));clear hS b4 c2;generalize ws.length=nw at HN4⊢;go_wp2;go_ret2;exact⟨HN4.out,HB4.out⟩
  ·have HO:Hid (∀W,z1t t (.returned (.tuple #[.slice none 0 0,q1p 2])) W):=fun W=>by
    have e1:z5s t=2:=by rw[z5s,if_neg (by simp[h0]),if_neg h9]
    have e2:k0n t=[]:=by rw[k0n,if_neg (by rw[e1];decide)]
    exact⟨none,0,by rw[e1,e2];rfl,by rw[e2];exact fun i hi=>by simp at hi,by rw[e2];exact Nat.le_refl _⟩
   rw[show(opT t==9)=false by simp[h9]]at HI;clear h0 h9 HCE;go_in;go_wp2_with fail;refine HC.out.mono ?_;rintro e w1⟨rfl,b1⟩;rw[q0u];have HB1:Hid (Below w.heap.size w w1):=b1;clear b1;go_wp2_with fail;refine(HI.out _ HB1.out).mono ?_;rintro e w2⟨rfl,rfl⟩;go_wp2;go_ret2;exact⟨HO.out _,HB1.out⟩
 ·obtain⟨_,_,e1,e2⟩:=k4j h0;have HE:Hid (q1p (q0b t)=.iface 23 (.int .i64 (q0b t))):=q0o h0;have HO:Hid (∀W,z1t t (.returned (.tuple #[.slice none 0 0,q1p (q0b t)])) W):=fun W=>⟨none,0,by rw[e1,e2];rfl,by rw[e2];exact fun i hi=>by simp at hi,by rw[e2];exact Nat.le_refl _⟩
  clear e1 e2 h0;go_in;go_wp2_with fail;refine HC.out.mono ?_;rintro e w1⟨rfl,b1⟩;rw[HE.out];go_wp2;go_ret2;exact⟨by have:=HO.out w1;rw[HE.out]at this;exact this,b1⟩
end Go.Proofs.YthjapabokcajhaaGreatDoor
