/- Texts as one: LyC, SyQ, SyM, LayX. -/
import Derived.Test.YthjapabokcajhaaGreatDoorPi32
import Derived.Lib.Fields
open Go.Proofs.Tryz
namespace Go.Proofs.YthjapabokcajhaaGreatDoor
open Go Go.RowKit
set_option maxRecDepth 100000
set_option maxHeartbeats 4000000
theorem j5o{w0:World}{b:Nat}{xt:ByteArray}{xn:Int}{y:Td}{k:Fo}(hX:ExL w0 b y k)(hz:(q0l y k.dcs).nodes.length<=1000)(h8:xt.size<=8)(w:World)(hW:LyE w0 b (⟨7,xt,xn⟩::(y::(k.nodes++[]))) w):
  Calls prog 86 #[.pointer b] w fun e w'=>NdG w0 b w (stD ⟨7,xt,xn⟩ (q0l y k.dcs)).nodes [] e w':=by
 have HN:=hid (q4f hW);have HXL:Hid (∀W,LyE w0 b (y::(k.nodes++[])) W->Calls prog 136 #[.pointer b] W fun e w'=>NdG w0 b W (q0l y k.dcs).nodes [] e w'):=fun W hW=>hX [] W hW
 have HRR:Hid ((stD ⟨7,xt,xn⟩ (q0l y k.dcs)).nodes=⟨8,⟨#[]⟩,0⟩::(⟨6,⟨#[]⟩,0⟩::([⟨1,(⟨#[108,101,116,32]⟩:ByteArray)++xt++(⟨#[32,61]⟩:ByteArray),0⟩]++(⟨7,⟨#[]⟩,2⟩::(⟨6,⟨#[]⟩,0⟩::([⟨2,⟨#[]⟩,0⟩]++(⟨6,⟨#[]⟩,0⟩::((q0l y k.dcs).nodes++[⟨1,⟨#[59]⟩,0⟩])))))))):=by
  show _=_
  have e6:wbS ([108,101,116,32]++btL xt++[32,61])=(⟨#[108,101,116,32]⟩:ByteArray)++xt++(⟨#[32,61]⟩:ByteArray):=by
   have q1:wbS [108,101,116,32]++wbS (btL xt)=wbS ([108,101,116,32]++btL xt):=q1t _ _;have q2:wbS ([108,101,116,32]++btL xt)++wbS [32,61]=wbS ([108,101,116,32]++btL xt++[32,61]):=q1t _ _;rw[<-q2,<-q1];rfl
  rw[<-e6];rfl
 generalize(stD ⟨7,xt,xn⟩ (q0l y k.dcs)).nodes=R at HRR⊢
 generalize(q0l y k.dcs).nodes=xs at HXL HRR hz
 generalize y::(k.nodes++[])=r0 at HN HXL;have g1:¬9223372036854775807<4+xt.size:=by omega
 have g2:¬9223372036854775807<4+xt.size+2:=by omega
 clear hX hW;go_in;go_wp2_with fail;refine HN.o.mono ?_;rintro e w1⟨rfl,h1⟩;have HSC:Hid (∃w2,w1.alloc (.cells #[.int .i64 7,.string xt,xn] 47)=w2/\Lk w0 b w r0 w2/\w2.heap[w1.heap.size]?=some (.cells #[.int .i64 7,.string xt,xn] 47 (0,0))):=⟨_,rfl,h1.step (q3p w1 _),heap_alloc_new w1 _⟩;have hgb:w1.heap.size≠b:=by have:=h1.in;omega
 clear h1 HN;go_wp2_with fail;obtain⟨w2,hw2,hl2,hx2⟩:=HSC.o;rw[hw2];have HL:=hid hl2;have HBX:=hid hx2;clear HSC hl2 hx2 hw2;go_wp2_with fail;refine(HXL.o _ HL.o.ly).mono ?_;rintro e w3 h3;obtain⟨v3,rfl,n3,l3⟩:=h3.val;replace HL:=hid (HL.o.then l3);replace HBX:=hid ((l3.bt.block _ (Array.getElem?_eq_some_iff.1 HBX.o).1 hgb).trans HBX.o);have DX:=hid n3;clear h3 n3 l3;go_wp2_with fail;refine(q2e _ _).mono ?_;rintro e w4 h4;obtain⟨v4,rfl,n4,b4⟩:=h4.valB HL.o.in;replace HL:=hid (HL.o.step b4);replace HBX:=hid ((b4.block _ (Array.getElem?_eq_some_iff.1 HBX.o).1).trans HBX.o);replace DX:=hid (DX.o.bel b4);have DS:=hid n4;clear h4 n4 b4;go_wp2_with fail;refine(q1n _ DX.o.val DS.o.val (by first|(simp;done)|(simp;omega))).mono ?_;rintro e w5 h5;obtain⟨v5,rfl,n5,b5⟩:=h5.valB HL.o.in;replace HL:=hid (HL.o.step b5);replace HBX:=hid ((b5.block _ (Array.getElem?_eq_some_iff.1 HBX.o).1).trans HBX.o);clear DX;clear DS;have DR:=hid n5;clear h5 n5 b5;have d0:w5.cell? w1.heap.size=some (.int .i64 7):=by rw[Lib.cell_of_heap HBX.o];rfl
 have d1:w5.cell? (w1.heap.size,1)=some (.string xt):=by rw[Lib.cell_of_heap HBX.o];rfl
 clear HBX;go_wp2_with fail;refine(q2e _ _).mono ?_;rintro e w6 h6;obtain⟨v6,rfl,n6,b6⟩:=h6.valB HL.o.in;replace HL:=hid (HL.o.step b6);replace DR:=hid (DR.o.bel b6);have DL:=hid n6;clear h6 n6 b6;clear d0 d1;go_wp2_with fail;refine(z1v _).mono ?_;rintro e w7 h7;obtain⟨v7,rfl,n7,b7⟩:=h7.valB HL.o.in;replace HL:=hid (HL.o.step b7);replace DR:=hid (DR.o.bel b7);replace DL:=hid (DL.o.bel b7);have DB:=hid n7;clear h7 n7 b7;go_wp2_with fail;refine(q1n _ DB.o.val DR.o.val (by first|(simp;done)|(simp;omega))).mono ?_;rintro e w8 h8;obtain⟨v8,rfl,n8,b8⟩:=h8.valB HL.o.in;replace HL:=hid (HL.o.step b8);clear DB;clear DR;replace DL:=hid (DL.o.bel b8);have DQ:=hid n8;clear h8 n8 b8;go_wp2_with fail;refine(q9l _ DQ.o.val (by first|(simp;done)|(simp;omega))).mono ?_;rintro e w9 h9;obtain⟨v9,rfl,n9,b9⟩:=h9.valB HL.o.in;replace HL:=hid (HL.o.step b9);clear DQ;replace DL:=hid (DL.o.bel b9);have DD:=hid n9;clear h9 n9 b9;go_wp2_with fail;refine(q1n _ DL.o.val DD.o.val (by first|(simp;done)|(simp;omega))).mono ?_;rintro e w10 h10;obtain⟨v10,rfl,n10,b10⟩:=h10.valB HL.o.in;replace HL:=hid (HL.o.step b10);clear DL;clear DD;have DG:=hid n10;clear h10 n10 b10;go_wp2_with fail;refine(z1x _ DG.o.val (by first|(simp;done)|(simp;omega))).mono ?_;rintro e w11 h11
 have HX:Hid (NdG w0 b w R [] e w11):=by
  have h:=h11.gof HL.o;show NdG w0 b w R [] e w11;rw[HRR.o];exact h
 obtain⟨v11,rfl,_,_⟩:=h11.val;clear h11 HL HRR DG;go_wp2;go_ret;exact HX.o
theorem v3g{w0:World}{b:Nat}{xt:ByteArray}{xn:Int}{y:Td}{k:Fo}(hX:ExL w0 b y k)(hz:(q0l y k.dcs).nodes.length<=1000)(w:World)(hW:LyE w0 b (⟨8,xt,xn⟩::(y::(k.nodes++[]))) w):
  Calls prog 86 #[.pointer b] w fun e w'=>NdG w0 b w (stD ⟨8,xt,xn⟩ (q0l y k.dcs)).nodes [] e w':=by
 have HN:=hid (q4f hW);have HXL:Hid (∀W,LyE w0 b (y::(k.nodes++[])) W->Calls prog 136 #[.pointer b] W fun e w'=>NdG w0 b W (q0l y k.dcs).nodes [] e w'):=fun W hW=>hX [] W hW
 have HRR:Hid ((stD ⟨8,xt,xn⟩ (q0l y k.dcs)).nodes=⟨6,⟨#[]⟩,0⟩::((q0l y k.dcs).nodes++[⟨1,⟨#[59]⟩,0⟩])):=rfl
 generalize(stD ⟨8,xt,xn⟩ (q0l y k.dcs)).nodes=R at HRR⊢
 generalize(q0l y k.dcs).nodes=xs at HXL HRR hz
 generalize y::(k.nodes++[])=r0 at HN HXL;clear hX hW;go_in;go_wp2_with fail;refine HN.o.mono ?_;rintro e w1⟨rfl,h1⟩;have HSC:Hid (∃w2,w1.alloc (.cells #[.int .i64 8,.string xt,xn] 47)=w2/\Lk w0 b w r0 w2/\w2.heap[w1.heap.size]?=some (.cells #[.int .i64 8,.string xt,xn] 47 (0,0))):=⟨_,rfl,h1.step (q3p w1 _),heap_alloc_new w1 _⟩;have hgb:w1.heap.size≠b:=by have:=h1.in;omega
 clear h1 HN;go_wp2_with fail;obtain⟨w2,hw2,hl2,hx2⟩:=HSC.o;rw[hw2];have HL:=hid hl2;have HBX:=hid hx2;clear HSC hl2 hx2 hw2;go_wp2_with fail;refine(HXL.o _ HL.o.ly).mono ?_;rintro e w3 h3;obtain⟨v3,rfl,n3,l3⟩:=h3.val;replace HL:=hid (HL.o.then l3);replace HBX:=hid ((l3.bt.block _ (Array.getElem?_eq_some_iff.1 HBX.o).1 hgb).trans HBX.o);have DX:=hid n3;clear h3 n3 l3;go_wp2_with fail;refine(q2e _ _).mono ?_;rintro e w4 h4;obtain⟨v4,rfl,n4,b4⟩:=h4.valB HL.o.in;replace HL:=hid (HL.o.step b4);replace HBX:=hid ((b4.block _ (Array.getElem?_eq_some_iff.1 HBX.o).1).trans HBX.o);replace DX:=hid (DX.o.bel b4);have DS:=hid n4;clear h4 n4 b4;go_wp2_with fail;refine(q1n _ DX.o.val DS.o.val (by first|(simp;done)|(simp;omega))).mono ?_;rintro e w5 h5
 have HX:Hid (NdG w0 b w R [] e w5):=by
  have h:=h5.gof HL.o;show NdG w0 b w R [] e w5;rw[HRR.o];exact h
 obtain⟨v5,rfl,_,b5⟩:=h5.val;have hbx:=(b5.block _ (Array.getElem?_eq_some_iff.1 HBX.o).1).trans HBX.o;have d0:w5.cell? w1.heap.size=some (.int .i64 8):=by rw[Lib.cell_of_heap hbx];rfl
 clear h5 HL HRR DX DS b5 hbx HBX;go_wp2;go_ret;exact HX.o
theorem j5n{t:List Td}{a:Option Addr}{cap:Nat}{w W:World}{b:Nat}(ht:j1h w)(h:q0b t=0)(h9:opT t≠9)(hc:t.length<=cap)(hN:Tds w a t)(hlt:w.heap.size<=b)(hx:W.heap[b]?=some (.cells #[.slice a t.length cap] 144 (0,0)))(hb:Below w w W):
  Calls prog 86 #[.pointer b] W fun e w'=>NdR w (q0r t).nodes e w':=by
 obtain⟨h1,h2,_,_⟩:=q3f h;obtain⟨x,y,k,rfl,hok,hex,hk,hxx⟩:=z0u h h9;have hall:EAL w b (.cons y k .nil):=z8r ht _ hok hex (by simp only[List.length_cons]at h1;omega)
 have hz:(q0l y k.dcs).nodes.length<=1000:=by
  have:=(k7o y k .nil).2
  simp only[List.length_cons]at h1;omega
 have e0:=z3d hok hk;have hnd:x::(Fo.cons y k .nil).nodes=x::(y::(k.nodes++[])):=by simp[Fo.nodes]
 rw[e0]
 have hW:LyE w b (x::(y::(k.nodes++[]))) W:=by
  rw[<-hnd];exact⟨a,cap,hx,hc,hN,hb,hlt⟩
 have key:Calls prog 86 #[.pointer b] W fun e w'=>NdG w b W (stD x (q0l y k.dcs)).nodes [] e w':=by
  obtain⟨xo,xt,xn⟩:=x;rcases hxx with⟨ho,hnm,_⟩|⟨ho,_,_⟩
  ·dsimp only at ho hnm;subst ho;have h8:=q3l hnm;rw[q0c]at h8;exact j5o hall.1 hz h8 W hW
  ·dsimp only at ho;subst ho;exact v3g hall.1 hz W hW
 refine key.mono ?_;rintro e w'⟨A,c,rfl,ho,hl⟩;exact⟨A,c,rfl,ho.down hb.size,hb.trans ((hl.bt.mono hb.size).below hlt)⟩
theorem j5i(t:List Td)(a:Option Addr)(cap:Nat)(w:World)(ht:j1h w)(h:q0b t=0)(h9:opT t≠9)(hc:t.length<=cap)(hN:Tds w a t):Calls prog 47 #[.slice a t.length cap] w fun e w'=>z3f t e w'/\Below w w w':=by
 have HST:Hid (∀(W:World)(b:Nat),w.heap.size<=b->W.heap[b]?=some (.cells #[.slice a t.length cap] 144 (0,0))->Below w w W->Calls prog 86 #[.pointer b] W fun e w'=>NdR w (q0r t).nodes e w'):=fun W b hlt hx hb=>j5n ht h h9 hc hN hlt hx hb
 have hn9:=(z3u h h9).n;by_cases hm:400<(q0r t).nodes.length
 ·obtain⟨e1,e2,_,_⟩:=v2x h h9 hm;have HO:Hid (∀W,z3f t (.returned (.tuple #[.slice none 0 0,q1y 3])) W):=fun W=>⟨none,0,by rw[e1,e2];rfl,by rw[e2];exact fun i hi=>by simp at hi,by rw[e2];exact Nat.le_refl _⟩
  generalize(q0r t).nodes=xs at HST hm hn9
  have hmi:(400:Int)<(xs.length:Int):=by omega
  clear h h9 e1 e2 hN ht;go_in;go_wp2_with fail;refine(HST.o _ _ Zl (heap_alloc_new w _) (q3p w _)).mono ?_;rintro e w2⟨A,c,rfl,hO,b2⟩;have HB2:=hid b2;clear hO b2;go_wp2;go_ret2;exact⟨HO.o _,HB2.o⟩
 ·obtain⟨e1,e2,_,_⟩:=y0b h h9 hm;have HO:Hid (∀A c W,q1u W A (q0r t).nodes->(q0r t).nodes.length<=c->z3f t (.returned (.tuple #[.slice A (q0r t).nodes.length c,q1y 0])) W):=fun A c W h h2=>⟨A,c,by rw[e1,e2],by rw[e2];exact h,by rw[e2];exact h2⟩
  generalize(q0r t).nodes=xs at HST hm hn9 HO
  have hmi:¬(400:Int)<(xs.length:Int):=by omega
  clear h h9 e1 e2 hN ht;go_in;go_wp2_with fail;refine(HST.o _ _ Zl (heap_alloc_new w _) (q3p w _)).mono ?_;rintro e w2⟨A,c,rfl,hO,b2⟩;have HB2:=hid b2;have HN2:=(show Hid (_)from HO.o A c w2 hO.nods (k7h hO).2.1);clear hO b2;go_wp2;go_ret2;exact⟨HN2.o,HB2.o⟩
abbrev neW(w:Wd):Bool:=!w.isEmpty
theorem k3s:∀(ws:List Wd)(t:Wd),ws.foldl q6l t=(ws.filter neW).foldl q6l t
 | [],_=>rfl
 | w::r,t=>by
  cases w with
  | nil=>
   have e:q6l t []=t:=by simp[q6l]
   rw[List.foldl_cons,e,k3s r t];rfl
  | cons c z=>exact k3s r _
theorem z3w:∀(l cur h:Wd)(tl:List Wd),(∀b∈l,Lib.isSp b=true->b=32)->q5j l=h::tl->Lib.fieldsGo cur l=((cur++h)::tl).filter neW
 | [],cur,h,tl,_,e=>by
  have e2:[[]]=h::tl:=e;simp only[List.cons.injEq]at e2;obtain⟨rfl,rfl⟩:=e2;cases cur<;>simp[Lib.fieldsGo]
 | b::l,cur,h,tl,hb,e=>by
  have hl:∀x∈l,Lib.isSp x=true->x=32:=fun x hx=>hb x (by simp[hx])
  cases hs:q5j l with
  | nil=>exact absurd hs (q9q l)
  | cons h2 tl2=>
   by_cases h32:b=32
   ·subst h32;rw[q6h,hs]at e;simp only[List.cons.injEq]at e;obtain⟨rfl,rfl⟩:=e;have ih:=z3w l [] h2 tl2 hl hs;have hsp:Lib.isSp 32=true:=by decide
    cases cur with
    | nil=>rw[Lib.fieldsGo_sp _ _ hsp,ih];simp
    | cons a z=>rw[Lib.fieldsGo_end _ _ _ hsp (by simp),ih];simp
   ·have hsp:Lib.isSp b=false:=by
     cases hq:Lib.isSp b with
     | false=>rfl
     | true=>exact absurd (hb b (by simp) hq) h32
    rw[q4u h32 hs]at e;simp only[List.cons.injEq]at e;obtain⟨rfl,rfl⟩:=e;rw[Lib.fieldsGo_more _ _ _ hsp,z3w l (cur++[b]) h2 tl2 hl hs];simp
theorem z1p{l:Wd}(h:∀b∈l,Lib.isSp b=true->b=32):Lib.fields l=(q5j l).filter neW:=by
 cases hs:q5j l with
 | nil=>exact absurd hs (q9q l)
 | cons a tl=>exact z3w l [] a tl h hs
theorem k0q{l:Wd}(h:∀b∈l,Lib.isSp b=true->b=32):∀w∈Lib.fields l,w≠[]:=by
 intro w hw;rw[z1p h]at hw
 have:=(List.mem_filter.1 hw).2
 rintro rfl;simp at this
theorem k9n{l:Wd}(h:∀b∈l,Lib.isSp b=true->b=32):ntx (q0e l)=jb (Lib.fields l):=by
 have e:(q0e l).filter neW=Lib.fields l:=by
  rw[z1p h];unfold q0e
  split
  ·rename_i h0;subst h0;rfl
  ·rfl
 rw[<-y4t (k0q h),<-e,ntx,ntx,k3s]
theorem j4h:∀(a b:List Wd),a≠[]->b≠[]->jb (a++b)=jb a++32::jb b
 | [w],b,_,hb=>by
  cases b with
  | nil=>exact absurd rfl hb
  | cons x y=>simp[jb]
 | w::u::r,b,_,hb=>by
  have ih:=j4h (u::r) b (by simp) hb;rw[List.cons_append]at ih;simp only[List.cons_append,jb]at ih⊢;rw[ih];simp
theorem v6v{a:List Wd}(h:∀w∈a,w≠[]):jb a=[]↔a=[]:=by
 cases a with
 | nil=>simp[jb]
 | cons w r=>
  have:=h w (by simp)
  constructor
  ·intro e;have e2:w++(match r with|[]=>[]|_::_=>32::jb r)=[]:=e;exact absurd (List.append_eq_nil_iff.1 e2).1 this
  ·intro e;cases e
theorem v8n{a b:List Wd}(ha:∀w∈a,w≠[])(hb:∀w∈b,w≠[]):q6l (jb a) (jb b)=jb (a++b):=by
 by_cases h1:a=[]
 ·subst h1
  have:jb ([]:List Wd)=[]:=rfl
  rw[this,q6l,if_neg (by simp)];rfl
 ·by_cases h2:b=[]
  ·subst h2
   have:jb ([]:List Wd)=[]:=rfl
   rw[this,q6l,if_neg (by simp)];simp
  ·have e1:jb a≠[]:=fun e=>h1 ((v6v ha).1 e)
   have e2:jb b≠[]:=fun e=>h2 ((v6v hb).1 e)
   rw[q6l,if_pos ⟨e2,e1⟩,j4h a b h1 h2];simp
theorem j4i:∀ws:List Wd,Lib.join ws [32]=jb ws
 | []=>rfl
 | [w]=>by rw[Lib.join_one];simp[jb]
 | w::u::r=>by
  have ih:=j4i (u::r);rw[Lib.join_cons]at ih⊢;rw[jb,<-ih];simp[Lib.joinTail]
def q9u(w:Wd):List Wd:=Lib.fields (w.drop 1)
def v6t(w:Wd):Prop:=w.headD 0=35/\∀b∈w,prB b=true
theorem y5d{b:UInt8}(h:prB b=true)(hs:Lib.isSp b=true):b=32:=by
 simp only[prB,Bool.and_eq_true,decide_eq_true_eq]at h;simp only[Lib.isSp,Bool.or_eq_true,beq_iff_eq]at hs;have h1:=h.1;rcases hs with(((((e|e)|e)|e)|e)|e)<;>subst e<;>first|rfl|(exfalso;revert h1;decide)
theorem y4r{w:Wd}(h:v6t w):∀b∈w.drop 1,Lib.isSp b=true->b=32:=fun b hb hs=>y5d (h.2 b (List.mem_of_mem_drop hb)) hs
theorem y4s{w:Wd}(h:v6t w):q0z w=jb (q9u w):=k9n (y4r h)
theorem j3y{w:Wd}(h:v6t w):∀x∈q9u w,x≠[]:=k0q (y4r h)
theorem j1k(acc:List (List Td))(X t:Wd):k0c true (acc++[[ntT X]]) t=acc++[[ntT (q6l X t)]]:=by
 have e:q5k (acc++[[ntT X]])=X:=by
  simp only[q5k,List.getLast?_append,List.getLast?_singleton];rfl
 rw[k0c,if_pos rfl,e,List.dropLast_concat]
theorem j7y:∀(nts:List Wd)(acc:List (List Td))(W:List Wd)(ts:List Wd)(r:Rp),(∀w∈nts,v6t w)->(∀x∈W,x≠[])->PG true (acc++[[ntT (jb (W++nts.flatMap q9u))]]) ts r->PG true (acc++[[ntT (jb W)]]) (nts++ts) r
 | [],acc,W,ts,r,_,_,h=>by simpa using h
 | w::z,acc,W,ts,r,hn,hW,h=>by
  have hw:=hn w (by simp);refine .note hw.1 ?_;rw[j1k,y4s hw,v8n hW (j3y hw)];refine j7y z acc (W++q9u w) ts r (fun x hx=>hn x (by simp[hx])) ?_ ?_
  ·intro x hx;rcases List.mem_append.1 hx with hx|hx
   ·exact hW x hx
   ·exact j3y hw x hx
  ·rw[List.flatMap_cons,<-List.append_assoc]at h;exact h
theorem v3z{nts:List Wd}{acc:List (List Td)}{ts:List Wd}{r:Rp}(h0:nts≠[])(hn:∀w∈nts,v6t w)(h:PG true (acc++[[ntT (jb (nts.flatMap q9u))]]) ts r):PG false acc (nts++ts) r:=by
 cases nts with
 | nil=>exact absurd rfl h0
 | cons w z=>
  have hw:=hn w (by simp);refine .note hw.1 ?_;rw[k0c,if_neg (by simp),y4s hw];refine j7y z acc (q9u w) ts r (fun x hx=>hn x (by simp[hx])) (j3y hw) ?_;rw[List.flatMap_cons]at h;exact h
theorem j9f{p:UInt8->Bool}{c:UInt8}{r:List UInt8}(hc:p c=true)(hl:(r.takeWhile p).length+1=(c::r).length):∀b∈c::r,p b=true:=by
 have hall:r.takeWhile p=r:=by
  have h1:=z5e (p:=p) r;rw[show(r.takeWhile p).length=r.length by simp only[List.length_cons]at hl;omega,List.take_length]at h1;exact h1.symm
 have hta:∀(l:List UInt8)x,x∈l.takeWhile p->p x=true:=by
  intro l
  induction l with
  | nil=>intro x hx;cases hx
  | cons a l ih=>
   intro x hx;rw[List.takeWhile_cons]at hx;by_cases ha:p a=true
   ·rw[if_pos ha]at hx;rcases List.mem_cons.1 hx with rfl|hx
    ·exact ha
    ·exact ih x hx
   ·rw[if_neg ha]at hx;cases hx
 intro b hb;rcases List.mem_cons.1 hb with rfl|hb
 ·exact hc
 ·rw[<-hall]at hb;exact hta r b hb
theorem v8b{w:Wd}(h:q3k w):w≠[]:=by
 obtain⟨c,r,rfl,_⟩:=h;simp
theorem v5i{w:Wd}(h:q3k w):nmW w=(decide (w≠z1w)&&q2j (w.headD 0)):=by
 obtain⟨c,r,rfl,_,ho,hl,_⟩:=h;have hb:btL (wbS (c::r))=c::r:=rfl;have hsz:(wbS (c::r)).size=(c::r).length:=by rw[<-q0c,hb]
 unfold nmW q0o;rw[hb,hsz];show _=(decide ((c::r)≠z1w)&&q2j c);cases hc:q2j c with
 | false=>simp[hc]
 | true=>
  simp only[q6m,hc,if_true,decide_eq_true_eq]at ho;simp only[q1e,hc,if_true]at hl;have h1:=j9f hc hl;have h2:(c::r).all q2j=true:=List.all_eq_true.2 h1;rw[h2];have h3:(c::r).length<=8:=by omega
  simp only[List.length_cons]at h3⊢;simp;omega
theorem y2d{w:Wd}(h:q3k w)(hn:z0k w=true):(∀b∈w,q1z b=true)/\w.length<=6:=by
 obtain⟨c,r,rfl,_,ho,hl,_⟩:=h;have hf:q1z c=true:=hn;have hlow:q2j c=false:=k3p hf;simp only[q6m,hlow,hf,if_true,Bool.false_eq_true,if_false,Bool.and_eq_true,decide_eq_true_eq]at ho;simp only[q1e,hlow,hf,if_true,Bool.false_eq_true,if_false]at hl;exact⟨j9f hf hl,by omega⟩
theorem y5v{w:Wd}(h:q3k w)(hn:w.headD 0=35):v6t w:=by
 obtain⟨c,r,rfl,_,ho,hl,_⟩:=h;have hc:c=35:=hn;subst hc;have h1:q2j 35=false:=by decide
 have h2:q1z 35=false:=by decide
 have h3:((35:UInt8)==35)=true:=by decide
 simp only[q6m,h1,h2,h3,if_true,Bool.false_eq_true,if_false]at ho;simp only[q1e,h1,h2,h3,if_true,Bool.false_eq_true,if_false]at hl
 have hall:r.takeWhile nlB=r:=by
  have h4:=z5e (p:=nlB) r;rw[show(r.takeWhile nlB).length=r.length by simp only[List.length_cons]at hl;omega,List.take_length]at h4;exact h4.symm
 rw[hall,List.all_eq_true]at ho;refine⟨rfl,fun b hb=>?_⟩;rcases List.mem_cons.1 hb with rfl|hb
 ·decide
 ·exact ho b hb
theorem y5r(s:List UInt8):(tkW s).length<=q1e s:=by
 unfold tkW;refine Nat.le_trans (z1c _) ?_;rw[List.length_take];omega
theorem z8u:∀(n:Nat)(s:List UInt8)(i:Nat),s.length<=n->((lxW s i).map fun x=>x.2.length).sum<=s.length
 | 0,s,i,h=>by
  have:s=[]:=List.eq_nil_of_length_eq_zero (by omega)
  subst this;rw[lxW,z4j];simp
 | n+1,s,i,h=>by
  cases s with
  | nil=>rw[lxW,z4j];simp
  | cons c r=>
   cases hs:spB c with
   | true=>
    have ih:=z8u n r (i+1) (by simp at h;omega);rw[lxW,j5q r i hs];rw[lxW]at ih;simp only[List.length_cons];omega
   | false=>
    cases ho:q6m (c::r)with
    | false=>rw[lxW,k6o i hs ho];simp
    | true=>
     have hp:=q5f c r;have hle:=z0y (c::r);have ih:=z8u n ((c::r).drop (q1e (c::r))) (i+q1e (c::r)) (by simp only[List.length_drop];omega);have hw:=y5r (c::r);rw[List.length_drop]at ih;rw[lxW,k6p i hs ho];simp only[List.map_cons,List.sum_cons];omega
theorem j9w(s:List UInt8):((q2h s).map List.length).sum<=s.length:=by
 have h:=z8u s.length s 0 Zl;rw[q2h,List.map_map];exact h
def szW(W:List Wd):Nat:=(W.map fun x=>x.length+1).sum
theorem k4z(a b:List Wd):szW (a++b)=szW a+szW b:=by simp[szW]
theorem q2d(x:Wd)(b:List Wd):szW (x::b)=x.length+1+szW b:=by simp[szW]
theorem z9m:∀W:List Wd,W.length<=szW W
 | []=>Nat.zero_le _
 | x::r=>by have:=z9m r;rw[q2d,List.length_cons];omega
theorem v9y:∀W:List Wd,(jb W).length<=szW W
 | []=>Nat.zero_le _
 | x::r=>by
  have:=v9y r
  rw[q2d];cases r with
  | nil=>simp[jb];omega
  | cons y r=>
   have e:jb (x::y::r)=x++32::jb (y::r):=by simp[jb]
   rw[e,List.length_append,List.length_cons];omega
theorem z3x:∀(l cur:Wd),szW (Lib.fieldsGo cur l)<=2*(cur.length+l.length)
 | [],cur=>by
  cases cur with
  | nil=>simp[Lib.fieldsGo,szW]
  | cons a z=>simp[Lib.fieldsGo,szW];omega
 | c::l,cur=>by
  cases hs:Lib.isSp c with
  | true=>
   have ih:=z3x l [];cases cur with
   | nil=>
    rw[Lib.fieldsGo_sp _ _ hs];simp only[List.length_nil,List.length_cons]at ih⊢;omega
   | cons a z=>
    rw[Lib.fieldsGo_end _ _ _ hs (by simp),q2d];simp only[List.length_nil,List.length_cons]at ih⊢;omega
  | false=>
   have ih:=z3x l (cur++[c]);rw[Lib.fieldsGo_more _ _ _ hs];simp only[List.length_append,List.length_cons,List.length_nil]at ih⊢;omega
theorem y4b(w:Wd):szW (q9u w)<=2*w.length:=by
 have:=z3x (w.drop 1) []
 rw[List.length_drop]at this;simp only[List.length_nil]at this;show szW (Lib.fieldsGo [] (w.drop 1))<=_;omega
theorem j3z:∀nts:List Wd,szW (nts.flatMap q9u)<=2*(nts.map List.length).sum
 | []=>Nat.zero_le _
 | x::r=>by
  have h1:=j3z r;have h2:=y4b x;rw[List.flatMap_cons,k4z,List.map_cons,List.sum_cons];omega
theorem v4x(ws:List Wd)(p k:Nat):(((ws.drop p).take k).map List.length).sum<=(ws.map List.length).sum:=by
 have e:ws=ws.take p++((ws.drop p).take k++(ws.drop p).drop k):=by rw[List.take_append_drop,List.take_append_drop]
 have h:=congrArg (fun l=>(l.map List.length).sum) e;simp only[List.map_append,List.sum_append]at h;omega
theorem j8u:∀W:List Wd,(∀w∈W,w.length<=20)->szW W<=21*W.length
 | [],_=>Nat.le_refl _
 | x::r,h=>by
  have h1:=j8u r fun w hw=>h w (by simp[hw])
  have h2:=h x (by simp);rw[q2d,List.length_cons];omega
theorem z9a{tx:ByteArray}(h:q2u tx=0):Lib.fields (btL tx)=q0e (btL tx)/\(btL tx).length<=2000/\∀b∈btL tx,b.toNat<128:=by
 obtain⟨h1,h2⟩:=j7e h;by_cases hne:btL tx=[]
 ·rw[hne];exact⟨rfl,by simp,fun b hb=>by cases hb⟩
 ·have e2:q0e (btL tx)=q5j (btL tx):=by rw[q0e,if_neg hne]
  rw[e2]at h1 h2⊢;have hj:=j4j (btL tx)
  have hpr:∀b∈btL tx,prB b=true:=by
   intro b hb;rw[<-hj]at hb;refine k6j (p:=prB) rfl (q5j (btL tx)) (fun w hw b hb=>?_) b hb;have h3:=(h2 w hw).2.2 b hb;simp only[q8f,Bool.and_eq_true,decide_eq_true_eq]at h3;simp only[prB,Bool.and_eq_true,decide_eq_true_eq];omega
  refine⟨?_,?_,fun b hb=>?_⟩
  ·rw[z1p fun b hb hs=>y5d (hpr b hb) hs,List.filter_eq_self];intro w hw
   have:=(h2 w hw).1
   cases w with
   | nil=>exact absurd rfl this
   | cons=>rfl
  ·have q1:=v9y (q5j (btL tx));have q2:=j8u (q5j (btL tx)) fun w hw=>(h2 w hw).2.1
   rw[hj]at q1;omega
  ·have:=hpr b hb
   simp only[prB,Bool.and_eq_true,decide_eq_true_eq]at this;omega
theorem k3y{tx:ByteArray}(h:q2u tx=0)(w:World)(ht:z5t w):Calls prog 103 #[.string tx] w fun e w'=>(∃g,e=.returned (.slice (some ⟨g,0,none⟩) (q0e (btL tx)).length (q0e (btL tx)).length)/\Wds w' (some ⟨g,0,none⟩) ((q0e (btL tx)).map wbS))/\Below w w w':=by
 obtain⟨h1,h2,h3⟩:=z9a h;rw[<-h1];rw[q0c]at h2;refine(fields_sh tx w (by omega) (fun j c hj=>h3 c (List.mem_of_getElem? hj)) ht.spc).mono ?_;rintro e w'⟨rfl,rfl⟩;refine⟨⟨w.heap.size,rfl,?_⟩,q3p w _⟩;intro i hi;have hi2:i<(Lib.fields (btL tx)).length:=by simpa using hi
 refine⟨w.heap.size,0,rfl,by rw[World.size_alloc];omega,?_⟩;rw[Nat.zero_add];have hk:=heap_alloc_new w (.cells ((Lib.fields (btL tx)).map fun l=>Value.string ⟨l.toArray⟩).toArray 9);rw[Lib.cell_of_heap hk]
 show((Lib.fields (btL tx)).map fun l=>Value.string ⟨l.toArray⟩).toArray[i]?=_
 rw[List.getElem?_toArray,List.getElem?_map,show(Lib.fields (btL tx))[i]?=some (Lib.fields (btL tx))[i]from List.getElem?_eq_getElem hi2];simp[wbS]
theorem z4o{t:List Td}{a:Option Addr}{w:World}(h:q0b t=0)(hN:Tds w a t):0<t.length/\∃b o,a=some ↑(b,o)/\b<w.heap.size/\w.cell? ↑(b,o)=some ↑(opT t)/\w.cell? ↑(b,o+1)=some (.string (txT t)):=by
 have hpos:=z1a h;obtain⟨b,o,e,hb,c1,c2,_⟩:=hN 0 hpos;refine⟨hpos,b,o,e,hb,?_,?_⟩
 ·rw[z4n hpos];simpa using c1
 ·cases t with
  | nil=>simp at hpos
  | cons x r=>simpa[txT]using c2
theorem z4i{b o cap n:Nat}{op:Int}{w:World}(hn:0<n)(h:w.cell? (b,o)=some ↑op):Calls prog 46 #[.slice (some ↑(b,o)) n cap] w fun e w'=>e=.returned (.bool (op==9))/\w=w':=by
 have hpi:(0:Int)<(n:Int):=by omega
 go_in;go_wp2;go_ret;exact⟨rfl,rfl⟩
theorem k9d(t:List Td)(a:Option Addr)(cap:Nat)(w:World)(ht:j1h w)(hc:t.length<=cap)(hN:Tds w a t)(hsz:j1b t):Calls prog 18 #[.slice a t.length cap] w fun e w'=>z3f t e w'/\Below w w w':=by
 have HC:Hid (Calls prog 29 #[.slice a t.length cap] w fun e w'=>e=.returned (q1y (q0b t))/\Below w w w'):=q7c t a cap w hc hN hsz;have HN:Hid (Tds w a t):=hN;have HT:Hid (j1h w):=ht;clear hN hsz ht;by_cases h0:q0b t=0
 ·obtain⟨hpos,b,o,rfl,hb,c1,c2⟩:=z4o h0 HN.o;have HI:Hid (∀W:World,Below w w W->Calls prog 46 #[.slice (some ↑(b,o)) t.length cap] W fun e w'=>e=.returned (.bool (opT t==9))/\W=w'):=fun W h=>z4i hpos (((q1v h).1 _ _ hb).trans c1)
  rw[h0]at HC;clear c1 c2;by_cases h9:opT t=9
  ·obtain⟨e1,e2,_,_⟩:=z8p h0 h9;have HO:Hid (∀W,z3f t (.returned (.tuple #[.slice none 0 0,q1y 2])) W):=fun W=>⟨none,0,by rw[e1,e2];rfl,by rw[e2];exact fun i hi=>by simp at hi,by rw[e2];exact Nat.le_refl _⟩
   rw[show(opT t==9)=true by simp[h9]]at HI;clear h0 h9 e1 e2;go_in;go_wp2_with fail;refine HC.o.mono ?_;rintro e w1⟨rfl,b1⟩;rw[q1m];have HB1:Hid (Below w w w1):=b1;clear b1;go_wp2_with fail;refine(HI.o _ HB1.o).mono ?_;rintro e w2⟨rfl,rfl⟩;go_wp2;go_ret2;exact⟨HO.o _,HB1.o⟩
  ·have HLD:Hid (∀W:World,Below w w W->Calls prog 47 #[.slice (some ↑(b,o)) t.length cap] W fun e w'=>(∃A c,e=.returned (.tuple #[.slice A (q8o t).length c,q1y (q9a t)])/\q1u w' A (q8o t)/\(q8o t).length<=c)/\Below W W w'):=fun W h=>j5i t _ cap W (HT.o.below h) h0 h9 hc (HN.o.below h)
   have HO:Hid (∀A c W,q1u W A (q8o t)->(q8o t).length<=c->z3f t (.returned (.tuple #[.slice A (q8o t).length c,q1y (q9a t)])) W):=fun A c W h h2=>⟨A,c,rfl,h,h2⟩
   rw[show(opT t==9)=false by simp[h9]]at HI;generalize q8o t=xs at HLD HO;generalize q1y (q9a t)=er at HLD HO;clear h0 h9;go_in;go_wp2_with fail;refine HC.o.mono ?_;rintro e w1⟨rfl,b1⟩;rw[q1m];have HB1:Hid (Below w w w1):=b1;clear b1;go_wp2_with fail;refine(HI.o _ HB1.o).mono ?_;rintro e w2⟨rfl,rfl⟩;go_wp2_with fail;refine(HLD.o _ HB1.o).mono ?_;rintro e w3⟨⟨A,c,rfl,hO,hl⟩,b3⟩;have HB3:Hid (Below w w w3):=q0d HB1.o Zl b3;have HN3:=(show Hid (_)from HO.o A c w3 hO hl);clear hO hl b3;generalize xs.length=nx at HN3⊢;go_wp2;go_ret2;exact⟨HN3.o,HB3.o⟩
 ·obtain⟨e1,e2,_,_⟩:=j4r h0;have HE:Hid (q1y (q0b t)=.iface 23 (q0b t)):=q0w h0;have HO:Hid (∀W,z3f t (.returned (.tuple #[.slice none 0 0,q1y (q0b t)])) W):=fun W=>⟨none,0,by rw[e1,e2];rfl,by rw[e2];exact fun i hi=>by simp at hi,by rw[e2];exact Nat.le_refl _⟩
  clear e1 e2 h0;go_in;go_wp2_with fail;refine HC.o.mono ?_;rintro e w1⟨rfl,b1⟩;rw[HE.o];go_wp2;go_ret2;exact⟨by have:=HO.o w1;rw[HE.o]at this;exact this,b1⟩
theorem k4i{t:List Td}(h:q0b t=0)(h9:opT t=9):q2u (txT t)=0:=by
 rcases z9j h with⟨x,rfl,_,_,hf⟩|⟨x,F,rfl,_,_,_,hx⟩
 ·exact hf
 ·exfalso;have e:opT (x::F.nodes)=x.op:=rfl;rcases hx with⟨ho,_⟩|⟨ho,_⟩<;>omega
theorem k3w(t:List Td)(a:Option Addr)(cap:Nat)(w:World)(ht:z5t w)(hc:t.length<=cap)(hN:Tds w a t)(hsz:j1b t):Calls prog 68 #[.slice a t.length cap] w fun e w'=>z7s t e w'/\Below w w w':=by
 have HC:Hid (Calls prog 29 #[.slice a t.length cap] w fun e w'=>e=.returned (q1y (q0b t))/\Below w w w'):=q7c t a cap w hc hN hsz;have HN:Hid (Tds w a t):=hN;have HT:Hid (z5t w):=ht;clear hN hsz ht;by_cases h0:q0b t=0
 ·obtain⟨hpos,b,o,rfl,hb,c1,c2⟩:=z4o h0 HN.o;have HI:Hid (∀W:World,Below w w W->Calls prog 46 #[.slice (some ↑(b,o)) t.length cap] W fun e w'=>e=.returned (.bool (opT t==9))/\W=w'):=fun W h=>z4i hpos (((q1v h).1 _ _ hb).trans c1)
  have HCE:Hid (∀W:World,Below w w W->W.cell? (b,o+1)=some (.string (txT t))):=fun W h=>((q1v h).1 _ _ hb).trans c2
  rw[h0]at HC;have hpi:(0:Int)<(t.length:Int):=by omega
  clear c1 c2;by_cases h9:opT t=9
  ·obtain⟨_,_,e1,e2⟩:=z8p h0 h9;have hnf:=k4i h0 h9;have htz:(txT t).size<=2000:=by rw[<-q0c];exact(z9a hnf).2.1
   have HCL:Hid (∀W:World,Calls prog 78 #[.string (txT t)] W fun e w'=>e=.returned (.string (txT t))/\Below W W w'):=fun W=>q8n _ W (by omega)
   have HNW:Hid (∀W:World,Below w w W->Calls prog 103 #[.string (txT t)] W fun e w'=>(∃g,e=.returned (.slice (some ⟨g,0,none⟩) (q0e (btL (txT t))).length (q0e (btL (txT t))).length)/\Wds w' (some ⟨g,0,none⟩) ((q0e (btL (txT t))).map wbS))/\Below W W w'):=fun W h=>k3y hnf W (HT.o.below h)
   have HO:Hid (∀A c W,Wds W A ((q0e (btL (txT t))).map wbS)->(q0e (btL (txT t))).length<=c->z7s t (.returned (.tuple #[.slice A (q0e (btL (txT t))).length c,q1y 0])) W):=fun A c W h h2=>⟨A,c,by rw[e1,e2,List.length_map],by rw[e2];exact h,by rw[e2,List.length_map];exact h2⟩
   rw[show(opT t==9)=true by simp[h9]]at HI;generalize q0e (btL (txT t))=ws at HNW HO;generalize txT t=tx at HNW HCE HCL;clear h0 h9 e1 e2 htz hnf;go_in;go_wp2_with fail;refine HC.o.mono ?_;rintro e w1⟨rfl,b1⟩;rw[q1m];have c2:=HCE.o w1 b1;have HB1:Hid (Below w w w1):=b1;clear b1;go_wp2_with fail;refine(HI.o _ HB1.o).mono ?_;rintro e w2⟨rfl,rfl⟩;go_wp2_with fail;refine(HCL.o _).mono ?_;rintro e w3⟨rfl,b3⟩;have HB3:Hid (Below w w w3):=q0d HB1.o Zl b3;clear b3;go_wp2_with fail;refine(HNW.o _ HB3.o).mono ?_;rintro e w4⟨⟨g,rfl,hS⟩,b4⟩;have HB4:Hid (Below w w w4):=q0d HB3.o Zl b4;have HN4:=(show Hid (_)from HO.o _ ws.length w4 hS Zl);clear hS b4 c2;generalize ws.length=nw at HN4⊢;go_wp2;go_ret2;exact⟨HN4.o,HB4.o⟩
  ·have HO:Hid (∀W,z7s t (.returned (.tuple #[.slice none 0 0,q1y 2])) W):=fun W=>by
    have e1:k2u t=2:=by rw[k2u,if_neg (by simp[h0]),if_neg h9]
    have e2:k9e t=[]:=by rw[k9e,if_neg (by rw[e1];decide)]
    exact⟨none,0,by rw[e1,e2];rfl,by rw[e2];exact fun i hi=>by simp at hi,by rw[e2];exact Nat.le_refl _⟩
   rw[show(opT t==9)=false by simp[h9]]at HI;clear h0 h9 HCE;go_in;go_wp2_with fail;refine HC.o.mono ?_;rintro e w1⟨rfl,b1⟩;rw[q1m];have HB1:Hid (Below w w w1):=b1;clear b1;go_wp2_with fail;refine(HI.o _ HB1.o).mono ?_;rintro e w2⟨rfl,rfl⟩;go_wp2;go_ret2;exact⟨HO.o _,HB1.o⟩
 ·obtain⟨_,_,e1,e2⟩:=j4r h0;have HE:Hid (q1y (q0b t)=.iface 23 (q0b t)):=q0w h0;have HO:Hid (∀W,z7s t (.returned (.tuple #[.slice none 0 0,q1y (q0b t)])) W):=fun W=>⟨none,0,by rw[e1,e2];rfl,by rw[e2];exact fun i hi=>by simp at hi,by rw[e2];exact Nat.le_refl _⟩
  clear e1 e2 h0;go_in;go_wp2_with fail;refine HC.o.mono ?_;rintro e w1⟨rfl,b1⟩;rw[HE.o];go_wp2;go_ret2;exact⟨by have:=HO.o w1;rw[HE.o]at this;exact this,b1⟩
end Go.Proofs.YthjapabokcajhaaGreatDoor
