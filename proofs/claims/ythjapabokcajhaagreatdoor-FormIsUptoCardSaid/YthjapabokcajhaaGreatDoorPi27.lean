/- Texts as one: LayL, LayT, LayS. -/
import Derived.Test.YthjapabokcajhaaGreatDoorPi26
open Go.Proofs.Tryz
namespace Go.Proofs.YthjapabokcajhaaGreatDoor
open Go Go.RowKit
set_option maxRecDepth 100000
set_option maxHeartbeats 2000000
def DcH(ds:List Td)(a:Option Addr)(cap:Nat)(F:Fo)(D:Tr):Prop:=∀i r,ds.drop i=F.nodes++r->∀W:World,Tds W a ds->y2o ds a cap i D W
def DcA(ds:List Td)(a:Option Addr)(cap:Nat):Fo->Prop
 | .nil=>True
 | .cons x k n=>DcH ds a cap (.cons x k n) (q0l x k.dcs)/\DcA ds a cap n
def j1a(w:World)(b:Nat)(o:Int)(t:ByteArray)(n:Int):Prop:=b<w.heap.size/\w.cell? ⟨b,0,none⟩=some (.int .i64 o)/\w.cell? ⟨b,1,none⟩=some (.string t)/\w.cell? ⟨b,2,none⟩=some (.int .i64 n)
theorem j1a.below{w w':World}{b:Nat}{o:Int}{t:ByteArray}{n:Int}(h:j1a w b o t n)(hb:Below w w w'):j1a w' b o t n:=by
 obtain⟨h0,h1,h2,h3⟩:=h
 have:=hb.size
 exact⟨by omega,((q1v hb).1 _ _ h0).trans h1,((q1v hb).1 _ _ h0).trans h2,((q1v hb).1 _ _ h0).trans h3⟩
theorem j1a.new(w:World)(o:Int)(t:ByteArray)(n:Int)(ty:TypeId):j1a (w.alloc (.cells #[.int .i64 o,.string t,.int .i64 n] ty)) w.heap.size o t n:=by
 have h1:(w.alloc (.cells #[.int .i64 o,.string t,.int .i64 n] ty)).heap[w.heap.size]?=some (.cells #[.int .i64 o,.string t,.int .i64 n] ty (0,0)):=by
  show(w.heap.push _)[w.heap.size]?=_
  simp
 have h2:∀k,(w.alloc (.cells #[.int .i64 o,.string t,.int .i64 n] ty)).cell? ⟨w.heap.size,k,none⟩=(match (w.alloc (.cells #[.int .i64 o,.string t,.int .i64 n] ty)).heap[w.heap.size]? with
  | some (.cells c _ _)=>c[k]?
  | _=>none):=fun _=>rfl
 exact⟨by rw[World.size_alloc];omega,by rw[h2,h1];rfl,by rw[h2,h1];rfl,by rw[h2,h1];rfl⟩
structure q0y(W:World)(x:Td)(w:World):Prop where
 b:Below W W w
 n:j1a w W.heap.size x.op x.tx x.n
 bl:NdV w (.slice (some ⟨W.heap.size+1,0,none⟩) 1 1) [⟨2,⟨#[]⟩,0⟩]
 sf:NdV w (.slice (some ⟨W.heap.size+1+1,0,none⟩) 1 1) [⟨3,⟨#[]⟩,0⟩]
 gr:j1a w (W.heap.size+1+1+1) 8 ⟨#[]⟩ 0
 dp:j1a w (W.heap.size+1+1+1+1) 7 ⟨#[]⟩ 2
theorem q0y.below{W:World}{x:Td}{w w':World}(h:q0y W x w)(hb:Below w w w'):q0y W x w':=
 ⟨q0d h.b Zl hb,h.n.below hb,h.bl.below hb,h.sf.below hb,h.gr.below hb,h.dp.below hb⟩
abbrev dcW(W:World)(o:Int)(t:ByteArray)(n:Int):World:=((((W.alloc (.cells #[.int .i64 o,.string t,.int .i64 n] 47)).alloc (.cells #[.int .i64 2,.string ⟨#[]⟩,.int .i64 0] 107)).alloc (.cells #[.int .i64 3,.string ⟨#[]⟩,.int .i64 0] 107)).alloc (.cells #[.int .i64 8,.string ⟨#[]⟩,.int .i64 0] 107)).alloc (.cells #[.int .i64 7,.string ⟨#[]⟩,.int .i64 2] 107)
theorem z6f(W:World)(x:Td):q0y W x (dcW W x.op x.tx x.n):=by
 have s:∀(w:World)(O:Obj),Below w w (w.alloc O):=fun w O=>(Below.refl _ w).alloc Zl O
 have hn:=((((j1a.new W x.op x.tx x.n 47).below (s _ (.cells #[.int .i64 2,.string ⟨#[]⟩,.int .i64 0] 107))).below (s _ (.cells #[.int .i64 3,.string ⟨#[]⟩,.int .i64 0] 107))).below (s _ (.cells #[.int .i64 8,.string ⟨#[]⟩,.int .i64 0] 107))).below (s _ (.cells #[.int .i64 7,.string ⟨#[]⟩,.int .i64 2] 107));generalize hO:Obj.cells #[.int .i64 x.op,.string x.tx,.int .i64 x.n] 47=O at hn;have z1:(W.alloc O).heap.size=W.heap.size+1:=World.size_alloc _ _;have bl:=(q7k.one (W.alloc O) ⟨2,⟨#[]⟩,0⟩).val;have z2:((W.alloc O).alloc (.cells #[.int .i64 2,.string ⟨#[]⟩,.int .i64 0] 107)).heap.size=W.heap.size+1+1:=by rw[World.size_alloc,z1]
 rw[z1]at bl;have bl3:=((bl.below (s _ (.cells #[.int .i64 3,.string ⟨#[]⟩,.int .i64 0] 107))).below (s _ (.cells #[.int .i64 8,.string ⟨#[]⟩,.int .i64 0] 107))).below (s _ (.cells #[.int .i64 7,.string ⟨#[]⟩,.int .i64 2] 107));have sf:=(q7k.one ((W.alloc O).alloc (.cells #[.int .i64 2,.string ⟨#[]⟩,.int .i64 0] 107)) ⟨3,⟨#[]⟩,0⟩).val;rw[z2]at sf;have z3:(((W.alloc O).alloc (.cells #[.int .i64 2,.string ⟨#[]⟩,.int .i64 0] 107)).alloc (.cells #[.int .i64 3,.string ⟨#[]⟩,.int .i64 0] 107)).heap.size=W.heap.size+1+1+1:=by rw[World.size_alloc,z2]
 have sf2:=(sf.below (s _ (.cells #[.int .i64 8,.string ⟨#[]⟩,.int .i64 0] 107))).below (s _ (.cells #[.int .i64 7,.string ⟨#[]⟩,.int .i64 2] 107));have gr:=j1a.new (((W.alloc O).alloc (.cells #[.int .i64 2,.string ⟨#[]⟩,.int .i64 0] 107)).alloc (.cells #[.int .i64 3,.string ⟨#[]⟩,.int .i64 0] 107)) 8 ⟨#[]⟩ 0 107;rw[z3]at gr;have z4:((((W.alloc O).alloc (.cells #[.int .i64 2,.string ⟨#[]⟩,.int .i64 0] 107)).alloc (.cells #[.int .i64 3,.string ⟨#[]⟩,.int .i64 0] 107)).alloc (.cells #[.int .i64 8,.string ⟨#[]⟩,.int .i64 0] 107)).heap.size=W.heap.size+1+1+1+1:=by rw[World.size_alloc,z3]
 have dp:=j1a.new ((((W.alloc O).alloc (.cells #[.int .i64 2,.string ⟨#[]⟩,.int .i64 0] 107)).alloc (.cells #[.int .i64 3,.string ⟨#[]⟩,.int .i64 0] 107)).alloc (.cells #[.int .i64 8,.string ⟨#[]⟩,.int .i64 0] 107)) 7 ⟨#[]⟩ 2 107;rw[z4]at dp
 have bb:Below W W (dcW W x.op x.tx x.n):=by
  refine(((((Below.refl _ W).alloc Zl _).alloc ?_ _).alloc ?_ _).alloc ?_ _).alloc ?_ _<;>simp only[World.size_alloc]<;>omega
 subst hO;exact⟨bb,hn,bl3,sf2,gr.below (s _ _),dp⟩
theorem k5w{ds:List Td}{a:Option Addr}{cap:Nat}(hs:v8m ds){x:Td}{k n:Fo}(hok:(Fo.cons x k n).ok)(hx:exN x)(h2:x.op=1\/x.op=2):DcH ds a cap (.cons x k n) (q0l x k.dcs):=by
 intro i r hi W hN;obtain⟨hp,e1,_,_,_⟩:=k8v hi hok;obtain⟨b,o,rfl,hb,c1,c2,c3⟩:=hN i hp;have hl:=hs.l;have hii:(i:Int)<(ds.length:Int):=by omega
 rw[e1]at c1 c2 c3;have HPR:Hid (q0y W x (dcW W x.op x.tx x.n)):=z6f W x;obtain⟨xo,xt,xn⟩:=x;simp only at c1 c2 c3 HPR h2;rcases q5a hx with⟨ho,htx,hn0,hn1,_⟩|⟨ho,_,hn2,_⟩|⟨ho,_⟩|⟨ho,_⟩|⟨ho,_⟩|⟨ho,_⟩
 ·simp only at ho hn0 hn1;subst ho;obtain⟨m,rfl⟩:∃m:Nat,xn=(m:Int):=⟨xn.toNat,by omega⟩;have HT:Hid (q0l ⟨1,xt,(m:Int)⟩ k.dcs=wdD (q7l m)):=by show _=_;simp[q0l]
  have hm9:m<=999999:=by omega
  clear e1 hi hok hx h2 htx hn0 hn1 hN;unfold y2o;rw[HT.o];have HD:Hid (∀W:World,Calls prog 58 #[.int .i64 (m:Int)] W fun e w'=>e=.returned (.string (wbS (q7l m)))/\W=w'):=fun W=>v4d m hm9 W
  show Calls _ _ _ _ fun e w'=>NdR W [⟨1,wbS (q7l m),0⟩] e w'
  generalize wbS (q7l m)=T at HD⊢;go_in;go_wp2_with fail;refine(HD.o _).mono ?_;rintro e w2⟨rfl,rfl⟩;go_wp2_with fail;refine(q1b _ _).mono ?_;rintro e w3 h3;have HR:Hid (NdR W [⟨1,T,0⟩] e w3):=h3.from HPR.o.b;obtain⟨v3,rfl,_,_⟩:=h3.val;clear h3;go_wp2;go_ret;exact HR.o
 ·simp only at ho hn2;subst ho hn2;have HT:Hid (q0l ⟨2,xt,0⟩ k.dcs=wdD (btL xt)):=by show _=_;simp[q0l]
  clear e1 hi hok hx h2 hN;unfold y2o;rw[HT.o];show Calls _ _ _ _ fun e w'=>NdR W [⟨1,xt,0⟩] e w'
  go_in;go_wp2_with fail;refine(q1b _ _).mono ?_;rintro e w3 h3;have HR:Hid (NdR W [⟨1,xt,0⟩] e w3):=h3.from HPR.o.b;obtain⟨v3,rfl,_,_⟩:=h3.val;clear h3;go_wp2;go_ret;exact HR.o
 ·simp only at ho;omega
 ·simp only at ho;omega
 ·simp only at ho;omega
 ·simp only at ho;omega
set_option maxHeartbeats 8000000
theorem z2z{ds:List Td}(hs:v8m ds){i:Nat}{F:Fo}{r:List Td}(h:ds.drop i=F.nodes++r):z3e F.dcs<=800:=by
 have h1:=z6g F;have h2:=congrArg List.length h;rw[List.length_drop,List.length_append]at h2
 have:=hs.l
 omega
abbrev Six(W w:World):Prop:=w.cell? ⟨W.heap.size+1+1+1,0,none⟩=some (.int .i64 8)/\w.cell? ⟨W.heap.size+1+1+1,1,none⟩=some (.string ⟨#[]⟩)/\w.cell? ⟨W.heap.size+1+1+1,2,none⟩=some (.int .i64 0)/\w.cell? ⟨W.heap.size+1+1+1+1,0,none⟩=some (.int .i64 7)/\w.cell? ⟨W.heap.size+1+1+1+1,1,none⟩=some (.string ⟨#[]⟩)/\w.cell? ⟨W.heap.size+1+1+1+1,2,none⟩=some (.int .i64 2)
theorem q0y.six{W:World}{x:Td}{w:World}(h:q0y W x w):Six W w:=⟨h.gr.2.1,h.gr.2.2.1,h.gr.2.2.2,h.dp.2.1,h.dp.2.2.1,h.dp.2.2.2⟩
theorem j3i{ds:List Td}{a:Option Addr}{cap:Nat}(hs:v8m ds){x:Td}{k n:Fo}(hok:(Fo.cons x k n).ok)(hex:(Fo.cons x k n).exs)(h2:x.op=5\/x.op=6)(hk:DcA ds a cap k):DcH ds a cap (.cons x k n) (q0l x k.dcs):=by
 intro i r hi W hN;obtain⟨hp,e1,e2,_,_⟩:=k8v hi hok
 have hkd:kdT x=2:=by
  unfold kdT;rcases h2 with h|h<;>rw[h]<;>rfl
 have hkl:k.len=2:=hok.1.trans hkd
 obtain⟨xa,ka,xb,kb,rfl⟩:∃xa ka xb kb,k=.cons xa ka (.cons xb kb .nil):=by
  match k,hkl with
  | .cons xa ka (.cons xb kb .nil),_=>exact⟨xa,ka,xb,kb,rfl⟩
 have htr:(Fo.cons xa ka (.cons xb kb .nil)).dcs=[(xa,q0l xa ka.dcs),(xb,q0l xb kb.dcs)]:=rfl;have hz:=z2z hs e2;rw[htr,q2f,q2f]at hz;obtain⟨hpa,ea,_,ena,eda⟩:=k8v e2 hok.2.1;obtain⟨hpb,eb,_,_,_⟩:=k8v eda hok.2.1.2.2;generalize hj:i+1+1+ka.nodes.length=j at ena eda hpb eb;have HN:Hid (Tds W a ds):=hN;have hl:=hs.l;have hza:(q0l xa ka.dcs).nodes.length<=800:=by simp only at hz;omega
 have hzb:(q0l xb kb.dcs).nodes.length<=800:=by simp only at hz;omega
 have HK1:Hid (∀W':World,Below W W W'->Calls prog 59 #[.slice a ds.length cap,.int .i64 (i:Int),.int .i64 ((i:Int)+1),.bool false] W' fun e w'=>NdR W' (inD (lvl x.op false) xa (q0l xa ka.dcs)).nodes e w'):=fun W' hb=>by
  have h:=z6p W' (hN.below hb) hp hpa (by rw[e1];exact h2) false (q0l xa ka.dcs) (by omega) (hk.1 (i+1) _ e2 W' (hN.below hb)) (cap:=cap);rw[e1,ea,show((i+1:Nat):Int)=(i:Int)+1 by omega]at h;exact h
 have HEN:Hid (∀W':World,Below W W W'->Calls prog 24 #[.slice a ds.length cap,.int .i64 ((i:Int)+1)] W' fun e w'=>e=.returned (.int .i64 (j:Int))/\Below W' W' w'):=fun W' hb=>by
  have h:=k5y (cap:=cap) hs ena hpa W' (hN.below hb);rw[show((i+1:Nat):Int)=(i:Int)+1 by omega]at h;exact h
 have HK2:Hid (∀W':World,Below W W W'->Calls prog 59 #[.slice a ds.length cap,.int .i64 (i:Int),.int .i64 (j:Int),.bool true] W' fun e w'=>NdR W' (inD (lvl x.op true) xb (q0l xb kb.dcs)).nodes e w'):=fun W' hb=>by
  have h:=z6p W' (hN.below hb) hp hpb (by rw[e1];exact h2) true (q0l xb kb.dcs) (by omega) (hk.2.1 j _ eda W' (hN.below hb)) (cap:=cap);rw[e1,eb]at h;exact h
 have hna:=k9k (lvl x.op false) xa (q0l xa ka.dcs);have hnb:=k9k (lvl x.op true) xb (q0l xb kb.dcs)
 have HDC:Hid ((q0l x [(xa,q0l xa ka.dcs),(xb,q0l xb kb.dcs)]).nodes=⟨8,⟨#[]⟩,0⟩::(⟨6,⟨#[]⟩,0⟩::((inD (lvl x.op false) xa (q0l xa ka.dcs)).nodes++(⟨7,⟨#[]⟩,2⟩::(⟨6,⟨#[]⟩,0⟩::([⟨2,⟨#[]⟩,0⟩]++(⟨6,⟨#[]⟩,0⟩::([⟨1,(if x.op=5 then⟨#[43,32]⟩else⟨#[42,32]⟩),0⟩]++(inD (lvl x.op true) xb (q0l xb kb.dcs)).nodes)))))))):=by
  show _=_;rcases h2 with h|h
  ·rw[if_pos h];simp[q0l,h,tw2,lvl,Tr.nodes];rfl
  ·rw[if_neg (by omega)];simp[q0l,h,tw2,lvl,Tr.nodes];rfl
 obtain⟨b,o,rfl,hb,c1,c2,c3⟩:=hN i hp;have hii:(i:Int)<(ds.length:Int):=by omega
 rw[e1]at c1 c2 c3;have HPR:Hid (q0y W x (dcW W x.op x.tx x.n)):=z6f W x;unfold y2o;rw[htr,HDC.o]
 generalize(inD (lvl x.op false) xa (q0l xa ka.dcs)).nodes=ls at HK1 hna⊢
 generalize(inD (lvl x.op true) xb (q0l xb kb.dcs)).nodes=rs at HK2 hnb⊢
 have hx:=q5a (hex x (by simp[Fo.nodes]));clear hN e1 e2 hi hok hex hk hj htr hz ena eda ea eb HDC hkd hkl;obtain⟨xo,xt,xn⟩:=x;simp only at c1 c2 c3 HPR h2 hx hna hnb⊢
 have hx0:xt=⟨#[]⟩/\xn=0:=by
  rcases hx with⟨ho,_⟩|⟨ho,_⟩|⟨ho,_⟩|⟨ho,_⟩|⟨_,h1,h3,_⟩|⟨_,h1,h3,_⟩
  ·omega
  ·omega
  ·omega
  ·omega
  ·exact⟨h1,h3⟩
  ·exact⟨h1,h3⟩
 obtain⟨rfl,rfl⟩:=hx0;clear hx;rcases h2 with rfl|rfl
 ·simp only[if_true];go_in;go_wp2_with fail;have HPR2:=(show Hid (q0y W ⟨5,⟨#[]⟩,0⟩ (dcW W 5 ⟨#[]⟩ 0))from HPR.o);clear HPR;refine(HK1.o _ HPR2.o.b).mono ?_;rintro e w1 h1;obtain⟨v1,rfl,n1,b1⟩:=h1.val;have HP1:Hid (q0y W ⟨5,⟨#[]⟩,0⟩ w1):=HPR2.o.below b1;have HV1:Hid (NdV w1 v1 ls):=n1;clear h1 n1 b1 HPR2;go_wp2_with fail;refine(HEN.o _ HP1.o.b).mono ?_;rintro e w2⟨rfl,b2⟩;have HP2:Hid (q0y W ⟨5,⟨#[]⟩,0⟩ w2):=HP1.o.below b2;have HV2:Hid (NdV w2 v1 ls):=HV1.o.below b2;clear b2 HP1 HV1;go_wp2_with fail;refine(HK2.o _ HP2.o.b).mono ?_;rintro e w3 h3;obtain⟨v3,rfl,n3,b3⟩:=h3.val;have HP3:Hid (q0y W ⟨5,⟨#[]⟩,0⟩ w3):=HP2.o.below b3;have HA3:Hid (NdV w3 v1 ls):=HV2.o.below b3;have HB3:Hid (NdV w3 v3 rs):=n3;have SK3:Hid (Six W w3):=HP3.o.six;have SKD:Hid (Six W w3.drew):=HP3.o.six;have HD0:Hid (Below w3 w3 w3.drew):= Zb.drew;clear h3 n3 b3 HP2 HV2 HK1 HK2 HEN HN;go_wp2_with fail
  go_region_held3 (fun w'=>Six W w') (first|with_reducible exact SKD.o|with_reducible exact SK3.o|with_reducible exact SK4.o|with_reducible exact SK5.o|with_reducible exact SK6.o|with_reducible exact SK7.o|with_reducible exact SK8.o|with_reducible exact SK9.o)
   (first
     | (go_at_call 60;refine((q2g ⟨8,⟨#[]⟩,0⟩ (w8) HF8.o (by simp<;>omega))).mono ?_;rintro e w9 h9;have HR9:Hid (NdR W (⟨8,⟨#[]⟩,0⟩::(⟨6,⟨#[]⟩,0⟩::(ls++(⟨7,⟨#[]⟩,2⟩::(⟨6,⟨#[]⟩,0⟩::([⟨2,⟨#[]⟩,0⟩]++(⟨6,⟨#[]⟩,0⟩::([⟨1,⟨#[43,32]⟩,0⟩]++rs)))))))) e w9):=h9.from HP8.o.b;obtain⟨v9,rfl,n9,b9⟩:=h9.val;have HP9:Hid (q0y W ⟨5,⟨#[]⟩,0⟩ w9):=HP8.o.below b9;have SK9:Hid (Six W w9):=HP9.o.six;clear h9 n9 b9)
     | (go_at_call 61;refine((q0p (w7) HA7.o HE7.o (by simp<;>omega))).mono ?_;rintro e w8 h8;obtain⟨v8,rfl,n8,b8⟩:=h8.val;have HP8:Hid (q0y W ⟨5,⟨#[]⟩,0⟩ w8):=HP7.o.below b8;have SK8:Hid (Six W w8):=HP8.o.six;have HF8:Hid (NdV w8 v8 (⟨6,⟨#[]⟩,0⟩::(ls++(⟨7,⟨#[]⟩,2⟩::(⟨6,⟨#[]⟩,0⟩::([⟨2,⟨#[]⟩,0⟩]++(⟨6,⟨#[]⟩,0⟩::([⟨1,⟨#[43,32]⟩,0⟩]++rs)))))))):=n8;clear h8 n8 b8)
     | (go_at_call 60;refine((q2g ⟨7,⟨#[]⟩,2⟩ (w6) HD6.o (by simp<;>omega))).mono ?_;rintro e w7 h7;obtain⟨v7,rfl,n7,b7⟩:=h7.val;have HP7:Hid (q0y W ⟨5,⟨#[]⟩,0⟩ w7):=HP6.o.below b7;have SK7:Hid (Six W w7):=HP7.o.six;have HA7:Hid (NdV w7 v1 (ls)):=HA6.o.below b7;have HE7:Hid (NdV w7 v7 (⟨7,⟨#[]⟩,2⟩::(⟨6,⟨#[]⟩,0⟩::([⟨2,⟨#[]⟩,0⟩]++(⟨6,⟨#[]⟩,0⟩::([⟨1,⟨#[43,32]⟩,0⟩]++rs)))))):=n7;clear h7 n7 b7)
     | (go_at_call 61;refine((q0p (w5) HP5.o.bl HC5.o (by simp<;>omega))).mono ?_;rintro e w6 h6;obtain⟨v6,rfl,n6,b6⟩:=h6.val;have HP6:Hid (q0y W ⟨5,⟨#[]⟩,0⟩ w6):=HP5.o.below b6;have SK6:Hid (Six W w6):=HP6.o.six;have HA6:Hid (NdV w6 v1 (ls)):=HA5.o.below b6;have HD6:Hid (NdV w6 v6 (⟨6,⟨#[]⟩,0⟩::([⟨2,⟨#[]⟩,0⟩]++(⟨6,⟨#[]⟩,0⟩::([⟨1,⟨#[43,32]⟩,0⟩]++rs))))):=n6;clear h6 n6 b6)
     | (go_at_call 61;refine((q0p (w4) HS4.o HB4.o (by simp<;>omega))).mono ?_;rintro e w5 h5;obtain⟨v5,rfl,n5,b5⟩:=h5.val;have HP5:Hid (q0y W ⟨5,⟨#[]⟩,0⟩ w5):=HP4.o.below b5;have SK5:Hid (Six W w5):=HP5.o.six;have HA5:Hid (NdV w5 v1 (ls)):=HA4.o.below b5;have HC5:Hid (NdV w5 v5 (⟨6,⟨#[]⟩,0⟩::([⟨1,⟨#[43,32]⟩,0⟩]++rs))):=n5;clear h5 n5 b5)
     | (go_at_call 57;refine((q1b _ (w3.drew)).mono fun _ _ h=>h.from HD0.o).mono ?_;rintro e w4 h4;obtain⟨v4,rfl,n4,b4⟩:=h4.val;have HP4:Hid (q0y W ⟨5,⟨#[]⟩,0⟩ w4):=HP3.o.below b4;have SK4:Hid (Six W w4):=HP4.o.six;have HA4:Hid (NdV w4 v1 (ls)):=HA3.o.below b4;have HB4:Hid (NdV w4 v3 (rs)):=HB3.o.below b4;have HS4:Hid (NdV w4 v4 ([⟨1,⟨#[43,32]⟩,0⟩])):=n4;clear h4 n4 b4))
  all_goals
   go_wp2;go_ret;exact HR9.o
 ·simp only[show ¬(6:Int)=5 by decide,if_false];go_in;go_wp2_with fail;have HPR2:=(show Hid (q0y W ⟨6,⟨#[]⟩,0⟩ (dcW W 6 ⟨#[]⟩ 0))from HPR.o);clear HPR;refine(HK1.o _ HPR2.o.b).mono ?_;rintro e w1 h1;obtain⟨v1,rfl,n1,b1⟩:=h1.val;have HP1:Hid (q0y W ⟨6,⟨#[]⟩,0⟩ w1):=HPR2.o.below b1;have HV1:Hid (NdV w1 v1 ls):=n1;clear h1 n1 b1 HPR2;go_wp2_with fail;refine(HEN.o _ HP1.o.b).mono ?_;rintro e w2⟨rfl,b2⟩;have HP2:Hid (q0y W ⟨6,⟨#[]⟩,0⟩ w2):=HP1.o.below b2;have HV2:Hid (NdV w2 v1 ls):=HV1.o.below b2;clear b2 HP1 HV1;go_wp2_with fail;refine(HK2.o _ HP2.o.b).mono ?_;rintro e w3 h3;obtain⟨v3,rfl,n3,b3⟩:=h3.val;have HP3:Hid (q0y W ⟨6,⟨#[]⟩,0⟩ w3):=HP2.o.below b3;have HA3:Hid (NdV w3 v1 ls):=HV2.o.below b3;have HB3:Hid (NdV w3 v3 rs):=n3;have SK3:Hid (Six W w3):=HP3.o.six;have SKD:Hid (Six W w3.drew):=HP3.o.six;have HD0:Hid (Below w3 w3 w3.drew):= Zb.drew;clear h3 n3 b3 HP2 HV2 HK1 HK2 HEN HN;go_wp2_with fail
  go_region_held3 (fun w'=>Six W w') (first|with_reducible exact SKD.o|with_reducible exact SK3.o|with_reducible exact SK4.o|with_reducible exact SK5.o|with_reducible exact SK6.o|with_reducible exact SK7.o|with_reducible exact SK8.o|with_reducible exact SK9.o)
   (first
     | (go_at_call 60;refine((q2g ⟨8,⟨#[]⟩,0⟩ (w8) HF8.o (by simp<;>omega))).mono ?_;rintro e w9 h9;have HR9:Hid (NdR W (⟨8,⟨#[]⟩,0⟩::(⟨6,⟨#[]⟩,0⟩::(ls++(⟨7,⟨#[]⟩,2⟩::(⟨6,⟨#[]⟩,0⟩::([⟨2,⟨#[]⟩,0⟩]++(⟨6,⟨#[]⟩,0⟩::([⟨1,⟨#[42,32]⟩,0⟩]++rs)))))))) e w9):=h9.from HP8.o.b;obtain⟨v9,rfl,n9,b9⟩:=h9.val;have HP9:Hid (q0y W ⟨6,⟨#[]⟩,0⟩ w9):=HP8.o.below b9;have SK9:Hid (Six W w9):=HP9.o.six;clear h9 n9 b9)
     | (go_at_call 61;refine((q0p (w7) HA7.o HE7.o (by simp<;>omega))).mono ?_;rintro e w8 h8;obtain⟨v8,rfl,n8,b8⟩:=h8.val;have HP8:Hid (q0y W ⟨6,⟨#[]⟩,0⟩ w8):=HP7.o.below b8;have SK8:Hid (Six W w8):=HP8.o.six;have HF8:Hid (NdV w8 v8 (⟨6,⟨#[]⟩,0⟩::(ls++(⟨7,⟨#[]⟩,2⟩::(⟨6,⟨#[]⟩,0⟩::([⟨2,⟨#[]⟩,0⟩]++(⟨6,⟨#[]⟩,0⟩::([⟨1,⟨#[42,32]⟩,0⟩]++rs)))))))):=n8;clear h8 n8 b8)
     | (go_at_call 60;refine((q2g ⟨7,⟨#[]⟩,2⟩ (w6) HD6.o (by simp<;>omega))).mono ?_;rintro e w7 h7;obtain⟨v7,rfl,n7,b7⟩:=h7.val;have HP7:Hid (q0y W ⟨6,⟨#[]⟩,0⟩ w7):=HP6.o.below b7;have SK7:Hid (Six W w7):=HP7.o.six;have HA7:Hid (NdV w7 v1 (ls)):=HA6.o.below b7;have HE7:Hid (NdV w7 v7 (⟨7,⟨#[]⟩,2⟩::(⟨6,⟨#[]⟩,0⟩::([⟨2,⟨#[]⟩,0⟩]++(⟨6,⟨#[]⟩,0⟩::([⟨1,⟨#[42,32]⟩,0⟩]++rs)))))):=n7;clear h7 n7 b7)
     | (go_at_call 61;refine((q0p (w5) HP5.o.bl HC5.o (by simp<;>omega))).mono ?_;rintro e w6 h6;obtain⟨v6,rfl,n6,b6⟩:=h6.val;have HP6:Hid (q0y W ⟨6,⟨#[]⟩,0⟩ w6):=HP5.o.below b6;have SK6:Hid (Six W w6):=HP6.o.six;have HA6:Hid (NdV w6 v1 (ls)):=HA5.o.below b6;have HD6:Hid (NdV w6 v6 (⟨6,⟨#[]⟩,0⟩::([⟨2,⟨#[]⟩,0⟩]++(⟨6,⟨#[]⟩,0⟩::([⟨1,⟨#[42,32]⟩,0⟩]++rs))))):=n6;clear h6 n6 b6)
     | (go_at_call 61;refine((q0p (w4) HS4.o HB4.o (by simp<;>omega))).mono ?_;rintro e w5 h5;obtain⟨v5,rfl,n5,b5⟩:=h5.val;have HP5:Hid (q0y W ⟨6,⟨#[]⟩,0⟩ w5):=HP4.o.below b5;have SK5:Hid (Six W w5):=HP5.o.six;have HA5:Hid (NdV w5 v1 (ls)):=HA4.o.below b5;have HC5:Hid (NdV w5 v5 (⟨6,⟨#[]⟩,0⟩::([⟨1,⟨#[42,32]⟩,0⟩]++rs))):=n5;clear h5 n5 b5)
     | (go_at_call 57;refine((q1b _ (w3.drew)).mono fun _ _ h=>h.from HD0.o).mono ?_;rintro e w4 h4;obtain⟨v4,rfl,n4,b4⟩:=h4.val;have HP4:Hid (q0y W ⟨6,⟨#[]⟩,0⟩ w4):=HP3.o.below b4;have SK4:Hid (Six W w4):=HP4.o.six;have HA4:Hid (NdV w4 v1 (ls)):=HA3.o.below b4;have HB4:Hid (NdV w4 v3 (rs)):=HB3.o.below b4;have HS4:Hid (NdV w4 v4 ([⟨1,⟨#[42,32]⟩,0⟩])):=n4;clear h4 n4 b4))
  all_goals
   go_wp2;go_ret;exact HR9.o
theorem k0t:∀n:Fo,n.len<=n.nodes.length
 | .nil=>Nat.le_refl _
 | .cons x k m=>by
  have:=k0t m
  simp only[Fo.len,Fo.nodes,List.length_cons,List.length_append];omega
theorem z4d{ds:List Td}{a:Option Addr}{cap:Nat}(hs:v8m ds):∀(K:Fo)(pos:Nat)(r:List Td),ds.drop pos=K.nodes++r->K.ok->DcA ds a cap K->K.len≠0->∀W:World,Tds W a ds->
  Calls prog 62 #[.slice a ds.length cap,.int .i64 (pos:Int),.int .i64 (K.len:Int)] W fun e w'=>NdR W (kdD K.dcs).nodes e w'
 | .nil,_,_,_,_,_,h0,_,_=>absurd rfl h0
 | .cons y ky .nil,pos,r,hd,hok,hk,_,W,hN=>by
  have HD:Hid (Calls prog 26 #[.slice a ds.length cap,.int .i64 (pos:Int)] W fun e w'=>NdR W (q0l y ky.dcs).nodes e w'):=hk.1 pos r hd W hN;show Calls prog 62 #[.slice a ds.length cap,.int .i64 (pos:Int),.int .i64 1] W fun e w'=>NdR W (q0l y ky.dcs).nodes e w'
  generalize(q0l y ky.dcs).nodes=xs at HD⊢
  clear hd hok hk hN;go_in;go_wp2_with fail;refine HD.o.mono ?_;rintro e w1 h1;have HR:Hid (NdR W xs e w1):=h1;obtain⟨v1,rfl,_,_⟩:=h1.val;clear h1;go_wp2;go_ret;exact HR.o
 | .cons y ky (.cons z kz n),pos,r,hd,hok,hk,_,W,hN=>by
  have hz:=z2z hs hd;obtain⟨hp,ey,_,ene,edn⟩:=k8v hd hok;generalize hj:pos+1+ky.nodes.length=j at ene edn;have HD:Hid (∀W':World,Below W W W'->Calls prog 26 #[.slice a ds.length cap,.int .i64 (pos:Int)] W' fun e w'=>NdR W' (q0l y ky.dcs).nodes e w'):=fun W' hb=>hk.1 pos r hd W' (hN.below hb)
  have HEN:Hid (∀W':World,Below W W W'->Calls prog 24 #[.slice a ds.length cap,.int .i64 (pos:Int)] W' fun e w'=>e=.returned (.int .i64 (j:Int))/\Below W' W' w'):=fun W' hb=>k5y (cap:=cap) hs ene hp W' (hN.below hb)
  have HKS:Hid (∀W':World,Below W W W'->Calls prog 62 #[.slice a ds.length cap,.int .i64 (j:Int),.int .i64 ((n.len:Int)+1)] W' fun e w'=>NdR W' (kdD (Fo.cons z kz n).dcs).nodes e w'):=fun W' hb=>by
   have h:=z4d hs (.cons z kz n) j r edn hok.2.2 hk.2 (by simp[Fo.len]) W' (hN.below hb);have e:(((Fo.cons z kz n).len:Nat):Int)=(n.len:Int)+1:=by simp[Fo.len]
   rw[e]at h;exact h
  have hln:n.len<=100:=by
   have h6:=congrArg List.length hd;rw[List.length_drop,List.length_append]at h6;have h7:n.nodes.length<=(Fo.cons y ky (.cons z kz n)).nodes.length:=by simp only[Fo.nodes,List.length_cons,List.length_append];omega
   have h8:=k0t n
   have:=hs.l
   omega
  have hzy:(q0l y ky.dcs).nodes.length<=800/\(kdD (Fo.cons z kz n).dcs).nodes.length<=801:=by
   have h1:=k9l (Fo.cons z kz n).dcs;have h4:z3e (Fo.cons y ky (.cons z kz n)).dcs=(q0l y ky.dcs).nodes.length+5+z3e (Fo.cons z kz n).dcs:=by rw[Fo.dcs,q2f]
   omega
  have HRR:Hid ((kdD (Fo.cons y ky (.cons z kz n)).dcs).nodes=⟨6,⟨#[]⟩,0⟩::((⟨6,⟨#[]⟩,0⟩::((q0l y ky.dcs).nodes++[⟨1,⟨#[44]⟩,0⟩]))++(⟨6,⟨#[]⟩,0⟩::([⟨2,⟨#[]⟩,0⟩]++(kdD (Fo.cons z kz n).dcs).nodes)))):=rfl;have elen:(((Fo.cons y ky (.cons z kz n)).len:Nat):Int)=(n.len:Int)+1+1:=by simp[Fo.len]
  rw[HRR.o,elen]
  generalize(q0l y ky.dcs).nodes=xs at HD hzy⊢
  generalize(kdD (Fo.cons z kz n).dcs).nodes=ks at HKS hzy⊢
  generalize n.len=m at HKS hln⊢;have hm1:((m:Int)+1+1==1)=false:=beq_false_of_ne (by omega);have hm2:¬(m:Int)+1+1=1:=by omega
  obtain⟨hx8,hk8⟩:=hzy;clear hd hok hk hN hz ey ene edn hj HRR elen;go_in;go_wp2_with fail;refine(HD.o _ Zb).mono ?_;rintro e w1 h1;obtain⟨v1,rfl,n1,b1⟩:=h1.val;have hbl:NdV (w1.alloc (.cells #[.int .i64 2,.string ⟨#[]⟩,.int .i64 0] 107)) (.slice (some ⟨w1.heap.size,0,none⟩) 1 1) [⟨2,⟨#[]⟩,0⟩]:=(q7k.one w1 ⟨2,⟨#[]⟩,0⟩).val;have hb2:Below w1 w1 (w1.alloc (.cells #[.int .i64 2,.string ⟨#[]⟩,.int .i64 0] 107)):= Zb.alloc Zl _;have HBL2:=(show Hid (NdV (w1.alloc (.cells #[.int .i64 2,.string ⟨#[]⟩,.int .i64 0] 107)) (.slice (some ⟨w1.heap.size,0,none⟩) 1 1) [⟨2,⟨#[]⟩,0⟩])from hbl);have HV2:Hid (NdV (w1.alloc (.cells #[.int .i64 2,.string ⟨#[]⟩,.int .i64 0] 107)) v1 xs):=n1.below hb2;have HB2:Hid (Below W W (w1.alloc (.cells #[.int .i64 2,.string ⟨#[]⟩,.int .i64 0] 107))):=q0d b1 Zl hb2;clear h1 n1 b1 hbl hb2;go_wp2_with fail;generalize w1.alloc (.cells #[.int .i64 2,.string ⟨#[]⟩,.int .i64 0] 107)=w2 at HBL2 HV2 HB2⊢;refine(q1b _ _).mono ?_;rintro e w3 h3;obtain⟨v3,rfl,n3,b3⟩:=h3.val;have HB3:Hid (Below W W w3):=q0d HB2.o Zl b3;have HV3:Hid (NdV w3 v1 xs):=HV2.o.below b3;have HC3:Hid (NdV w3 v3 [⟨1,⟨#[44]⟩,0⟩]):=n3;have HBL3:Hid (NdV w3 (.slice (some ⟨w1.heap.size,0,none⟩) 1 1) [⟨2,⟨#[]⟩,0⟩]):=HBL2.o.below b3;clear h3 n3 b3 HB2 HV2 HBL2;go_wp2_with fail;refine(q0p _ HV3.o HC3.o (by simp;omega)).mono ?_;rintro e w4 h4;obtain⟨v4,rfl,n4,b4⟩:=h4.val;have HB4:Hid (Below W W w4):=q0d HB3.o Zl b4;have HV4:Hid (NdV w4 v4 (⟨6,⟨#[]⟩,0⟩::(xs++[⟨1,⟨#[44]⟩,0⟩]))):=n4;have HBL4:Hid (NdV w4 (.slice (some ⟨w1.heap.size,0,none⟩) 1 1) [⟨2,⟨#[]⟩,0⟩]):=HBL3.o.below b4;clear h4 n4 b4 HB3 HV3 HC3 HBL3;go_wp2_with fail;refine(HEN.o _ HB4.o).mono ?_;rintro e w5⟨rfl,b5⟩;have HB5:Hid (Below W W w5):=q0d HB4.o Zl b5;have HV5:Hid (NdV w5 v4 (⟨6,⟨#[]⟩,0⟩::(xs++[⟨1,⟨#[44]⟩,0⟩]))):=HV4.o.below b5;have HBL5:Hid (NdV w5 (.slice (some ⟨w1.heap.size,0,none⟩) 1 1) [⟨2,⟨#[]⟩,0⟩]):=HBL4.o.below b5;clear b5 HB4 HV4 HBL4;go_wp2_with fail;refine(HKS.o _ HB5.o).mono ?_;rintro e w6 h6;obtain⟨v6,rfl,n6,b6⟩:=h6.val;have HB6:Hid (Below W W w6):=q0d HB5.o Zl b6;have HV6:Hid (NdV w6 v4 (⟨6,⟨#[]⟩,0⟩::(xs++[⟨1,⟨#[44]⟩,0⟩]))):=HV5.o.below b6;have HK6:Hid (NdV w6 v6 ks):=n6;have HBL6:Hid (NdV w6 (.slice (some ⟨w1.heap.size,0,none⟩) 1 1) [⟨2,⟨#[]⟩,0⟩]):=HBL5.o.below b6;clear h6 n6 b6 HB5 HV5 HBL5;go_wp2_with fail;refine(q0p _ HBL6.o HK6.o (by simp;omega)).mono ?_;rintro e w7 h7;obtain⟨v7,rfl,n7,b7⟩:=h7.val;have HB7:Hid (Below W W w7):=q0d HB6.o Zl b7;have HV7:Hid (NdV w7 v4 (⟨6,⟨#[]⟩,0⟩::(xs++[⟨1,⟨#[44]⟩,0⟩]))):=HV6.o.below b7;have HK7:Hid (NdV w7 v7 (⟨6,⟨#[]⟩,0⟩::([⟨2,⟨#[]⟩,0⟩]++ks))):=n7;clear h7 n7 b7 HB6 HV6 HK6 HBL6;go_wp2_with fail;refine(q0p _ HV7.o HK7.o (by simp;omega)).mono ?_;rintro e w8 h8;have HR:Hid (NdR W (⟨6,⟨#[]⟩,0⟩::((⟨6,⟨#[]⟩,0⟩::(xs++[⟨1,⟨#[44]⟩,0⟩]))++(⟨6,⟨#[]⟩,0⟩::([⟨2,⟨#[]⟩,0⟩]++ks)))) e w8):=h8.from HB7.o;obtain⟨v8,rfl,_,_⟩:=h8.val;clear h8;go_wp2;go_ret;exact HR.o
end Go.Proofs.YthjapabokcajhaaGreatDoor
