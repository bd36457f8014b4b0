/- Texts as one: LayT, LayS. -/
import Derived.Test.YthjapabokcajhaaGreatDoorPf33
namespace Go.Proofs.YthjapabokcajhaaGreatDoor
open Go Go.RowKit
set_option maxRecDepth 100000
set_option maxHeartbeats 8000000
theorem q8p{ds:List Td}(hs:j4i ds){i:Nat}{F:Fo}{r:List Td}(h:ds.drop i=F.nodes++r):q8t F.dcs<=800:=by
 have h1:=z0s F;have h2:=congrArg List.length h;rw[List.length_drop,List.length_append]at h2
 have:=hs.l
 omega
abbrev Six(W w:World):Prop:=w.cell? ⟨W.heap.size+1+1+1,0,none⟩=some (.int .i64 8)/\w.cell? ⟨W.heap.size+1+1+1,1,none⟩=some (.string ⟨#[]⟩)/\w.cell? ⟨W.heap.size+1+1+1,2,none⟩=some (.int .i64 0)/\w.cell? ⟨W.heap.size+1+1+1+1,0,none⟩=some (.int .i64 7)/\w.cell? ⟨W.heap.size+1+1+1+1,1,none⟩=some (.string ⟨#[]⟩)/\w.cell? ⟨W.heap.size+1+1+1+1,2,none⟩=some (.int .i64 2)
theorem q0n.six{W:World}{x:Td}{w:World}(h:q0n W x w):Six W w:=⟨h.gr.2.1,h.gr.2.2.1,h.gr.2.2.2,h.dp.2.1,h.dp.2.2.1,h.dp.2.2.2⟩
theorem k3j{ds:List Td}{a:Option Addr}{cap:Nat}(hs:j4i ds){x:Td}{k n:Fo}(hok:(Fo.cons x k n).ok)(hex:(Fo.cons x k n).exs)(h2:x.op=5\/x.op=6)(hk:DcA ds a cap k):DcH ds a cap (.cons x k n) (q0d x k.dcs):=by
 intro i r hi W hN;obtain⟨hp,e1,e2,_,_⟩:=k0j hi hok
 have hkd:kdT x=2:=by
  unfold kdT;rcases h2 with h|h<;>rw[h]<;>rfl
 have hkl:k.len=2:=hok.1.trans hkd
 obtain⟨xa,ka,xb,kb,rfl⟩:∃xa ka xb kb,k=.cons xa ka (.cons xb kb .nil):=by
  match k,hkl with
  | .cons xa ka (.cons xb kb .nil),_=>exact⟨xa,ka,xb,kb,rfl⟩
 have htr:(Fo.cons xa ka (.cons xb kb .nil)).dcs=[(xa,q0d xa ka.dcs),(xb,q0d xb kb.dcs)]:=rfl;have hz:=q8p hs e2;rw[htr,q1j,q1j]at hz;obtain⟨hpa,ea,_,ena,eda⟩:=k0j e2 hok.2.1;obtain⟨hpb,eb,_,_,_⟩:=k0j eda hok.2.1.2.2;generalize hj:i+1+1+ka.nodes.length=j at ena eda hpb eb;have HN:Hid (Tds W a ds):=hN;have hl:=hs.l;have hza:(q0d xa ka.dcs).nodes.length<=800:=by simp only at hz;omega
 have hzb:(q0d xb kb.dcs).nodes.length<=800:=by simp only at hz;omega
 have HK1:Hid (∀W':World,Below W.heap.size W W'->Calls Tryz.prog 59 #[.slice a ds.length cap,.int .i64 (i:Int),.int .i64 ((i:Int)+1),.bool false] W' fun e w'=>NdR W' (inD (lvl x.op false) xa (q0d xa ka.dcs)).nodes e w'):=fun W' hb=>by
  have h:=z0z W' (hN.below hb) hp hpa (by rw[e1];exact h2) false (q0d xa ka.dcs) (by omega) (hk.1 (i+1) _ e2 W' (hN.below hb)) (cap:=cap);rw[e1,ea,show((i+1:Nat):Int)=(i:Int)+1 by omega]at h;exact h
 have HEN:Hid (∀W':World,Below W.heap.size W W'->Calls Tryz.prog 24 #[.slice a ds.length cap,.int .i64 ((i:Int)+1)] W' fun e w'=>e=.returned (.int .i64 (j:Int))/\Below W'.heap.size W' w'):=fun W' hb=>by
  have h:=z8b (cap:=cap) hs ena hpa W' (hN.below hb);rw[show((i+1:Nat):Int)=(i:Int)+1 by omega]at h;exact h
 have HK2:Hid (∀W':World,Below W.heap.size W W'->Calls Tryz.prog 59 #[.slice a ds.length cap,.int .i64 (i:Int),.int .i64 (j:Int),.bool true] W' fun e w'=>NdR W' (inD (lvl x.op true) xb (q0d xb kb.dcs)).nodes e w'):=fun W' hb=>by
  have h:=z0z W' (hN.below hb) hp hpb (by rw[e1];exact h2) true (q0d xb kb.dcs) (by omega) (hk.2.1 j _ eda W' (hN.below hb)) (cap:=cap);rw[e1,eb]at h;exact h
 have hna:=k0q (lvl x.op false) xa (q0d xa ka.dcs);have hnb:=k0q (lvl x.op true) xb (q0d xb kb.dcs)
 have HDC:Hid ((q0d x [(xa,q0d xa ka.dcs),(xb,q0d xb kb.dcs)]).nodes=⟨8,⟨#[]⟩,0⟩::(⟨6,⟨#[]⟩,0⟩::((inD (lvl x.op false) xa (q0d xa ka.dcs)).nodes++(⟨7,⟨#[]⟩,2⟩::(⟨6,⟨#[]⟩,0⟩::([⟨2,⟨#[]⟩,0⟩]++(⟨6,⟨#[]⟩,0⟩::([⟨1,(if x.op=5 then⟨#[43,32]⟩else⟨#[42,32]⟩),0⟩]++(inD (lvl x.op true) xb (q0d xb kb.dcs)).nodes)))))))):=by
  show _=_;rcases h2 with h|h
  ·rw[if_pos h];simp[q0d,h,tw2,lvl,Tr.nodes];rfl
  ·rw[if_neg (by omega)];simp[q0d,h,tw2,lvl,Tr.nodes];rfl
 obtain⟨b,o,rfl,hb,c1,c2,c3⟩:=hN i hp;have hii:(i:Int)<(ds.length:Int):=by omega
 rw[e1]at c1 c2 c3;have HPR:Hid (q0n W x (dcW W x.op x.tx x.n)):=z0r W x;unfold j4c;rw[htr,HDC.out]
 generalize(inD (lvl x.op false) xa (q0d xa ka.dcs)).nodes=ls at HK1 hna⊢
 generalize(inD (lvl x.op true) xb (q0d xb kb.dcs)).nodes=rs at HK2 hnb⊢
 have hx:=q1n (hex x (by simp[Fo.nodes]));clear hN e1 e2 hi hok hex hk hj htr hz ena eda ea eb HDC hkd hkl;obtain⟨xo,xt,xn⟩:=x;simp only at c1 c2 c3 HPR h2 hx hna hnb⊢
 have hx0:xt=⟨#[]⟩/\xn=0:=by
  rcases hx with⟨ho,_⟩|⟨ho,_⟩|⟨ho,_⟩|⟨ho,_⟩|⟨_,h1,h3,_⟩|⟨_,h1,h3,_⟩
  ·omega
  ·omega
  ·omega
  ·omega
  ·exact⟨h1,h3⟩
  ·exact⟨h1,h3⟩
 obtain⟨rfl,rfl⟩:=hx0;clear hx;rcases h2 with rfl|rfl
 ·simp only[if_true];go_in;go_wp2_with fail;have HPR2:=(show Hid (q0n W ⟨5,⟨#[]⟩,0⟩ (dcW W 5 ⟨#[]⟩ 0))from HPR.out);clear HPR;refine(HK1.out _ HPR2.out.b).mono ?_;rintro e w1 h1;obtain⟨v1,rfl,n1,b1⟩:=h1.val;have HP1:Hid (q0n W ⟨5,⟨#[]⟩,0⟩ w1):=HPR2.out.below b1;have HV1:Hid (NdV w1 v1 ls):=n1;clear h1 n1 b1 HPR2;go_wp2_with fail;refine(HEN.out _ HP1.out.b).mono ?_;rintro e w2⟨rfl,b2⟩;have HP2:Hid (q0n W ⟨5,⟨#[]⟩,0⟩ w2):=HP1.out.below b2;have HV2:Hid (NdV w2 v1 ls):=HV1.out.below b2;clear b2 HP1 HV1;go_wp2_with fail;refine(HK2.out _ HP2.out.b).mono ?_;rintro e w3 h3;obtain⟨v3,rfl,n3,b3⟩:=h3.val;have HP3:Hid (q0n W ⟨5,⟨#[]⟩,0⟩ w3):=HP2.out.below b3;have HA3:Hid (NdV w3 v1 ls):=HV2.out.below b3;have HB3:Hid (NdV w3 v3 rs):=n3;have SK3:Hid (Six W w3):=HP3.out.six;have SKD:Hid (Six W w3.drew):=HP3.out.six;have HD0:Hid (Below w3.heap.size w3 w3.drew):=(Below.refl _ _).drew;clear h3 n3 b3 HP2 HV2 HK1 HK2 HEN HN;go_wp2_with fail
  go_region_held3 (fun w'=>Six W w') (first|with_reducible exact SKD.out|with_reducible exact SK3.out|with_reducible exact SK4.out|with_reducible exact SK5.out|with_reducible exact SK6.out|with_reducible exact SK7.out|with_reducible exact SK8.out|with_reducible exact SK9.out)
   (first
     | (go_at_call 60;refine((q1k ⟨8,⟨#[]⟩,0⟩ (w8) HF8.out (by simp<;>omega))).mono ?_;rintro e w9 h9;have HR9:Hid (NdR W (⟨8,⟨#[]⟩,0⟩::(⟨6,⟨#[]⟩,0⟩::(ls++(⟨7,⟨#[]⟩,2⟩::(⟨6,⟨#[]⟩,0⟩::([⟨2,⟨#[]⟩,0⟩]++(⟨6,⟨#[]⟩,0⟩::([⟨1,⟨#[43,32]⟩,0⟩]++rs)))))))) e w9):=h9.from HP8.out.b;obtain⟨v9,rfl,n9,b9⟩:=h9.val;have HP9:Hid (q0n W ⟨5,⟨#[]⟩,0⟩ w9):=HP8.out.below b9;have SK9:Hid (Six W w9):=HP9.out.six;clear h9 n9 b9)
     | (go_at_call 61;refine((q0m (w7) HA7.out HE7.out (by simp<;>omega))).mono ?_;rintro e w8 h8;obtain⟨v8,rfl,n8,b8⟩:=h8.val;have HP8:Hid (q0n W ⟨5,⟨#[]⟩,0⟩ w8):=HP7.out.below b8;have SK8:Hid (Six W w8):=HP8.out.six;have HF8:Hid (NdV w8 v8 (⟨6,⟨#[]⟩,0⟩::(ls++(⟨7,⟨#[]⟩,2⟩::(⟨6,⟨#[]⟩,0⟩::([⟨2,⟨#[]⟩,0⟩]++(⟨6,⟨#[]⟩,0⟩::([⟨1,⟨#[43,32]⟩,0⟩]++rs)))))))):=n8;clear h8 n8 b8)
     | (go_at_call 60;refine((q1k ⟨7,⟨#[]⟩,2⟩ (w6) HD6.out (by simp<;>omega))).mono ?_;rintro e w7 h7;obtain⟨v7,rfl,n7,b7⟩:=h7.val;have HP7:Hid (q0n W ⟨5,⟨#[]⟩,0⟩ w7):=HP6.out.below b7;have SK7:Hid (Six W w7):=HP7.out.six;have HA7:Hid (NdV w7 v1 (ls)):=HA6.out.below b7;have HE7:Hid (NdV w7 v7 (⟨7,⟨#[]⟩,2⟩::(⟨6,⟨#[]⟩,0⟩::([⟨2,⟨#[]⟩,0⟩]++(⟨6,⟨#[]⟩,0⟩::([⟨1,⟨#[43,32]⟩,0⟩]++rs)))))):=n7;clear h7 n7 b7)
     | (go_at_call 61;refine((q0m (w5) HP5.out.bl HC5.out (by simp<;>omega))).mono ?_;rintro e w6 h6;obtain⟨v6,rfl,n6,b6⟩:=h6.val;have HP6:Hid (q0n W ⟨5,⟨#[]⟩,0⟩ w6):=HP5.out.below b6;have SK6:Hid (Six W w6):=HP6.out.six;have HA6:Hid (NdV w6 v1 (ls)):=HA5.out.below b6;have HD6:Hid (NdV w6 v6 (⟨6,⟨#[]⟩,0⟩::([⟨2,⟨#[]⟩,0⟩]++(⟨6,⟨#[]⟩,0⟩::([⟨1,⟨#[43,32]⟩,0⟩]++rs))))):=n6;clear h6 n6 b6)
     | (go_at_call 61;refine((q0m (w4) HS4.out HB4.out (by simp<;>omega))).mono ?_;rintro e w5 h5;obtain⟨v5,rfl,n5,b5⟩:=h5.val;have HP5:Hid (q0n W ⟨5,⟨#[]⟩,0⟩ w5):=HP4.out.below b5;have SK5:Hid (Six W w5):=HP5.out.six;have HA5:Hid (NdV w5 v1 (ls)):=HA4.out.below b5;have HC5:Hid (NdV w5 v5 (⟨6,⟨#[]⟩,0⟩::([⟨1,⟨#[43,32]⟩,0⟩]++rs))):=n5;clear h5 n5 b5)
     | (go_at_call 57;refine((q0q _ (w3.drew)).mono fun _ _ h=>h.from HD0.out).mono ?_;rintro e w4 h4;obtain⟨v4,rfl,n4,b4⟩:=h4.val;have HP4:Hid (q0n W ⟨5,⟨#[]⟩,0⟩ w4):=HP3.out.below b4;have SK4:Hid (Six W w4):=HP4.out.six;have HA4:Hid (NdV w4 v1 (ls)):=HA3.out.below b4;have HB4:Hid (NdV w4 v3 (rs)):=HB3.out.below b4;have HS4:Hid (NdV w4 v4 ([⟨1,⟨#[43,32]⟩,0⟩])):=n4;clear h4 n4 b4))
  all_goals
   go_wp2;go_ret;exact HR9.out
 ·simp only[show ¬(6:Int)=5 by decide,if_false];go_in;go_wp2_with fail;have HPR2:=(show Hid (q0n W ⟨6,⟨#[]⟩,0⟩ (dcW W 6 ⟨#[]⟩ 0))from HPR.out);clear HPR;refine(HK1.out _ HPR2.out.b).mono ?_;rintro e w1 h1;obtain⟨v1,rfl,n1,b1⟩:=h1.val;have HP1:Hid (q0n W ⟨6,⟨#[]⟩,0⟩ w1):=HPR2.out.below b1;have HV1:Hid (NdV w1 v1 ls):=n1;clear h1 n1 b1 HPR2;go_wp2_with fail;refine(HEN.out _ HP1.out.b).mono ?_;rintro e w2⟨rfl,b2⟩;have HP2:Hid (q0n W ⟨6,⟨#[]⟩,0⟩ w2):=HP1.out.below b2;have HV2:Hid (NdV w2 v1 ls):=HV1.out.below b2;clear b2 HP1 HV1;go_wp2_with fail;refine(HK2.out _ HP2.out.b).mono ?_;rintro e w3 h3;obtain⟨v3,rfl,n3,b3⟩:=h3.val;have HP3:Hid (q0n W ⟨6,⟨#[]⟩,0⟩ w3):=HP2.out.below b3;have HA3:Hid (NdV w3 v1 ls):=HV2.out.below b3;have HB3:Hid (NdV w3 v3 rs):=n3;have SK3:Hid (Six W w3):=HP3.out.six;have SKD:Hid (Six W w3.drew):=HP3.out.six;have HD0:Hid (Below w3.heap.size w3 w3.drew):=(Below.refl _ _).drew;clear h3 n3 b3 HP2 HV2 HK1 HK2 HEN HN;go_wp2_with fail
  go_region_held3 (fun w'=>Six W w') (first|with_reducible exact SKD.out|with_reducible exact SK3.out|with_reducible exact SK4.out|with_reducible exact SK5.out|with_reducible exact SK6.out|with_reducible exact SK7.out|with_reducible exact SK8.out|with_reducible exact SK9.out)
   (first
     | (go_at_call 60;refine((q1k ⟨8,⟨#[]⟩,0⟩ (w8) HF8.out (by simp<;>omega))).mono ?_;rintro e w9 h9;have HR9:Hid (NdR W (⟨8,⟨#[]⟩,0⟩::(⟨6,⟨#[]⟩,0⟩::(ls++(⟨7,⟨#[]⟩,2⟩::(⟨6,⟨#[]⟩,0⟩::([⟨2,⟨#[]⟩,0⟩]++(⟨6,⟨#[]⟩,0⟩::([⟨1,⟨#[42,32]⟩,0⟩]++rs)))))))) e w9):=h9.from HP8.out.b;obtain⟨v9,rfl,n9,b9⟩:=h9.val;have HP9:Hid (q0n W ⟨6,⟨#[]⟩,0⟩ w9):=HP8.out.below b9;have SK9:Hid (Six W w9):=HP9.out.six;clear h9 n9 b9)
     | (go_at_call 61;refine((q0m (w7) HA7.out HE7.out (by simp<;>omega))).mono ?_;rintro e w8 h8;obtain⟨v8,rfl,n8,b8⟩:=h8.val;have HP8:Hid (q0n W ⟨6,⟨#[]⟩,0⟩ w8):=HP7.out.below b8;have SK8:Hid (Six W w8):=HP8.out.six;have HF8:Hid (NdV w8 v8 (⟨6,⟨#[]⟩,0⟩::(ls++(⟨7,⟨#[]⟩,2⟩::(⟨6,⟨#[]⟩,0⟩::([⟨2,⟨#[]⟩,0⟩]++(⟨6,⟨#[]⟩,0⟩::([⟨1,⟨#[42,32]⟩,0⟩]++rs)))))))):=n8;clear h8 n8 b8)
     | (go_at_call 60;refine((q1k ⟨7,⟨#[]⟩,2⟩ (w6) HD6.out (by simp<;>omega))).mono ?_;rintro e w7 h7;obtain⟨v7,rfl,n7,b7⟩:=h7.val;have HP7:Hid (q0n W ⟨6,⟨#[]⟩,0⟩ w7):=HP6.out.below b7;have SK7:Hid (Six W w7):=HP7.out.six;have HA7:Hid (NdV w7 v1 (ls)):=HA6.out.below b7;have HE7:Hid (NdV w7 v7 (⟨7,⟨#[]⟩,2⟩::(⟨6,⟨#[]⟩,0⟩::([⟨2,⟨#[]⟩,0⟩]++(⟨6,⟨#[]⟩,0⟩::([⟨1,⟨#[42,32]⟩,0⟩]++rs)))))):=n7;clear h7 n7 b7)
     | (go_at_call 61;refine((q0m (w5) HP5.out.bl HC5.out (by simp<;>omega))).mono ?_;rintro e w6 h6;obtain⟨v6,rfl,n6,b6⟩:=h6.val;have HP6:Hid (q0n W ⟨6,⟨#[]⟩,0⟩ w6):=HP5.out.below b6;have SK6:Hid (Six W w6):=HP6.out.six;have HA6:Hid (NdV w6 v1 (ls)):=HA5.out.below b6;have HD6:Hid (NdV w6 v6 (⟨6,⟨#[]⟩,0⟩::([⟨2,⟨#[]⟩,0⟩]++(⟨6,⟨#[]⟩,0⟩::([⟨1,⟨#[42,32]⟩,0⟩]++rs))))):=n6;clear h6 n6 b6)
     | (go_at_call 61;refine((q0m (w4) HS4.out HB4.out (by simp<;>omega))).mono ?_;rintro e w5 h5;obtain⟨v5,rfl,n5,b5⟩:=h5.val;have HP5:Hid (q0n W ⟨6,⟨#[]⟩,0⟩ w5):=HP4.out.below b5;have SK5:Hid (Six W w5):=HP5.out.six;have HA5:Hid (NdV w5 v1 (ls)):=HA4.out.below b5;have HC5:Hid (NdV w5 v5 (⟨6,⟨#[]⟩,0⟩::([⟨1,⟨#[42,32]⟩,0⟩]++rs))):=n5;clear h5 n5 b5)
     | (go_at_call 57;refine((q0q _ (w3.drew)).mono fun _ _ h=>h.from HD0.out).mono ?_;rintro e w4 h4;obtain⟨v4,rfl,n4,b4⟩:=h4.val;have HP4:Hid (q0n W ⟨6,⟨#[]⟩,0⟩ w4):=HP3.out.below b4;have SK4:Hid (Six W w4):=HP4.out.six;have HA4:Hid (NdV w4 v1 (ls)):=HA3.out.below b4;have HB4:Hid (NdV w4 v3 (rs)):=HB3.out.below b4;have HS4:Hid (NdV w4 v4 ([⟨1,⟨#[42,32]⟩,0⟩])):=n4;clear h4 n4 b4))
  all_goals
   go_wp2;go_ret;exact HR9.out
end Go.Proofs.YthjapabokcajhaaGreatDoor
namespace Go.Proofs.YthjapabokcajhaaGreatDoor
open Go Go.RowKit
set_option maxRecDepth 100000
set_option maxHeartbeats 8000000
theorem z4a:∀n:Fo,n.len<=n.nodes.length
 | .nil=>Nat.le_refl _
 | .cons x k m=>by
  have:=z4a m
  simp only[Fo.len,Fo.nodes,List.length_cons,List.length_append];omega
theorem q9m{ds:List Td}{a:Option Addr}{cap:Nat}(hs:j4i ds):∀(K:Fo)(pos:Nat)(r:List Td),ds.drop pos=K.nodes++r->K.ok->DcA ds a cap K->K.len≠0->∀W:World,Tds W a ds->
  Calls Tryz.prog 62 #[.slice a ds.length cap,.int .i64 (pos:Int),.int .i64 (K.len:Int)] W fun e w'=>NdR W (kdD K.dcs).nodes e w'
 | .nil,_,_,_,_,_,h0,_,_=>absurd rfl h0
 | .cons y ky .nil,pos,r,hd,hok,hk,_,W,hN=>by
  have HD:Hid (Calls Tryz.prog 26 #[.slice a ds.length cap,.int .i64 (pos:Int)] W fun e w'=>NdR W (q0d y ky.dcs).nodes e w'):=hk.1 pos r hd W hN;show Calls Tryz.prog 62 #[.slice a ds.length cap,.int .i64 (pos:Int),.int .i64 1] W fun e w'=>NdR W (q0d y ky.dcs).nodes e w'
  generalize(q0d y ky.dcs).nodes=xs at HD⊢
  clear hd hok hk hN;go_in;go_wp2_with fail;refine HD.out.mono ?_;rintro e w1 h1;have HR:Hid (NdR W xs e w1):=h1;obtain⟨v1,rfl,_,_⟩:=h1.val;clear h1;go_wp2;go_ret;exact HR.out
 | .cons y ky (.cons z kz n),pos,r,hd,hok,hk,_,W,hN=>by
  have hz:=q8p hs hd;obtain⟨hp,ey,_,ene,edn⟩:=k0j hd hok;generalize hj:pos+1+ky.nodes.length=j at ene edn;have HD:Hid (∀W':World,Below W.heap.size W W'->Calls Tryz.prog 26 #[.slice a ds.length cap,.int .i64 (pos:Int)] W' fun e w'=>NdR W' (q0d y ky.dcs).nodes e w'):=fun W' hb=>hk.1 pos r hd W' (hN.below hb)
  have HEN:Hid (∀W':World,Below W.heap.size W W'->Calls Tryz.prog 24 #[.slice a ds.length cap,.int .i64 (pos:Int)] W' fun e w'=>e=.returned (.int .i64 (j:Int))/\Below W'.heap.size W' w'):=fun W' hb=>z8b (cap:=cap) hs ene hp W' (hN.below hb)
  have HKS:Hid (∀W':World,Below W.heap.size W W'->Calls Tryz.prog 62 #[.slice a ds.length cap,.int .i64 (j:Int),.int .i64 ((n.len:Int)+1)] W' fun e w'=>NdR W' (kdD (Fo.cons z kz n).dcs).nodes e w'):=fun W' hb=>by
   have h:=q9m hs (.cons z kz n) j r edn hok.2.2 hk.2 (by simp[Fo.len]) W' (hN.below hb);have e:(((Fo.cons z kz n).len:Nat):Int)=(n.len:Int)+1:=by simp[Fo.len]
   rw[e]at h;exact h
  have hln:n.len<=100:=by
   have h6:=congrArg List.length hd;rw[List.length_drop,List.length_append]at h6;have h7:n.nodes.length<=(Fo.cons y ky (.cons z kz n)).nodes.length:=by simp only[Fo.nodes,List.length_cons,List.length_append];omega
   have h8:=z4a n
   have:=hs.l
   omega
  have hzy:(q0d y ky.dcs).nodes.length<=800/\(kdD (Fo.cons z kz n).dcs).nodes.length<=801:=by
   have h1:=k0r (Fo.cons z kz n).dcs;have h4:q8t (Fo.cons y ky (.cons z kz n)).dcs=(q0d y ky.dcs).nodes.length+5+q8t (Fo.cons z kz n).dcs:=by rw[Fo.dcs,q1j]
   omega
  have HRR:Hid ((kdD (Fo.cons y ky (.cons z kz n)).dcs).nodes=⟨6,⟨#[]⟩,0⟩::((⟨6,⟨#[]⟩,0⟩::((q0d y ky.dcs).nodes++[⟨1,⟨#[44]⟩,0⟩]))++(⟨6,⟨#[]⟩,0⟩::([⟨2,⟨#[]⟩,0⟩]++(kdD (Fo.cons z kz n).dcs).nodes)))):=rfl;have elen:(((Fo.cons y ky (.cons z kz n)).len:Nat):Int)=(n.len:Int)+1+1:=by simp[Fo.len]
  rw[HRR.out,elen]
  generalize(q0d y ky.dcs).nodes=xs at HD hzy⊢
  generalize(kdD (Fo.cons z kz n).dcs).nodes=ks at HKS hzy⊢
  generalize n.len=m at HKS hln⊢;have hm1:((m:Int)+1+1==1)=false:=beq_false_of_ne (by omega);have hm2:¬(m:Int)+1+1=1:=by omega
  obtain⟨hx8,hk8⟩:=hzy;clear hd hok hk hN hz ey ene edn hj HRR elen;go_in;go_wp2_with fail;refine(HD.out _ (Below.refl _ _)).mono ?_;rintro e w1 h1;obtain⟨v1,rfl,n1,b1⟩:=h1.val;have hbl:NdV (w1.alloc (.cells #[.int .i64 2,.string ⟨#[]⟩,.int .i64 0] 107)) (.slice (some ⟨w1.heap.size,0,none⟩) 1 1) [⟨2,⟨#[]⟩,0⟩]:=(q3m.one w1 ⟨2,⟨#[]⟩,0⟩).val;have hb2:Below w1.heap.size w1 (w1.alloc (.cells #[.int .i64 2,.string ⟨#[]⟩,.int .i64 0] 107)):=(Below.refl _ _).alloc (Nat.le_refl _) _;have HBL2:=(show Hid (NdV (w1.alloc (.cells #[.int .i64 2,.string ⟨#[]⟩,.int .i64 0] 107)) (.slice (some ⟨w1.heap.size,0,none⟩) 1 1) [⟨2,⟨#[]⟩,0⟩])from hbl);have HV2:Hid (NdV (w1.alloc (.cells #[.int .i64 2,.string ⟨#[]⟩,.int .i64 0] 107)) v1 xs):=n1.below hb2;have HB2:Hid (Below W.heap.size W (w1.alloc (.cells #[.int .i64 2,.string ⟨#[]⟩,.int .i64 0] 107))):=q0g b1 (Nat.le_refl _) hb2;clear h1 n1 b1 hbl hb2;go_wp2_with fail;generalize w1.alloc (.cells #[.int .i64 2,.string ⟨#[]⟩,.int .i64 0] 107)=w2 at HBL2 HV2 HB2⊢;refine(q0q _ _).mono ?_;rintro e w3 h3;obtain⟨v3,rfl,n3,b3⟩:=h3.val;have HB3:Hid (Below W.heap.size W w3):=q0g HB2.out (Nat.le_refl _) b3;have HV3:Hid (NdV w3 v1 xs):=HV2.out.below b3;have HC3:Hid (NdV w3 v3 [⟨1,⟨#[44]⟩,0⟩]):=n3;have HBL3:Hid (NdV w3 (.slice (some ⟨w1.heap.size,0,none⟩) 1 1) [⟨2,⟨#[]⟩,0⟩]):=HBL2.out.below b3;clear h3 n3 b3 HB2 HV2 HBL2;go_wp2_with fail;refine(q0m _ HV3.out HC3.out (by simp;omega)).mono ?_;rintro e w4 h4;obtain⟨v4,rfl,n4,b4⟩:=h4.val;have HB4:Hid (Below W.heap.size W w4):=q0g HB3.out (Nat.le_refl _) b4;have HV4:Hid (NdV w4 v4 (⟨6,⟨#[]⟩,0⟩::(xs++[⟨1,⟨#[44]⟩,0⟩]))):=n4;have HBL4:Hid (NdV w4 (.slice (some ⟨w1.heap.size,0,none⟩) 1 1) [⟨2,⟨#[]⟩,0⟩]):=HBL3.out.below b4;clear h4 n4 b4 HB3 HV3 HC3 HBL3;go_wp2_with fail;refine(HEN.out _ HB4.out).mono ?_;rintro e w5⟨rfl,b5⟩;have HB5:Hid (Below W.heap.size W w5):=q0g HB4.out (Nat.le_refl _) b5;have HV5:Hid (NdV w5 v4 (⟨6,⟨#[]⟩,0⟩::(xs++[⟨1,⟨#[44]⟩,0⟩]))):=HV4.out.below b5;have HBL5:Hid (NdV w5 (.slice (some ⟨w1.heap.size,0,none⟩) 1 1) [⟨2,⟨#[]⟩,0⟩]):=HBL4.out.below b5;clear b5 HB4 HV4 HBL4;go_wp2_with fail;refine(HKS.out _ HB5.out).mono ?_;rintro e w6 h6;obtain⟨v6,rfl,n6,b6⟩:=h6.val;have HB6:Hid (Below W.heap.size W w6):=q0g HB5.out (Nat.le_refl _) b6;have HV6:Hid (NdV w6 v4 (⟨6,⟨#[]⟩,0⟩::(xs++[⟨1,⟨#[44]⟩,0⟩]))):=HV5.out.below b6;have HK6:Hid (NdV w6 v6 ks):=n6;have HBL6:Hid (NdV w6 (.slice (some ⟨w1.heap.size,0,none⟩) 1 1) [⟨2,⟨#[]⟩,0⟩]):=HBL5.out.below b6;clear h6 n6 b6 HB5 HV5 HBL5;go_wp2_with fail;refine(q0m _ HBL6.out HK6.out (by simp;omega)).mono ?_;rintro e w7 h7;obtain⟨v7,rfl,n7,b7⟩:=h7.val;have HB7:Hid (Below W.heap.size W w7):=q0g HB6.out (Nat.le_refl _) b7;have HV7:Hid (NdV w7 v4 (⟨6,⟨#[]⟩,0⟩::(xs++[⟨1,⟨#[44]⟩,0⟩]))):=HV6.out.below b7;have HK7:Hid (NdV w7 v7 (⟨6,⟨#[]⟩,0⟩::([⟨2,⟨#[]⟩,0⟩]++ks))):=n7;clear h7 n7 b7 HB6 HV6 HK6 HBL6;go_wp2_with fail;refine(q0m _ HV7.out HK7.out (by simp;omega)).mono ?_;rintro e w8 h8;have HR:Hid (NdR W (⟨6,⟨#[]⟩,0⟩::((⟨6,⟨#[]⟩,0⟩::(xs++[⟨1,⟨#[44]⟩,0⟩]))++(⟨6,⟨#[]⟩,0⟩::([⟨2,⟨#[]⟩,0⟩]++ks)))) e w8):=h8.from HB7.out;obtain⟨v8,rfl,_,_⟩:=h8.val;clear h8;go_wp2;go_ret;exact HR.out
end Go.Proofs.YthjapabokcajhaaGreatDoor
