/- Texts as one: RTl2, RAll, NodB, WayR, WayL, WayL1, WayL2, WayL6, WayL7. -/
import Derived.Test.YthjapabokcajhaaGreatDoorPi23
open Go.Proofs.Tryz
namespace Go.Proofs.YthjapabokcajhaaGreatDoor
open Go Go.RowKit
set_option maxRecDepth 100000
set_option maxHeartbeats 1000000
theorem v5e(ds:List Nd)(a:Option Addr)(cap:Nat)(hl:ds.length<=400)(tx:ByteArray)(n:Int)(A:List Nd)(f:List (List Int)->List (List Int))(sA:ByteArray)(hA:k5l ds a cap A f)(hf:y2s A f)(hF:q2m ds a cap A sA true)(F:List (List Int)->List (List Int))(HF:Hid (∀bs,F bs=(bs.map (0::·)++(f bs).map (1::·)).take 301)):k5l ds a cap (⟨8,tx,n⟩::A) F:=by
 intro i r bs ba bc m w hd hN hM hbc hbl hx hm;obtain⟨hi,e1,e2⟩:=q0m (x:=⟨8,tx,n⟩) (r:=A++r) hd;obtain⟨b0,o0,ea,hlt,c1,c2,c3⟩:=hN i hi;subst ea;rw[e1]at c1 c2 c3;dsimp only at c1 c2 c3;simp only[List.length_cons]at hm;have HX:Hid (((i+1:Nat):Int)=(i:Int)+1):=(show _=_ by omega);have HN:=hid hN;have HM:=hid hM;have HXX:=hid hx;have HA:=hid hA;have HF1:=hid (hf.1 bs hbl);have HF2:=hid (hf.2 bs m hx);have HFL:=hid hF;have HD:=hid e2;clear hd e1 e2 hN hM hx hA hF hf;go_in;go_wp2_with fail;rw[<-HX.o];refine(HFL.o (i+1) _ _ HD.o HN.o).mono ?_;rintro e w1⟨rfl,hb1⟩;have HB1:=hid hb1;have hs1:=hb1.size;clear hb1;go_wp2_with fail;refine(q6d w.heap.size (.slice none 0 0) [] bs 0 ba bc w1 (z3g.nil _ _ _) (HM.o.below HB1.o) hs1 (by simp;omega) (fun x h=>by have:=HXX.o x h;omega)).mono ?_;rintro e w2⟨v2,rfl,hg2,hgr2,hat2⟩;rw[List.nil_append]at hg2;have hl1:(bs.map (0::·)).length<=301:=by rw[List.length_map];exact hbl
 generalize he1:bs.map (0::·)=l1 at hg2 hl1;have HE1:=hid he1;have HL1:=hid hl1;clear he1 hl1;have HB2:=hid (HB1.o.trans (q5b hgr2 hs1 (fun k h=>by cases h)));have hs2:=HB2.o.size;obtain⟨a2,k2,rfl,_,_,_,ho2⟩:=hg2.o;have hl1:=HL1.o;generalize hn1:l1.length=n1 at hg2 ho2 hl1;have HG2:=hid hg2;have HO2:=hid ho2;clear hg2 hgr2 hat2 ho2 hn1;go_wp2_with fail;rw[<-HX.o];refine(HA.o (i+1) r bs ba bc m w2 HD.o (HN.o.below HB2.o) (HM.o.below HB2.o) hbc hbl HXX.o (by omega)).mono ?_;rintro e w3⟨a3,k3,rfl,h3,h4,hb3⟩;have HW3:=hid (h4 (Value.slice a2 n1 k2).ownBlock (fun k h=>(HO2.o k h).2) (HM.o.apart HB2.o fun k h=>(HO2.o k h).1));have HG3:=hid (HG2.o.below hb3);have HB3:=hid (HB2.o.trans (hb3.mono hs2));have hs3:=HB3.o.size;clear h4 hb3;go_wp2_with fail;refine(q6d w.heap.size (.slice a2 n1 k2) l1 (f bs) 1 a3 k3 w3 HG3.o HW3.o hs3 (by have:=HF1.o;have:=HL1.o;omega) (fun x h=>by have:=HF2.o x h;omega)).mono ?_;rintro e w5⟨v5,rfl,hg5,hgr5,_⟩;generalize he5:l1++(f bs).map (1::·)=l5 at hg5;have HG5:=hid hg5;have HE5:Hid (F bs=l5.take 301):=(show _=_ by rw[HF.o,HE1.o,he5]);clear he5;have HB5:=hid (HB3.o.trans (q5b hgr5 hs3 (fun k h=>(HO2.o k h).1)));clear hg5 hgr5;obtain⟨a5,k5,rfl,h5,h6,h7,_⟩:=HG5.o.o;have H7:=hid h7;generalize hn5:l5.length=n5 at h5 h6;have HL5:=hid hn5;clear h7 hn5 HG5;by_cases hcut:301<n5
 ·obtain⟨q5,rfl⟩:∃q5,a5=some ⟨q5,0,none⟩:=h6.resolve_left (by omega);have hcz:(301:Int)<(n5:Int):=by omega
  clear h6;go_wp2;go_ret;rw[HE5.o];refine⟨some ↑q5,k5,?_,?_,fun q hq _=>(H7.o q hq).take 301,HB5.o⟩
  ·have e:(l5.take 301).length=301:=by rw[List.length_take,HL5.o];omega
   rw[e];rfl
  ·rw[List.length_take,HL5.o];omega
 ·have hcz:¬(301:Int)<(n5:Int):=by omega
  clear h6;go_wp2;go_ret;rw[HE5.o];refine⟨a5,k5,?_,?_,fun q hq _=>(H7.o q hq).take 301,HB5.o⟩
  ·have e:(l5.take 301).length=n5:=by rw[List.length_take,HL5.o];omega
   rw[e];rfl
  ·rw[List.length_take,HL5.o];omega
theorem v5d(ds:List Nd)(a:Option Addr)(cap:Nat)(hl:ds.length<=400)(tx:ByteArray)(n:Int)(A:List Nd)(f:List (List Int)->List (List Int))(sA:ByteArray)(hA:k5l ds a cap A f)(hf:y2s A f)(hF:q2m ds a cap A sA false)(F:List (List Int)->List (List Int))(HF:Hid (∀bs,F bs=(([]:List (List Int))++(f bs).map (1::·)).take 301)):k5l ds a cap (⟨8,tx,n⟩::A) F:=by
 intro i r bs ba bc m w hd hN hM hbc hbl hx hm;obtain⟨hi,e1,e2⟩:=q0m (x:=⟨8,tx,n⟩) (r:=A++r) hd;obtain⟨b0,o0,ea,hlt,c1,c2,c3⟩:=hN i hi;subst ea;rw[e1]at c1 c2 c3;dsimp only at c1 c2 c3;simp only[List.length_cons]at hm;have HX:Hid (((i+1:Nat):Int)=(i:Int)+1):=(show _=_ by omega);have HN:=hid hN;have HM:=hid hM;have HXX:=hid hx;have HA:=hid hA;have HF1:=hid (hf.1 bs hbl);have HF2:=hid (hf.2 bs m hx);have HFL:=hid hF;have HD:=hid e2;clear hd e1 e2 hN hM hx hA hF hf;go_in;go_wp2_with fail;rw[<-HX.o];refine(HFL.o (i+1) _ _ HD.o HN.o).mono ?_;rintro e w1⟨rfl,hb1⟩;have HB1:=hid hb1;have hs1:=hb1.size;clear hb1;go_wp2_with fail;rw[<-HX.o];refine(HA.o (i+1) r bs ba bc m w1 HD.o (HN.o.below HB1.o) (HM.o.below HB1.o) hbc hbl HXX.o (by omega)).mono ?_;rintro e w3⟨a3,k3,rfl,h3,h4,hb3⟩;have HW3:=hid (h4 none (fun k h=>by cases h) (HM.o.below HB1.o));have HB3:=hid (HB1.o.trans (hb3.mono hs1));have hs3:=HB3.o.size;clear h4 hb3;go_wp2_with fail;refine(q6d w.heap.size (.slice none 0 0) [] (f bs) 1 a3 k3 w3 (z3g.nil _ _ _) HW3.o hs3 (by have:=HF1.o;simp;omega) (fun x h=>by have:=HF2.o x h;omega)).mono ?_;rintro e w5⟨v5,rfl,hg5,hgr5,_⟩;generalize he5:([]:List (List Int))++(f bs).map (1::·)=l5 at hg5;have HG5:=hid hg5;have HE5:Hid (F bs=l5.take 301):=(show _=_ by rw[HF.o,he5]);clear he5;have HB5:=hid (HB3.o.trans (q5b hgr5 hs3 (fun k h=>by cases h)));clear hg5 hgr5;obtain⟨a5,k5,rfl,h5,h6,h7,_⟩:=HG5.o.o;have H7:=hid h7;generalize hn5:l5.length=n5 at h5 h6;have HL5:=hid hn5;clear h7 hn5 HG5;by_cases hcut:301<n5
 ·obtain⟨q5,rfl⟩:∃q5,a5=some ⟨q5,0,none⟩:=h6.resolve_left (by omega);have hcz:(301:Int)<(n5:Int):=by omega
  clear h6;go_wp2;go_ret;rw[HE5.o];refine⟨some ↑q5,k5,?_,?_,fun q hq _=>(H7.o q hq).take 301,HB5.o⟩
  ·have e:(l5.take 301).length=301:=by rw[List.length_take,HL5.o];omega
   rw[e];rfl
  ·rw[List.length_take,HL5.o];omega
 ·have hcz:¬(301:Int)<(n5:Int):=by omega
  clear h6;go_wp2;go_ret;rw[HE5.o];refine⟨a5,k5,?_,?_,fun q hq _=>(H7.o q hq).take 301,HB5.o⟩
  ·have e:(l5.take 301).length=n5:=by rw[List.length_take,HL5.o];omega
   rw[e];rfl
  ·rw[List.length_take,HL5.o];omega
theorem y1z(ds:List Nd)(a:Option Addr)(cap:Nat)(hl:ds.length<=400)(tx:ByteArray)(n:Int)(A C:List Nd)(f g:List (List Int)->List (List Int))(hA:k5l ds a cap A f)(hf:y2s A f)(hC:k5l ds a cap C g)(hg:y2s C g)(hE:∀i r,ds.drop i=A++r->q0v ds i 1=some (i+A.length))(F:List (List Int)->List (List Int))(HF:Hid (∀bs,F bs=((f bs).map (0::·)++(g bs).map (1::·)).take 301)):k5l ds a cap (⟨9,tx,n⟩::(A++C)) F:=by
 intro i r bs ba bc m w hd hN hM hbc hbl hx hm;obtain⟨hi,e1,e2⟩:=q0m (x:=⟨9,tx,n⟩) (r:=(A++C)++r) hd;obtain⟨b0,o0,ea,hlt,c1,c2,c3⟩:=hN i hi;subst ea;rw[e1]at c1 c2 c3;dsimp only at c1 c2 c3;simp only[List.length_cons,List.length_append]at hm;have HX:Hid (((i+1:Nat):Int)=(i:Int)+1):=(show _=_ by omega);have HN:=hid hN;have HM:=hid hM;have HXX:=hid hx;have HA:=hid hA;have HF1:=hid (hf.1 bs hbl);have HF2:=hid (hf.2 bs m hx);have HC:=hid hC;have HC1:=hid (hg.1 bs hbl);have HC2:=hid (hg.2 bs m hx);have HD:=hid e2;rw[List.append_assoc]at HD;have HE:=hid (hE (i+1) (C++r) HD.o);have HD2:=hid (q7r HD.o);clear hd e1 e2 hN hM hx hA hC hE hf hg;go_in;go_wp2_with fail;rw[<-HX.o];refine(HA.o (i+1) (C++r) bs ba bc m w HD.o HN.o HM.o hbc hbl HXX.o (by omega)).mono ?_;rintro e w1⟨a1,k1,rfl,h1,h4,hb1⟩;have HW1:=hid (h4 none (fun k h=>by cases h) HM.o);have HB1:=hid hb1;have hs1:=hb1.size;clear h4 hb1;go_wp2_with fail;refine(q6d w.heap.size (.slice none 0 0) [] (f bs) 0 a1 k1 w1 (z3g.nil _ _ _) HW1.o hs1 (by have:=HF1.o;simp;omega) (fun x h=>by have:=HF2.o x h;omega)).mono ?_;rintro e w2⟨v2,rfl,hg2,hgr2,hat2⟩;rw[List.nil_append]at hg2;have hl1:((f bs).map (0::·)).length<=301:=by rw[List.length_map];exact HF1.o
 generalize he1:(f bs).map (0::·)=l1 at hg2 hl1;have HE1:=hid he1;have HL1:=hid hl1;clear he1 hl1;have HB2:=hid (HB1.o.trans (q5b hgr2 hs1 (fun k h=>by cases h)));have hs2:=HB2.o.size;obtain⟨a2,k2,rfl,_,_,_,ho2⟩:=hg2.o;have hl1:=HL1.o;generalize hn1:l1.length=n1 at hg2 ho2 hl1;have HG2:=hid hg2;have HO2:=hid ho2;clear hg2 hgr2 hat2 ho2 hn1;go_wp2_with fail;rw[<-HX.o];refine(q4t ds _ cap hl (ds.length+1) (i+1) w2 (HN.o.below HB2.o) (by omega) (by omega)).mono ?_;rintro e w4⟨rfl,rfl⟩;rw[HE.o];have hz:v6p (some (i+1+A.length))=((i+1+A.length:Nat):Int):=rfl;rw[hz];generalize hj:i+1+A.length=j at HD2⊢;clear hz hj;go_wp2_with fail;refine(HC.o j r bs ba bc m w2 HD2.o (HN.o.below HB2.o) (HM.o.below HB2.o) hbc hbl HXX.o (by omega)).mono ?_;rintro e w3⟨a3,k3,rfl,h3,h4,hb3⟩;have HW3:=hid (h4 (Value.slice a2 n1 k2).ownBlock (fun k h=>(HO2.o k h).2) (HM.o.apart HB2.o fun k h=>(HO2.o k h).1));have HG3:=hid (HG2.o.below hb3);have HB3:=hid (HB2.o.trans (hb3.mono hs2));have hs3:=HB3.o.size;clear h4 hb3;go_wp2_with fail;refine(q6d w.heap.size (.slice a2 n1 k2) l1 (g bs) 1 a3 k3 w3 HG3.o HW3.o hs3 (by have:=HF1.o;have:=HC1.o;have:=HL1.o;omega) (fun x h=>by have:=HC2.o x h;omega)).mono ?_;rintro e w5⟨v5,rfl,hg5,hgr5,_⟩;generalize he5:l1++(g bs).map (1::·)=l5 at hg5;have HG5:=hid hg5;have HE5:Hid (F bs=l5.take 301):=(show _=_ by rw[HF.o,HE1.o,he5]);clear he5;have HB5:=hid (HB3.o.trans (q5b hgr5 hs3 (fun k h=>(HO2.o k h).1)));clear hg5 hgr5;obtain⟨a5,k5,rfl,h5,h6,h7,_⟩:=HG5.o.o;have H7:=hid h7;generalize hn5:l5.length=n5 at h5 h6;have HL5:=hid hn5;clear h7 hn5 HG5;by_cases hcut:301<n5
 ·obtain⟨q5,rfl⟩:∃q5,a5=some ⟨q5,0,none⟩:=h6.resolve_left (by omega);have hcz:(301:Int)<(n5:Int):=by omega
  clear h6;go_wp2;go_ret;rw[HE5.o];refine⟨some ↑q5,k5,?_,?_,fun q hq _=>(H7.o q hq).take 301,HB5.o⟩
  ·have e:(l5.take 301).length=301:=by rw[List.length_take,HL5.o];omega
   rw[e];rfl
  ·rw[List.length_take,HL5.o];omega
 ·have hcz:¬(301:Int)<(n5:Int):=by omega
  clear h6;go_wp2;go_ret;rw[HE5.o];refine⟨a5,k5,?_,?_,fun q hq _=>(H7.o q hq).take 301,HB5.o⟩
  ·have e:(l5.take 301).length=n5:=by rw[List.length_take,HL5.o];omega
   rw[e];rfl
  ·rw[List.length_take,HL5.o];omega
theorem j9d(t:Tr):y2s t.nodes t.tl:=⟨k7r t,j9e t⟩
theorem z0x(ds:List Nd)(a:Option Addr)(cap:Nat)(hl:ds.length<=400):∀t:Tr,t.Wf->t.nodes.length<=400->k5l ds a cap t.nodes t.tl
 | .leaf ⟨op,tx,n⟩,h,hn=>j0m ds a cap op (q3w h.1 h.2) tx n
 | .one ⟨op,tx,n⟩ a',h,hn=>by
  have hn':a'.nodes.length<=400:=by simp[Tr.nodes]at hn;omega
  have ih:=z0x ds a cap hl a' h.2.2 hn';rcases q7z h.2.1 with e|e
  all_goals (simp only at e;subst e)
  ·exact y1y ds a cap hl tx n _ _ ih
  ·have hF:=q3u ds a cap hl a' h.2.2 hn'
   have e8:Tr.tl (.one ⟨8,tx,n⟩ a')=fun bs=>((if a'.isFlat=true then bs.map (0::·)else [])++(a'.tl bs).map (1::·)).take 301:=by
    funext bs
    simp[Tr.tl]
   rw[e8];cases hb:a'.isFlat with
   | true=>rw[hb]at hF;exact v5e ds a cap hl tx n _ _ _ ih (j9d a') hF _ (show ∀_,_ from fun bs=>by simp)
   | false=>rw[hb]at hF;exact v5d ds a cap hl tx n _ _ _ ih (j9d a') hF _ (show ∀_,_ from fun bs=>by simp)
 | .two ⟨op,tx,n⟩ a' c,h,hn=>by
  have hn1:a'.nodes.length<=400:=by simp[Tr.nodes]at hn;omega
  have hn2:c.nodes.length<=400:=by simp[Tr.nodes]at hn;omega
  have ia:=z0x ds a cap hl a' h.2.2.1 hn1;have ic:=z0x ds a cap hl c h.2.2.2 hn2;rcases q7m h.2.1 with e|e
  all_goals (simp only at e;subst e)
  ·have e6:Tr.tl (.two ⟨6,tx,n⟩ a' c)=fun bs=>a'.tl (c.tl bs):=by
    funext bs
    simp[Tr.tl]
   rw[e6];exact y1x ds a cap hl tx n _ _ _ _ ia ic (j9d c) fun i r hd=>q4r h.2.2.1 hd
  ·exact y1z ds a cap hl tx n _ _ _ _ ia (j9d a') ic (j9d c) (fun i r hd=>q4r h.2.2.1 hd) _ (show ∀_,_ from fun bs=>by simp[Tr.tl])
def q9v(B:Nat)(w:World)(a:Option Addr)(ds:List Nd):Prop:=
 ∀i(h:i<ds.length),∃b o,a=some ⟨b,o,none⟩/\b<B/\w.cell? ⟨b,o+i*3,none⟩=some (.int .i64 ds[i].op)/\w.cell? ⟨b,o+i*3+1,none⟩=some (.string ds[i].tx)/\w.cell? ⟨b,o+i*3+2,none⟩=some (.int .i64 ds[i].n)
theorem q9v.below{B:Nat}{w w':World}{a:Option Addr}{ds:List Nd}(h:q9v B w a ds)(hb:Below B w w'):q9v B w' a ds:=by
 intro i hi;obtain⟨b,o,e,hlt,c1,c2,c3⟩:=h i hi;exact⟨b,o,e,hlt,(hb.cell (p:=⟨b,_,none⟩) hlt).trans c1,(hb.cell (p:=⟨b,_,none⟩) hlt).trans c2,(hb.cell (p:=⟨b,_,none⟩) hlt).trans c3⟩
theorem q9v.nods{B:Nat}{w:World}{a:Option Addr}{ds:List Nd}(h:q9v B w a ds)(hB:B<=w.heap.size):q1u w a ds:=by
 intro i hi;obtain⟨b,o,e,hlt,c1,c2,c3⟩:=h i hi;exact⟨b,o,e,by omega,c1,c2,c3⟩
def q5g(B b:Nat)(d:Value)(v:Value)(s:ByteArray)(e:Int)(w:World):Prop:=
 B<=b/\b<w.heap.size/\w.cell? ⟨b,0,none⟩=some d/\w.cell? ⟨b,1,none⟩=some v/\w.cell? ⟨b,2,none⟩=some (.string s)/\w.cell? ⟨b,3,none⟩=some (.int .i64 e)
  /\w.frozen? ⟨b,1,none⟩=false/\w.frozen? ⟨b,2,none⟩=false/\w.frozen? ⟨b,3,none⟩=false
theorem q5g.below{B b:Nat}{d v:Value}{s:ByteArray}{e:Int}{w w':World}(h:q5g B b d v s e w)(hb:Below w w w'):q5g B b d v s e w':=by
 obtain⟨h0,h1,c0,c1,c2,c3,f1,f2,f3⟩:=h;obtain⟨hc,hf⟩:=q1v hb
 have:=hb.size
 exact⟨h0,by omega,(hc _ _ h1).trans c0,(hc _ _ h1).trans c1,(hc _ _ h1).trans c2,(hc _ _ h1).trans c3,(hf _ _ h1).trans f1,(hf _ _ h1).trans f2,(hf _ _ h1).trans f3⟩
theorem q5g.alloc{B b:Nat}{d v:Value}{s:ByteArray}{e:Int}{w:World}(h:q5g B b d v s e w)(O:Obj):q5g B b d v s e (w.alloc O):=h.below (Zb.alloc Zl _)
theorem q5g.drew{B b:Nat}{d v:Value}{s:ByteArray}{e:Int}{w:World}(h:q5g B b d v s e w):q5g B b d v s e w.drew:=h
theorem q7a(w:World)(p:Addr)(v:Value):(w.setCell p v).heap.size=w.heap.size:=by simp[World.setCell]
theorem q5g.text{B b:Nat}{d v:Value}{s:ByteArray}{e:Int}{w:World}(h:q5g B b d v s e w)(s':ByteArray):q5g B b d v s' e (w.setCell ⟨b,2,none⟩ (.string s')):=by
 obtain⟨h0,h1,c0,c1,c2,c3,f1,f2,f3⟩:=h;exact⟨h0,by rw[q7a];exact h1,(cso (by omega)).trans c0,(cso (by omega)).trans c1,css c2,(cso (by omega)).trans c3,csf.trans f1,csf.trans f2,csf.trans f3⟩
theorem q5g.ways{B b:Nat}{d v:Value}{s:ByteArray}{e:Int}{w:World}(h:q5g B b d v s e w)(v':Value):q5g B b d v' s e (w.setCell ⟨b,1,none⟩ v'):=by
 obtain⟨h0,h1,c0,c1,c2,c3,f1,f2,f3⟩:=h;exact⟨h0,by rw[q7a];exact h1,(cso (by omega)).trans c0,css c1,(cso (by omega)).trans c2,(cso (by omega)).trans c3,csf.trans f1,csf.trans f2,csf.trans f3⟩
theorem q5g.fault{B b:Nat}{d v:Value}{s:ByteArray}{e:Int}{w:World}(h:q5g B b d v s e w)(e':Int):q5g B b d v s e' (w.setCell ⟨b,3,none⟩ (.int .i64 e')):=by
 obtain⟨h0,h1,c0,c1,c2,c3,f1,f2,f3⟩:=h;exact⟨h0,by rw[q7a];exact h1,(cso (by omega)).trans c0,(cso (by omega)).trans c1,(cso (by omega)).trans c2,css c3,csf.trans f1,csf.trans f2,csf.trans f3⟩
theorem z1l(n:Nat)(hn:n<=4000)(w:World):Calls prog 150 #[.int .i64 n] w fun e w'=>e=.returned (.string ⟨(List.replicate n 32).toArray⟩)/\w=w':=by
 go_in;go_wp2
 go_loopw [3,4] (fun s i wr=>wr=w/\∃(k:Nat)(t:ByteArray),k<=n/\i=.int .i64 k/\s=.string t/\t.data.toList=List.replicate k 32) (fun _ i _=>n-(intOf i).toNat)
 case atStart=>exact⟨rfl,0,⟨#[]⟩,Nat.zero_le _,rfl,rfl,rfl⟩
 case round=>
  obtain⟨rfl,k,t,hk,rfl,rfl,ht⟩:=hrel;have hts:t.size<=4000:=by rw[<-q0q,ht,List.length_replicate];omega
  have HT:Hid (t.data.toList=List.replicate k 32):=ht;clear ht;by_cases hlt:k<n
  ·go_wp2
   go_roundw
   case rel=>
    refine⟨by trivial,k+1,_,by omega,by go_num,rfl,?_⟩;simp[HT.o,List.replicate_succ']
   case measure=>simp[intOf];omega
  ·obtain rfl:k=n:=by omega
   have e:t=⟨(List.replicate k 32).toArray⟩:=q6a (by rw[HT.o]);go_wp2;go_ret;exact⟨by rw[<-e];rfl,rfl⟩
theorem z3q{B b:Nat}{d:Value}{wa:Option Addr}{wc:Nat}{s:ByteArray}{w:World}(h:q5g B b d (.slice wa 0 wc) s 0 w):
  Calls prog 151 #[.pointer (some ⟨b,0,none⟩)] w fun e w'=>e=.returned (.int .i64 0)/\q5g B b d (.slice wa 0 wc) s 2 w'/\Below B w w':=by
 have HL:Hid (q5g B b d (.slice wa 0 wc) s 0 w):=h;obtain⟨h0,h1,c0,c1,c2,c3,f1,f2,f3⟩:=h;go_in;go_wp2;go_ret;exact⟨rfl,HL.o.fault 2,Zb.setCell (p:=⟨b,3,none⟩) h0 _⟩
theorem q4x{B b:Nat}{d:Value}{wa:Option Addr}{wc:Nat}{s:ByteArray}{w:World}(c:Int)(ws:List Int)(h:q5g B b d (.slice wa (ws.length+1) wc) s 0 w)(hI:q2l B w wa (c::ws))(hc:ws.length+1<=wc):
  Calls prog 151 #[.pointer (some ⟨b,0,none⟩)] w fun e w'=>e=.returned (.int .i64 c)/\(∃wa' wc',q5g B b d (.slice wa' ws.length wc') s 0 w'/\q2l B w' wa' ws/\ws.length<=wc')/\Below B w w':=by
 have HL:Hid (q5g B b d (.slice wa (ws.length+1) wc) s 0 w):=h;obtain⟨b0,o0,ea,hlt,d1⟩:=hI 0 (by simp);subst ea;have HS:Hid (q2l B w (if wc=1 then some ⟨b0,o0,none⟩else some ⟨b0,o0+1,none⟩) ws):=hI.slid hc;obtain⟨h0,h1,c0,c1,c2,c3,f1,f2,f3⟩:=h;simp only[Nat.add_zero,List.getElem_cons_zero]at d1;have hr1:(1:Int)<=(ws.length:Int)+1:=by omega
 have hr0:((ws.length:Int)+1==0)=false:=beq_eq_false_iff_ne.2 (by omega);have hbb:b0≠b:=by omega
 clear hI;by_cases hw:wc=1
 ·have HW:Hid (wc=1):=hw;have hsl:=HS.o;rw[if_pos hw]at hsl;have HS1:Hid (q2l B w (some ⟨b0,o0,none⟩) ws):=hsl;clear hsl;go_in;go_wp2;go_ret;have hB:∀v,Below B w (w.setCell ⟨b,1,none⟩ v):=fun v=> Zb.setCell (p:=⟨b,1,none⟩) h0 _
  exact⟨rfl,⟨_,_,HL.o.ways _,HS1.o.below (hB _),by omega⟩,hB _⟩
 ·have hsl:=HS.o;rw[if_neg hw]at hsl;have HS1:Hid (q2l B w (some ⟨b0,o0+1,none⟩) ws):=hsl;clear hsl;go_in;go_wp2;go_ret;have hB:∀v,Below B w (w.setCell ⟨b,1,none⟩ v):=fun v=> Zb.setCell (p:=⟨b,1,none⟩) h0 _
  exact⟨rfl,⟨_,_,HL.o.ways _,HS1.o.below (hB _),by omega⟩,hB _⟩
def Laid(B b:Nat)(dv:Value)(res:Except Int (List UInt8 × List Int))(s0:ByteArray)(w':World):Prop:=
 match res with
 | .ok (u,ws')=>∃wa' wc' s',s'.data.toList=s0.data.toList++u/\q5g B b dv (.slice wa' ws'.length wc') s' 0 w'/\q2l B w' wa' ws'/\ws'.length<=wc'
 | .error e=>e≠0/\∃v' s',q5g B b dv v' s' e w'
def q7o(B b:Nat)(ds:List Nd)(a:Option Addr)(cap:Nat)(A:List Nd)(f:Nat->List Int->Except Int (List UInt8 × List Int)):Prop:=
 ∀(i:Nat)(r:List Nd)(deep:Nat)(ws:List Int)(wa:Option Addr)(wc:Nat)(s:ByteArray)(w:World),ds.drop i=A++r->q9v B w a ds->q2l B w wa ws->ws.length<=wc->q5g B b (.slice a ds.length cap) (.slice wa ws.length wc) s 0 w->
  deep+8*A.length<=3300->s.size+4000*A.length<=1000000000->
  Calls prog 95 #[.pointer (some ⟨b,0,none⟩),.int .i64 i,.int .i64 deep] w fun e w'=>e=.returned (.tuple #[])/\Laid B b (.slice a ds.length cap) (f deep ws) s w'/\Below B w w'
theorem q5g.bsize{B b:Nat}{d v:Value}{s:ByteArray}{e:Int}{w:World}(h:q5g B b d v s e w):B<=w.heap.size:=by
 obtain⟨h0,h1,_⟩:=h;omega
theorem q5g.grown{B b:Nat}{d v:Value}{s:ByteArray}{e:Int}{w w':World}(_h:q5g B b d v s e w)(hb:Below w w w'):Below B w w':=by
 have:=_h.bsize
 exact hb.mono this
theorem j4t{B b:Nat}(ds:List Nd)(a:Option Addr)(cap:Nat){v:Value}{s:ByteArray}{e:Int}(i:Nat)(deep:Int)(w:World)(hi:i<ds.length)(hN:q9v B w a ds)(h:q5g B b (.slice a ds.length cap) v s e w)(he:e≠0):
  Calls prog 95 #[.pointer (some ⟨b,0,none⟩),.int .i64 i,.int .i64 deep] w fun r w'=>r=.returned (.tuple #[])/\q5g B b (.slice a ds.length cap) v s e w'/\Below B w w':=by
 have HL:Hid (q5g B b (.slice a ds.length cap) v s e w):=h;obtain⟨b0,o0,ea,hlt,d1,d2,d3⟩:=hN i hi;subst ea;obtain⟨h0,h1,c0,c1,c2,c3,f1,f2,f3⟩:=h;have he':(e != 0)=true:=by simp[he]
 have hb0:b0<w.heap.size:=by omega
 clear hN he;go_in;go_wp2;exact bodyPost_ret (v:=.tuple #[]) (by simp[results,Tryz.results95,go_sem]) rfl ⟨rfl,HL.o.alloc _,Zb.alloc HL.o.bsize _⟩
set_option maxHeartbeats 4000000
theorem y7w(B b:Nat)(ds:List Nd)(a:Option Addr)(cap:Nat)(tx:ByteArray)(n:Int):q7o B b ds a cap (⟨5,tx,n⟩::[]) (fun _ ws=>.ok ([],ws)):=by
 intro i r deep ws wa wc s w hd hN hI hwc hL hdeep hsz;obtain⟨hi,e1,e2⟩:=q0m (x:=⟨5,tx,n⟩) (r:=[]++r) hd;obtain⟨b0,o0,ea,hlt,d1,d2,d3⟩:=hN i hi;subst ea;rw[e1]at d1 d2 d3;dsimp only at d1 d2 d3;simp only[List.length_cons,List.length_nil]at hdeep hsz;have HD:Hid (ds.drop (i+1)=[]++r):=e2;have HN:Hid (q9v B w (some ⟨b0,o0,none⟩) ds):=hN;have HI:Hid (q2l B w wa ws):=hI;have HL:Hid (q5g B b (.slice (some ⟨b0,o0,none⟩) ds.length cap) (.slice wa ws.length wc) s 0 w):=hL;have hbs:=hL.bsize;obtain⟨h0,h1,c0,c1,c2,c3,f1,f2,f3⟩:=hL;have hb0:b0<w.heap.size:=by omega
 have HB:Hid (∀O:Obj,Below B w (w.alloc O)):=fun O=>(Below.refl _ w).alloc hbs O
 clear hd e1 e2 hN hI;go_in;go_wp2
 go_end0
 exact⟨rfl,⟨wa,wc,s,by simp,HL.o.alloc _,HI.o.below (HB.o _),hwc⟩,HB.o _⟩
theorem y7s(B b:Nat)(ds:List Nd)(a:Option Addr)(cap:Nat)(tx:ByteArray)(n:Int)(ht:tx.size<=20):q7o B b ds a cap (⟨1,tx,n⟩::[]) (fun _ ws=>.ok (tx.data.toList,ws)):=by
 intro i r deep ws wa wc s w hd hN hI hwc hL hdeep hsz;obtain⟨hi,e1,e2⟩:=q0m (x:=⟨1,tx,n⟩) (r:=[]++r) hd;obtain⟨b0,o0,ea,hlt,d1,d2,d3⟩:=hN i hi;subst ea;rw[e1]at d1 d2 d3;dsimp only at d1 d2 d3;simp only[List.length_cons,List.length_nil]at hdeep hsz;have HD:Hid (ds.drop (i+1)=[]++r):=e2;have HN:Hid (q9v B w (some ⟨b0,o0,none⟩) ds):=hN;have HI:Hid (q2l B w wa ws):=hI;have HL:Hid (q5g B b (.slice (some ⟨b0,o0,none⟩) ds.length cap) (.slice wa ws.length wc) s 0 w):=hL;have hbs:=hL.bsize;obtain⟨h0,h1,c0,c1,c2,c3,f1,f2,f3⟩:=hL;have hb0:b0<w.heap.size:=by omega
 have HB:Hid (∀O:Obj,Below B w (w.alloc O)):=fun O=>(Below.refl _ w).alloc hbs O
 clear hd e1 e2 hN hI;go_in;go_wp2_with fail
 go_region
 all_goals
  go_wp2
  go_end0
  have HB2:∀(O:Obj)(v:Value),Below B w ((w.setCell ⟨b,2,none⟩ v).alloc O).drew:=fun O v=>Below.drew (((Below.refl B w).setCell (p:=⟨b,2,none⟩) h0 _).alloc (by rw[q7a];exact hbs) O)
  exact⟨rfl,⟨wa,wc,s++tx,by simp,q5g.drew ((HL.o.text _).alloc _),HI.o.below (HB2 _ _),hwc⟩,HB2 _ _⟩
theorem y7t(B b:Nat)(ds:List Nd)(a:Option Addr)(cap:Nat)(tx:ByteArray)(n:Int):q7o B b ds a cap (⟨2,tx,n⟩::[]) (fun deep ws=>.ok (10::List.replicate deep 32,ws)):=by
 intro i r deep ws wa wc s w hd hN hI hwc hL hdeep hsz;obtain⟨hi,e1,e2⟩:=q0m (x:=⟨2,tx,n⟩) (r:=[]++r) hd;obtain⟨b0,o0,ea,hlt,d1,d2,d3⟩:=hN i hi;subst ea;rw[e1]at d1 d2 d3;dsimp only at d1 d2 d3;simp only[List.length_cons,List.length_nil]at hdeep hsz;have HD:Hid (ds.drop (i+1)=[]++r):=e2;have HN:Hid (q9v B w (some ⟨b0,o0,none⟩) ds):=hN;have HI:Hid (q2l B w wa ws):=hI;have HL:Hid (q5g B b (.slice (some ⟨b0,o0,none⟩) ds.length cap) (.slice wa ws.length wc) s 0 w):=hL;have hbs:=hL.bsize;obtain⟨h0,h1,c0,c1,c2,c3,f1,f2,f3⟩:=hL;have hb0:b0<w.heap.size:=by omega
 have HB:Hid (∀O:Obj,Below B w (w.alloc O)):=fun O=>(Below.refl _ w).alloc hbs O
 clear hd e1 e2 hN hI;have hb4:deep<=4000:=by omega
 have hbz:((⟨(List.replicate deep 32).toArray⟩:ByteArray)).size=deep:=by rw[<-q0q];simp
 generalize hbk:(⟨(List.replicate deep 32).toArray⟩:ByteArray)=bk at hbz;have HBK:Hid (bk.data.toList=List.replicate deep 32):=(show _=_ by rw[<-hbk]);have HK:Hid (∀W:World,Calls prog 150 #[.int .i64 deep] W fun e w'=>e=.returned (.string bk)/\W=w'):=fun W=>by rw[<-hbk];exact z1l deep hb4 W
 have hbk4:bk.size<=4000:=by omega
 clear hbk hbz;go_in;go_wp2_with fail
 go_region_with (go_at_call 150;refine(HK.o _).mono ?_;rintro e w'⟨rfl,rfl⟩)
 all_goals
  go_wp2
  go_end0
  have HB2:∀(O:Obj)(v:Value),Below B w ((w.setCell ⟨b,2,none⟩ v).alloc O).drew:=fun O v=>Below.drew (((Below.refl B w).setCell (p:=⟨b,2,none⟩) h0 _).alloc (by rw[q7a];exact hbs) O)
  refine⟨rfl,?_,HB2 _ _⟩;refine⟨wa,wc,_,?_,q5g.drew ((HL.o.text _).alloc _),HI.o.below (HB2 _ _),hwc⟩;simp[HBK.o]
theorem y7u(B b:Nat)(ds:List Nd)(a:Option Addr)(cap:Nat)(tx:ByteArray)(n:Int):q7o B b ds a cap (⟨3,tx,n⟩::[]) (fun deep ws=>.ok (10::List.replicate deep 32,ws)):=by
 intro i r deep ws wa wc s w hd hN hI hwc hL hdeep hsz;obtain⟨hi,e1,e2⟩:=q0m (x:=⟨3,tx,n⟩) (r:=[]++r) hd;obtain⟨b0,o0,ea,hlt,d1,d2,d3⟩:=hN i hi;subst ea;rw[e1]at d1 d2 d3;dsimp only at d1 d2 d3;simp only[List.length_cons,List.length_nil]at hdeep hsz;have HD:Hid (ds.drop (i+1)=[]++r):=e2;have HN:Hid (q9v B w (some ⟨b0,o0,none⟩) ds):=hN;have HI:Hid (q2l B w wa ws):=hI;have HL:Hid (q5g B b (.slice (some ⟨b0,o0,none⟩) ds.length cap) (.slice wa ws.length wc) s 0 w):=hL;have hbs:=hL.bsize;obtain⟨h0,h1,c0,c1,c2,c3,f1,f2,f3⟩:=hL;have hb0:b0<w.heap.size:=by omega
 have HB:Hid (∀O:Obj,Below B w (w.alloc O)):=fun O=>(Below.refl _ w).alloc hbs O
 clear hd e1 e2 hN hI;have hb4:deep<=4000:=by omega
 have hbz:((⟨(List.replicate deep 32).toArray⟩:ByteArray)).size=deep:=by rw[<-q0q];simp
 generalize hbk:(⟨(List.replicate deep 32).toArray⟩:ByteArray)=bk at hbz;have HBK:Hid (bk.data.toList=List.replicate deep 32):=(show _=_ by rw[<-hbk]);have HK:Hid (∀W:World,Calls prog 150 #[.int .i64 deep] W fun e w'=>e=.returned (.string bk)/\W=w'):=fun W=>by rw[<-hbk];exact z1l deep hb4 W
 have hbk4:bk.size<=4000:=by omega
 clear hbk hbz;go_in;go_wp2_with fail
 go_region_with (go_at_call 150;refine(HK.o _).mono ?_;rintro e w'⟨rfl,rfl⟩)
 all_goals
  go_wp2
  go_end0
  have HB2:∀(O:Obj)(v:Value),Below B w ((w.setCell ⟨b,2,none⟩ v).alloc O).drew:=fun O v=>Below.drew (((Below.refl B w).setCell (p:=⟨b,2,none⟩) h0 _).alloc (by rw[q7a];exact hbs) O)
  refine⟨rfl,?_,HB2 _ _⟩;refine⟨wa,wc,_,?_,q5g.drew ((HL.o.text _).alloc _),HI.o.below (HB2 _ _),hwc⟩;simp[HBK.o]
theorem y7v(B b:Nat)(ds:List Nd)(a:Option Addr)(cap:Nat)(tx:ByteArray)(n:Int):q7o B b ds a cap (⟨4,tx,n⟩::[]) (fun deep ws=>.ok (10::List.replicate deep 32,ws)):=by
 intro i r deep ws wa wc s w hd hN hI hwc hL hdeep hsz;obtain⟨hi,e1,e2⟩:=q0m (x:=⟨4,tx,n⟩) (r:=[]++r) hd;obtain⟨b0,o0,ea,hlt,d1,d2,d3⟩:=hN i hi;subst ea;rw[e1]at d1 d2 d3;dsimp only at d1 d2 d3;simp only[List.length_cons,List.length_nil]at hdeep hsz;have HD:Hid (ds.drop (i+1)=[]++r):=e2;have HN:Hid (q9v B w (some ⟨b0,o0,none⟩) ds):=hN;have HI:Hid (q2l B w wa ws):=hI;have HL:Hid (q5g B b (.slice (some ⟨b0,o0,none⟩) ds.length cap) (.slice wa ws.length wc) s 0 w):=hL;have hbs:=hL.bsize;obtain⟨h0,h1,c0,c1,c2,c3,f1,f2,f3⟩:=hL;have hb0:b0<w.heap.size:=by omega
 have HB:Hid (∀O:Obj,Below B w (w.alloc O)):=fun O=>(Below.refl _ w).alloc hbs O
 clear hd e1 e2 hN hI;have hb4:deep<=4000:=by omega
 have hbz:((⟨(List.replicate deep 32).toArray⟩:ByteArray)).size=deep:=by rw[<-q0q];simp
 generalize hbk:(⟨(List.replicate deep 32).toArray⟩:ByteArray)=bk at hbz;have HBK:Hid (bk.data.toList=List.replicate deep 32):=(show _=_ by rw[<-hbk]);have HK:Hid (∀W:World,Calls prog 150 #[.int .i64 deep] W fun e w'=>e=.returned (.string bk)/\W=w'):=fun W=>by rw[<-hbk];exact z1l deep hb4 W
 have hbk4:bk.size<=4000:=by omega
 clear hbk hbz;go_in;go_wp2_with fail
 go_region_with (go_at_call 150;refine(HK.o _).mono ?_;rintro e w'⟨rfl,rfl⟩)
 all_goals
  go_wp2
  go_end0
  have HB2:∀(O:Obj)(v:Value),Below B w ((w.setCell ⟨b,2,none⟩ v).alloc O).drew:=fun O v=>Below.drew (((Below.refl B w).setCell (p:=⟨b,2,none⟩) h0 _).alloc (by rw[q7a];exact hbs) O)
  refine⟨rfl,?_,HB2 _ _⟩;refine⟨wa,wc,_,?_,q5g.drew ((HL.o.text _).alloc _),HI.o.below (HB2 _ _),hwc⟩;simp[HBK.o]
theorem y7x(B b:Nat)(ds:List Nd)(a:Option Addr)(cap:Nat)(hl:ds.length<=400)(tx:ByteArray)(n:Int)(A C:List Nd)(f g:Nat->List Int->Except Int (List UInt8 × List Int))(hA:q7o B b ds a cap A f)(hC:q7o B b ds a cap C g)(hE:∀i r,ds.drop i=A++r->q0v ds i 1=some (i+A.length))(hC0:0<C.length)(hfl:∀deep ws u v,f deep ws=.ok (u,v)->deep+8*A.length<=3300->u.length<=4000*A.length):q7o B b ds a cap (⟨6,tx,n⟩::(A++C)) (q6t f g):=by
 intro i r deep ws wa wc s w hd hN hI hwc hL hdeep hsz;obtain⟨hi,e1,e2⟩:=q0m (x:=⟨6,tx,n⟩) (r:=(A++C)++r) hd;obtain⟨b0,o0,ea,hlt,d1,d2,d3⟩:=hN i hi;subst ea;rw[e1]at d1 d2 d3;dsimp only at d1 d2 d3;simp only[List.length_cons,List.length_append]at hdeep hsz;have HD:=hid e2;have HN:=hid hN;have HI:=hid hI;have HL:=hid hL;have hbs:=hL.bsize;obtain⟨h0,h1,c0,c1,c2,c3,f1,f2,f3⟩:=hL;have hb0:b0<w.heap.size:=by omega
 have HB:Hid (∀O:Obj,Below B w (w.alloc O)):=fun O=>(Below.refl _ w).alloc hbs O
 have HA:=hid hA;have HC:=hid hC;have HX:Hid (((i+1:Nat):Int)=(i:Int)+1):=(show _=_ by omega);rw[List.append_assoc]at HD;have HE:=hid (hE (i+1) (C++r) HD.o);have HD2:=hid (q7r HD.o)
 have HJ:Hid (i+1+A.length<ds.length):=(show _<_ by
  have h1:=congrArg List.length HD2.o;simp at h1
  omega)
 clear hd e1 e2 hN hI hA hC hE;cases hf:f deep ws with
 | error e0=>
  have HFE:=hid hf;clear hf;go_in;go_wp2_with fail;rw[<-HX.o];refine(HA.o (i+1) (C++r) deep ws wa wc s _ HD.o (HN.o.below (HB.o _)) (HI.o.below (HB.o _)) hwc (HL.o.alloc _) (by omega) (by omega)).mono ?_;rintro e w2⟨rfl,hl2,hb2⟩;rw[HFE.o]at hl2;obtain⟨he0,v',s',hl2⟩:=hl2;have HL2:=hid hl2;have HB2:=hid ((HB.o _).trans hb2);have HE0:=hid he0;obtain⟨_,k1,k0,_,_,_,_,_,_⟩:=hl2;clear hb2 he0;go_wp2_with fail;rw[<-HX.o];refine(q4t ds _ cap hl (ds.length+1) (i+1) w2 ((HN.o.below HB2.o).nods HL2.o.bsize) (by omega) (by omega)).mono ?_;rintro e w3⟨rfl,rfl⟩;rw[HE.o];have hz:v6p (some (i+1+A.length))=((i+1+A.length:Nat):Int):=rfl;rw[hz];generalize hj:i+1+A.length=j at HD2 HJ⊢;clear hz hj;go_wp2_with fail;refine(j4t ds _ cap j deep w2 HJ.o (HN.o.below HB2.o) HL2.o HE0.o).mono ?_;rintro e w4⟨rfl,hl4,hb4⟩;go_wp2
  go_end0
  refine⟨rfl,?_,HB2.o.trans hb4⟩;rw[q6t,HFE.o];exact⟨HE0.o,_,_,hl4⟩
 | ok p=>
  obtain⟨u,ws1⟩:=p;have HFE:=hid hf;have hul:=hfl deep ws u ws1 hf (by omega);clear hf hfl;go_in;go_wp2_with fail;rw[<-HX.o];refine(HA.o (i+1) (C++r) deep ws wa wc s _ HD.o (HN.o.below (HB.o _)) (HI.o.below (HB.o _)) hwc (HL.o.alloc _) (by omega) (by omega)).mono ?_;rintro e w2⟨rfl,hl2,hb2⟩;rw[HFE.o]at hl2;obtain⟨wa1,wc1,s1,es1,hl2,hi2,hw2⟩:=hl2;have hs1:s1.size=s.size+u.length:=by rw[<-q0q,<-q0q,es1,List.length_append]
  have HS1:=hid hs1;have HES:=hid es1;have HL2:=hid hl2;have HI2:=hid hi2;have HB2:=hid ((HB.o _).trans hb2);obtain⟨_,k1,k0,_,_,_,_,_,_⟩:=hl2;clear hb2 hi2 hs1 es1;go_wp2_with fail;rw[<-HX.o];refine(q4t ds _ cap hl (ds.length+1) (i+1) w2 ((HN.o.below HB2.o).nods HL2.o.bsize) (by omega) (by omega)).mono ?_;rintro e w3⟨rfl,rfl⟩;rw[HE.o];have hz:v6p (some (i+1+A.length))=((i+1+A.length:Nat):Int):=rfl;rw[hz];generalize hj:i+1+A.length=j at HD2 HJ⊢;clear hz hj;go_wp2_with fail;refine(HC.o j r deep ws1 wa1 wc1 s1 _ HD2.o (HN.o.below HB2.o) HI2.o hw2 HL2.o (by omega) (by have:=HS1.o;omega)).mono ?_;rintro e w4⟨rfl,hl4,hb4⟩;go_wp2
  go_end0
  refine⟨rfl,?_,HB2.o.trans hb4⟩;rw[q6t,HFE.o];dsimp only;cases hg:g deep ws1 with
  | error e1=>rw[hg]at hl4;exact hl4
  | ok q=>
   obtain⟨t,ws2⟩:=q;rw[hg]at hl4;obtain⟨wa2,wc2,s2,es2,hl5,hi5,hw5⟩:=hl4;exact⟨wa2,wc2,s2,by rw[es2,HES.o,List.append_assoc],hl5,hi5,hw5⟩
theorem y7y(B b:Nat)(ds:List Nd)(a:Option Addr)(cap:Nat)(hl:ds.length<=400)(tx:ByteArray)(n:Int)(hn0:0<=n)(hn8:n<=8)(A:List Nd)(f:Nat->List Int->Except Int (List UInt8 × List Int))(hA:q7o B b ds a cap A f):q7o B b ds a cap (⟨7,tx,n⟩::A) (fun deep ws=>f (deep+n.toNat) ws):=by
 intro i r deep ws wa wc s w hd hN hI hwc hL hdeep hsz;obtain⟨hi,e1,e2⟩:=q0m (x:=⟨7,tx,n⟩) (r:=A++r) hd;obtain⟨b0,o0,ea,hlt,d1,d2,d3⟩:=hN i hi;subst ea;rw[e1]at d1 d2 d3;dsimp only at d1 d2 d3;simp only[List.length_cons]at hdeep hsz;have HD:Hid (ds.drop (i+1)=A++r):=e2;have HN:Hid (q9v B w (some ⟨b0,o0,none⟩) ds):=hN;have HI:Hid (q2l B w wa ws):=hI;have HL:Hid (q5g B b (.slice (some ⟨b0,o0,none⟩) ds.length cap) (.slice wa ws.length wc) s 0 w):=hL;have hbs:=hL.bsize;obtain⟨h0,h1,c0,c1,c2,c3,f1,f2,f3⟩:=hL;have hb0:b0<w.heap.size:=by omega
 have HB:Hid (∀O:Obj,Below B w (w.alloc O)):=fun O=>(Below.refl _ w).alloc hbs O
 have HA:Hid (q7o B b ds (some ⟨b0,o0,none⟩) cap A f):=hA;have HX:Hid (((i+1:Nat):Int)=(i:Int)+1):=(show _=_ by omega);have HY:Hid (((deep+n.toNat:Nat):Int)=(deep:Int)+n):=(show _=_ by omega);clear hd e1 e2 hN hI hA;go_in;go_wp2_with fail;rw[<-HX.o,<-HY.o];refine(HA.o (i+1) r (deep+n.toNat) ws wa wc s _ HD.o (HN.o.below (HB.o _)) (HI.o.below (HB.o _)) hwc (HL.o.alloc _) (by omega) (by omega)).mono ?_;rintro e w2⟨rfl,hl2,hb2⟩;go_wp2
 go_end0
 exact⟨rfl,hl2,(HB.o _).trans hb2⟩
end Go.Proofs.YthjapabokcajhaaGreatDoor
