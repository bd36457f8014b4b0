/- Texts as one: WLay6, WLay7, WLay8, WLayC, WLayZ, ShowW. -/
import Derived.Test.YthjapabokcajhaaGreatDoorPi20
open Go.Proofs.Tryz
namespace Go.Proofs.YthjapabokcajhaaGreatDoor
open Go Go.RowKit
set_option maxRecDepth 100000
set_option maxHeartbeats 4000000
theorem y6j(B b s be bf:Nat)(hb:s<B/\be<B/\bf<B)(hB:B<=b)(ds:List Nd)(a:Option Addr)(cap:Nat)(hl:ds.length<=400)(tx:ByteArray)(n:Int)(A C:List Nd)(f g:Nat->List Int->Except Int (List UInt8 × List Int))(hA:q4b B b s be bf ds a cap A f)(hG:q4b B b s be bf ds a cap C g)(hE:∀i r,ds.drop i=A++r->r≠[]->∃t:Tr,t.Wf/\A=t.nodes)(hp:C≠[])(hlen:∀deep ws u v,f deep ws=.ok (u,v)->deep+8*A.length<=3300->u.length<=4000*A.length)(h01:∀deep ws u v,q3g ws->f deep ws=.ok (u,v)->q3g v):q4b B b s be bf ds a cap (⟨6,tx,n⟩::(A++C)) (q6t f g):=by
 intro i r deep ws wa wc l w hd hC hI hok hwc hW hdeep hsz;obtain⟨hi,e1,e2⟩:=q1s (x:=⟨6,tx,n⟩) (A:=(A++C)++r) hd;obtain⟨o0,ea,d1,d2,d3⟩:=hC.nd i hi;subst ea;rw[e1]at d1 d2 d3;dsimp only at d1 d2 d3;have c0:=hW.c0;have c1:=hW.c1;have c2:=hW.c2;have c5:=hW.c5;have hlt:=hW.lt;have hs0:s<w.heap.size:=by omega
 have hbs:B<=w.heap.size:=by omega
 have hiI:(i:Int)<(ds.length:Int):=by omega
 have HD:=hid hd;have HD1:=hid e2;have HC:=hid hC;have HI:=hid hI;have HW:=hid hW;have HA:Hid (∀O:Obj,Below B w (w.alloc O)):=fun O=>(Below.refl _ w).alloc hbs O
 clear hC hI hW hd e1 e2;simp only[List.length_cons,List.length_append]at hdeep hsz;have HF:=hid hA;have HG:=hid hG;have HX:Hid (((i+1:Nat):Int)=(i:Int)+1):=(show _=_ by omega);have HOK:=hid hok;have hd1:=HD1.o;rw[List.append_assoc]at hd1;have HD2:=hid hd1;obtain⟨t,ht,et⟩:=hE _ _ hd1 (fun h=>hp (List.append_eq_nil_iff.1 h).1);have HT:Hid (t.Wf/\A=t.nodes):=⟨ht,et⟩
 have hi1:(i:Int)+1<(ds.length:Int):=by
  have:=congrArg List.length hd1
  have h2:=List.length_pos_iff.2 hp;rw[List.length_drop,List.length_append,List.length_append]at this;omega
 have HL:=hid hlen;have H01:=hid h01;clear hA hG hok hd1 ht et hE hlen h01 hp;go_in;go_wp2_with fail;rw[<-HX.o];refine(HF.o (i+1) (C++r) deep ws wa wc l _ HD2.o (HC.o.below hb (HA.o _)) (HI.o.below (HA.o _)) HOK.o hwc (HW.o.alloc _) (by omega) (by omega)).mono ?_;rintro e w2⟨h2,hb2⟩;cases hres0:f deep ws with
 | error er=>
  rw[hres0]at h2;obtain⟨hne,rfl⟩:=h2;have HN:=hid hne;rw[q0w hne];clear hne;go_wp2;go_ret;refine⟨?_,(HA.o _).trans hb2⟩;rw[q6t,hres0];exact⟨HN.o,by rw[q0w HN.o];rfl⟩
 | ok p=>
  obtain⟨u0,v0⟩:=p;rw[hres0]at h2;obtain⟨rfl,wa2,wc2,hw2,hi2,hv2⟩:=h2;have HB2:=hid ((HA.o _).trans hb2);have HC2:=hid (HC.o.below hb HB2.o);have HW2:=hid hw2;have HI2:=hid hi2;have g1:=hw2.c1;have hu0:=HL.o deep ws u0 v0 hres0 (by omega);have HOK2:=hid (H01.o deep ws u0 v0 HOK.o hres0)
  have ge:w2.cell? ⟨be,i+1,none⟩=some (.int .i64 ((i+1+A.length:Nat):Int)):=by
   have hd2:=HD2.o;rw[HT.o.2]at hd2⊢;exact(HC2.o.kn (i+1) t (C++r) (Nat.zero_le _) HT.o.1 hd2).1
  have hres1:=hid hres0;clear hw2 hi2 hb2 hres0;go_wp2_with fail;refine(HG.o (i+1+A.length) r deep v0 wa2 wc2 (l++u0) _ (z8h HD2.o) HC2.o HI2.o HOK2.o hv2 HW2.o (by omega) (by rw[List.length_append];omega)).mono ?_;rintro e w3⟨h2,hb3⟩;cases hres:g deep v0 with
  | error er=>
   rw[hres]at h2;obtain⟨hne,rfl⟩:=h2;have HN:=hid hne;rw[q0w hne];clear hne;go_wp2;go_ret;refine⟨?_,(HB2.o.trans hb3)⟩;rw[q6t,hres1.o];dsimp only;rw[hres];exact⟨HN.o,by rw[q0w HN.o];rfl⟩
  | ok p=>
   obtain⟨u,v⟩:=p;rw[hres]at h2;obtain⟨rfl,h3⟩:=h2;have H3:=hid h3;clear h3;go_wp2;go_ret;refine⟨?_,(HB2.o.trans hb3)⟩;rw[q6t,hres1.o];dsimp only;rw[hres];rw[List.append_assoc]at H3;exact⟨rfl,H3.o⟩
theorem y6k(B b s be bf:Nat)(hb:s<B/\be<B/\bf<B)(hB:B<=b)(ds:List Nd)(a:Option Addr)(cap:Nat)(hl:ds.length<=400)(tx:ByteArray)(n:Int)(hn0:0<=n)(hn8:n<=8)(A:List Nd)(f:Nat->List Int->Except Int (List UInt8 × List Int))(hA:q4b B b s be bf ds a cap A f):q4b B b s be bf ds a cap (⟨7,tx,n⟩::A) (fun deep ws=>f (deep+n.toNat) ws):=by
 intro i r deep ws wa wc l w hd hC hI hok hwc hW hdeep hsz;obtain⟨hi,e1,e2⟩:=q1s (x:=⟨7,tx,n⟩) (A:=A++r) hd;obtain⟨o0,ea,d1,d2,d3⟩:=hC.nd i hi;subst ea;rw[e1]at d1 d2 d3;dsimp only at d1 d2 d3;have c0:=hW.c0;have c1:=hW.c1;have c2:=hW.c2;have c5:=hW.c5;have hlt:=hW.lt;have hs0:s<w.heap.size:=by omega
 have hbs:B<=w.heap.size:=by omega
 have hiI:(i:Int)<(ds.length:Int):=by omega
 have HD:Hid (ds.drop i=⟨7,tx,n⟩::(A++r)):=hd;have HD1:Hid (ds.drop (i+1)=A++r):=e2;have HC:Hid (LC B s be bf (some ⟨s,o0,none⟩) ds w):=hC;have HI:Hid (q2l B w wa ws):=hI;have HW:Hid (WS B b (z0n be bf ds.length cap (some ⟨s,o0,none⟩)) l (.slice wa ws.length wc) w):=hW;have HA:Hid (∀O:Obj,Below B w (w.alloc O)):=fun O=>(Below.refl _ w).alloc hbs O
 clear hC hI hW hd e1 e2;simp only[List.length_cons]at hdeep hsz;have HF:Hid (q4b B b s be bf ds (some ⟨s,o0,none⟩) cap A f):=hA;have HX:Hid (((i+1:Nat):Int)=(i:Int)+1):=(show _=_ by omega);have HY:Hid (((deep+n.toNat:Nat):Int)=(deep:Int)+n):=(show _=_ by omega);have HOK:Hid (q3g ws):=hok;clear hA hok;go_in;go_wp2_with fail;rw[<-HX.o,<-HY.o];refine(HF.o (i+1) r (deep+n.toNat) ws wa wc l _ HD1.o (HC.o.below hb (HA.o _)) (HI.o.below (HA.o _)) HOK.o hwc (HW.o.alloc _) (by omega) (by omega)).mono ?_;rintro e w2⟨h2,hb2⟩;cases hres:f (deep+n.toNat) ws with
 | error er=>
  rw[hres]at h2;obtain⟨hne,rfl⟩:=h2;have HN:Hid (er≠0):=hne;rw[q0w hne];clear hne;go_wp2;go_ret;refine⟨?_,(HA.o _).trans hb2⟩;rw[hres];exact⟨HN.o,by rw[q0w HN.o];rfl⟩
 | ok p=>
  obtain⟨u,v⟩:=p;rw[hres]at h2;obtain⟨rfl,h3⟩:=h2;have H3:Hid (∃wa' wc',WS B b (z0n be bf ds.length cap (some ⟨s,o0,none⟩)) (l++u) (.slice wa' v.length wc') w2/\q2l B w2 wa' v/\v.length<=wc'):=h3;clear h3;go_wp2;go_ret;refine⟨?_,(HA.o _).trans hb2⟩;rw[hres];exact⟨rfl,H3.o⟩
theorem y6l(B b s be bf:Nat)(hb:s<B/\be<B/\bf<B)(hB:B<=b)(ds:List Nd)(a:Option Addr)(cap:Nat)(_hl:ds.length<=400)(tx:ByteArray)(n:Int)(A:List Nd)(f:Nat->List Int->Except Int (List UInt8 × List Int))(hA:j1i 92 B b s be bf ds a cap (⟨8,tx,n⟩::A) f):q4b B b s be bf ds a cap (⟨8,tx,n⟩::A) (f):=by
 intro i r deep ws wa wc l w hd hC hI hok hwc hW hdeep hsz;obtain⟨hi,e1,e2⟩:=q1s (x:=⟨8,tx,n⟩) (A:=A++r) hd;obtain⟨o0,ea,d1,d2,d3⟩:=hC.nd i hi;subst ea;rw[e1]at d1 d2 d3;dsimp only at d1 d2 d3;have c0:=hW.c0;have c1:=hW.c1;have c2:=hW.c2;have c5:=hW.c5;have hlt:=hW.lt;have hs0:s<w.heap.size:=by omega
 have hbs:B<=w.heap.size:=by omega
 have hiI:(i:Int)<(ds.length:Int):=by omega
 have HD:=hid hd;have HD1:=hid e2;have HC:=hid hC;have HI:=hid hI;have HW:=hid hW;have HA:Hid (∀O:Obj,Below B w (w.alloc O)):=fun O=>(Below.refl _ w).alloc hbs O
 clear hC hI hW hd e1 e2;have HF:=hid hA;have HOK:=hid hok;clear hA hok;go_in;go_wp2_with fail;refine(HF.o i r deep ws wa wc l _ HD.o (HC.o.below hb (HA.o _)) (HI.o.below (HA.o _)) HOK.o hwc (HW.o.alloc _) hdeep hsz).mono ?_;rintro e w2⟨h2,hb2⟩;cases hres:f deep ws with
 | error er=>
  rw[hres]at h2;obtain⟨hne,rfl⟩:=h2;have HN:=hid hne;rw[q0w hne];clear hne;go_wp2;go_ret;refine⟨?_,((HA.o _).trans hb2)⟩;rw[hres];exact⟨HN.o,by rw[q0w HN.o];rfl⟩
 | ok p=>
  obtain⟨u,v⟩:=p;rw[hres]at h2;obtain⟨rfl,h3⟩:=h2;have H3:=hid h3;clear h3;go_wp2;go_ret;refine⟨?_,((HA.o _).trans hb2)⟩;rw[hres];exact⟨rfl,H3.o⟩
theorem y6m(B b s be bf:Nat)(hb:s<B/\be<B/\bf<B)(hB:B<=b)(ds:List Nd)(a:Option Addr)(cap:Nat)(_hl:ds.length<=400)(tx:ByteArray)(n:Int)(A C:List Nd)(f:Nat->List Int->Except Int (List UInt8 × List Int))(hA:j1i 92 B b s be bf ds a cap (⟨9,tx,n⟩::(A++C)) f):q4b B b s be bf ds a cap (⟨9,tx,n⟩::(A++C)) (f):=by
 intro i r deep ws wa wc l w hd hC hI hok hwc hW hdeep hsz;obtain⟨hi,e1,e2⟩:=q1s (x:=⟨9,tx,n⟩) (A:=(A++C)++r) hd;obtain⟨o0,ea,d1,d2,d3⟩:=hC.nd i hi;subst ea;rw[e1]at d1 d2 d3;dsimp only at d1 d2 d3;have c0:=hW.c0;have c1:=hW.c1;have c2:=hW.c2;have c5:=hW.c5;have hlt:=hW.lt;have hs0:s<w.heap.size:=by omega
 have hbs:B<=w.heap.size:=by omega
 have hiI:(i:Int)<(ds.length:Int):=by omega
 have HD:=hid hd;have HD1:=hid e2;have HC:=hid hC;have HI:=hid hI;have HW:=hid hW;have HA:Hid (∀O:Obj,Below B w (w.alloc O)):=fun O=>(Below.refl _ w).alloc hbs O
 clear hC hI hW hd e1 e2;have HF:=hid hA;have HOK:=hid hok;clear hA hok;go_in;go_wp2_with fail;refine(HF.o i r deep ws wa wc l _ HD.o (HC.o.below hb (HA.o _)) (HI.o.below (HA.o _)) HOK.o hwc (HW.o.alloc _) hdeep hsz).mono ?_;rintro e w2⟨h2,hb2⟩;cases hres:f deep ws with
 | error er=>
  rw[hres]at h2;obtain⟨hne,rfl⟩:=h2;have HN:=hid hne;rw[q0w hne];clear hne;go_wp2;go_ret;refine⟨?_,((HA.o _).trans hb2)⟩;rw[hres];exact⟨HN.o,by rw[q0w HN.o];rfl⟩
 | ok p=>
  obtain⟨u,v⟩:=p;rw[hres]at h2;obtain⟨rfl,h3⟩:=h2;have H3:=hid h3;clear h3;go_wp2;go_ret;refine⟨?_,((HA.o _).trans hb2)⟩;rw[hres];exact⟨rfl,H3.o⟩
theorem k7x{b:Nat}{wa:Option Addr}{wc:Nat}(i deep:Int)(w:World)(c5:w.cell? ⟨b,5,none⟩=some (.slice wa 0 wc)):
  Calls prog 92 #[.pointer (some ⟨b,0,none⟩),.int .i64 i,.int .i64 deep] w fun e w'=>e=.returned (q1y 2)/\w=w':=by
 rw[k0p];go_in;go_wp2;go_ret;exact⟨rfl,rfl⟩
theorem y5y{b s be b0 o0 o1 n cap wc:Nat}(i deep m:Nat)(w:World)(_hbb:b0≠b)(hsb:s≠b)(hbe:be≠b)(_hn:n<=400)(hiI:(i:Int)<(n:Int))
  (c0:w.cell? ⟨b,0,none⟩=some (.slice (some ⟨s,o0,none⟩) n cap)) (d1:w.cell? ⟨s,o0+i*3,none⟩=some (.int .i64 8)) (_c1:w.cell? ⟨b,1,none⟩=some (.slice (some ⟨be,0,none⟩) n n))
  (c5:w.cell? ⟨b,5,none⟩=some (.slice (some ⟨b0,o1,none⟩) (m+1) wc)) (f5:w.frozen? ⟨b,5,none⟩=false) (hwc:m+1<=wc) (x1:w.cell? ⟨b0,o1,none⟩=some (.int .i64 0)) (Q:Value->World->Prop)
  (H:Calls prog 146 #[.pointer (some ⟨b,0,none⟩),.int .i64 i] (w.setCell ⟨b,5,none⟩ (.slice (if wc=1 then some ⟨b0,o1,none⟩else some ⟨b0,o1+1,none⟩) m (wc-1))) fun e w'=>∃v,e=.returned v/\Q v w'):
  Calls prog 92 #[.pointer (some ⟨b,0,none⟩),.int .i64 i,.int .i64 deep] w fun e w'=>∃v,e=.returned v/\Q v w':=by
 have hr1:(1:Int)<=(m:Int)+1:=by omega
 have hr0:=beq_eq_false_iff_ne.2 (by omega);by_cases hw:wc=1
 ·rw[if_pos hw]at H;obtain rfl:m=0:=by omega
  subst hw;have HH:=hid H;clear H;go_in;go_wp2_with fail;refine HH.o.mono ?_;rintro e w2⟨v,rfl,hq⟩;go_wp2;go_ret;exact⟨_,rfl,hq⟩
 ·rw[if_neg hw]at H;have HH:=hid H;clear H;go_in;go_wp2_with fail;refine HH.o.mono ?_;rintro e w2⟨v,rfl,hq⟩;go_wp2;go_ret;exact⟨_,rfl,hq⟩
theorem y5z{b s be b0 o0 o1 n cap wc:Nat}(i deep m:Nat)(w:World)(_hbb:b0≠b)(hsb:s≠b)(hbe:be≠b)(hn:n<=400)(hiI:(i:Int)<(n:Int))
  (c0:w.cell? ⟨b,0,none⟩=some (.slice (some ⟨s,o0,none⟩) n cap)) (d1:w.cell? ⟨s,o0+i*3,none⟩=some (.int .i64 8)) (_c1:w.cell? ⟨b,1,none⟩=some (.slice (some ⟨be,0,none⟩) n n))
  (c5:w.cell? ⟨b,5,none⟩=some (.slice (some ⟨b0,o1,none⟩) (m+1) wc)) (f5:w.frozen? ⟨b,5,none⟩=false) (hwc:m+1<=wc) (x1:w.cell? ⟨b0,o1,none⟩=some (.int .i64 1)) (Q:Value->World->Prop)
  (H:Calls prog 52 #[.pointer (some ⟨b,0,none⟩),.int .i64 ((i:Int)+1),.int .i64 deep] (w.setCell ⟨b,5,none⟩ (.slice (if wc=1 then some ⟨b0,o1,none⟩else some ⟨b0,o1+1,none⟩) m (wc-1))) fun e w'=>∃v,e=.returned v/\Q v w'):
  Calls prog 92 #[.pointer (some ⟨b,0,none⟩),.int .i64 i,.int .i64 deep] w fun e w'=>∃v,e=.returned v/\Q v w':=by
 have hr1:(1:Int)<=(m:Int)+1:=by omega
 have hr0:=beq_eq_false_iff_ne.2 (by omega);by_cases hw:wc=1
 ·rw[if_pos hw]at H;obtain rfl:m=0:=by omega
  subst hw;have HH:=hid H;clear H;go_in;go_wp2_with fail;refine HH.o.mono ?_;rintro e w2⟨v,rfl,hq⟩;go_wp2;go_ret;exact⟨_,rfl,hq⟩
 ·rw[if_neg hw]at H;have HH:=hid H;clear H;go_in;go_wp2_with fail;refine HH.o.mono ?_;rintro e w2⟨v,rfl,hq⟩;go_wp2;go_ret;exact⟨_,rfl,hq⟩
theorem y6a{b s be b0 o0 o1 n cap wc:Nat}(i deep m:Nat)(w:World)(_hbb:b0≠b)(hsb:s≠b)(hbe:be≠b)(hn:n<=400)(hiI:(i:Int)<(n:Int))
  (c0:w.cell? ⟨b,0,none⟩=some (.slice (some ⟨s,o0,none⟩) n cap)) (d1:w.cell? ⟨s,o0+i*3,none⟩=some (.int .i64 9)) (_c1:w.cell? ⟨b,1,none⟩=some (.slice (some ⟨be,0,none⟩) n n))
  (c5:w.cell? ⟨b,5,none⟩=some (.slice (some ⟨b0,o1,none⟩) (m+1) wc)) (f5:w.frozen? ⟨b,5,none⟩=false) (hwc:m+1<=wc) (x1:w.cell? ⟨b0,o1,none⟩=some (.int .i64 0)) (Q:Value->World->Prop)
  (H:Calls prog 52 #[.pointer (some ⟨b,0,none⟩),.int .i64 ((i:Int)+1),.int .i64 deep] (w.setCell ⟨b,5,none⟩ (.slice (if wc=1 then some ⟨b0,o1,none⟩else some ⟨b0,o1+1,none⟩) m (wc-1))) fun e w'=>∃v,e=.returned v/\Q v w'):
  Calls prog 92 #[.pointer (some ⟨b,0,none⟩),.int .i64 i,.int .i64 deep] w fun e w'=>∃v,e=.returned v/\Q v w':=by
 have hr1:(1:Int)<=(m:Int)+1:=by omega
 have hr0:=beq_eq_false_iff_ne.2 (by omega);by_cases hw:wc=1
 ·rw[if_pos hw]at H;obtain rfl:m=0:=by omega
  subst hw;have HH:=hid H;clear H;go_in;go_wp2_with fail;refine HH.o.mono ?_;rintro e w2⟨v,rfl,hq⟩;go_wp2;go_ret;exact⟨_,rfl,hq⟩
 ·rw[if_neg hw]at H;have HH:=hid H;clear H;go_in;go_wp2_with fail;refine HH.o.mono ?_;rintro e w2⟨v,rfl,hq⟩;go_wp2;go_ret;exact⟨_,rfl,hq⟩
theorem y6b{b s be b0 o0 o1 n cap wc:Nat}(i deep m:Nat)(w:World)(_hbb:b0≠b)(hsb:s≠b)(hbe:be≠b)(hn:n<=400)(hiI:(i:Int)<(n:Int))(hi1:(i:Int)+1<(n:Int))(j:Nat)(e1:w.cell? ⟨be,i+1,none⟩=some (.int .i64 (j:Int)))
  (c0:w.cell? ⟨b,0,none⟩=some (.slice (some ⟨s,o0,none⟩) n cap)) (d1:w.cell? ⟨s,o0+i*3,none⟩=some (.int .i64 9)) (c1:w.cell? ⟨b,1,none⟩=some (.slice (some ⟨be,0,none⟩) n n))
  (c5:w.cell? ⟨b,5,none⟩=some (.slice (some ⟨b0,o1,none⟩) (m+1) wc)) (f5:w.frozen? ⟨b,5,none⟩=false) (hwc:m+1<=wc) (x1:w.cell? ⟨b0,o1,none⟩=some (.int .i64 1)) (Q:Value->World->Prop)
  (H:Calls prog 52 #[.pointer (some ⟨b,0,none⟩),.int .i64 (j:Int),.int .i64 deep] (w.setCell ⟨b,5,none⟩ (.slice (if wc=1 then some ⟨b0,o1,none⟩else some ⟨b0,o1+1,none⟩) m (wc-1))) fun e w'=>∃v,e=.returned v/\Q v w'):
  Calls prog 92 #[.pointer (some ⟨b,0,none⟩),.int .i64 i,.int .i64 deep] w fun e w'=>∃v,e=.returned v/\Q v w':=by
 have hr1:(1:Int)<=(m:Int)+1:=by omega
 have hr0:=beq_eq_false_iff_ne.2 (by omega);by_cases hw:wc=1
 ·rw[if_pos hw]at H;obtain rfl:m=0:=by omega
  subst hw;have HH:=hid H;clear H;go_in;go_wp2_with fail;refine HH.o.mono ?_;rintro e w2⟨v,rfl,hq⟩;go_wp2;go_ret;exact⟨_,rfl,hq⟩
 ·rw[if_neg hw]at H;have HH:=hid H;clear H;go_in;go_wp2_with fail;refine HH.o.mono ?_;rintro e w2⟨v,rfl,hq⟩;go_wp2;go_ret;exact⟨_,rfl,hq⟩
theorem Calls.valued{P:Program}{fn:Nat}{args:Array Value}{w:World}{Q:Value->World->Prop}{R:Ending->World->Prop}(h:Calls P fn args w fun e w'=>∃v,e=.returned v/\Q v w')(hR:∀v w',Q v w'->R (.returned v) w'):Calls P fn args w R:=
 h.mono fun _ _⟨v,he,hq⟩=>by rw[he];exact hR v _ hq
theorem z5j{B b:Nat}{pl:List Value}{res:Except Int (List UInt8 × List Int)}{l:List UInt8}{e:Ending}{w':World}(h:k0b B b pl res l e w'):∃v,e=.returned v/\k0b B b pl res l (.returned v) w':=by
 cases res with
 | error er=>obtain⟨h1,rfl⟩:=h;exact⟨_,rfl,h1,rfl⟩
 | ok p=>obtain⟨rfl,h1⟩:=h;exact⟨_,rfl,rfl,h1⟩
theorem j9r(B b s be bf:Nat)(hb:s<B/\be<B/\bf<B)(hB:B<=b)(ds:List Nd)(a:Option Addr)(cap:Nat)(hl:ds.length<=400)(hcap:ds.length<=cap)(tx:ByteArray)(n:Int)(t:Tr)(ht:Tr.Wf (.one ⟨8,tx,n⟩ t))(f:Nat->List Int->Except Int (List UInt8 × List Int))(hA:q4b B b s be bf ds a cap t.nodes f):
  j1i 92 B b s be bf ds a cap (⟨8,tx,n⟩::t.nodes) (q4o f t.line t.isFlat):=by
 intro i r deep ws wa wc l w hd hC hI hok hwc hW hdeep hsz;have hdT:ds.drop i=(Tr.one ⟨8,tx,n⟩ t).nodes++r:=hd;obtain⟨hi,e1,e2⟩:=q1s (x:=⟨8,tx,n⟩) (A:=t.nodes++r) hd;obtain⟨o0,ea,d1,d2,d3⟩:=hC.nd i hi;subst ea;rw[e1]at d1;have hlt:=hW.lt;have hbs:B<=w.heap.size:=by omega
 have hSB:∀v,Below B w (w.setCell ⟨b,5,none⟩ v):=fun v=> Zb.setCell (p:=⟨b,5,none⟩) hB _
 simp only[List.length_cons]at hdeep hsz;cases ws with
 | nil=>
  refine(k7x i deep w hW.c5).mono ?_;rintro e w'⟨rfl,rfl⟩;exact⟨⟨by decide,rfl⟩,Below.refl _ _⟩
 | cons c ws=>
  obtain⟨b0,o1,ea1,hlt1,x1⟩:=hI 0 (by simp);subst ea1;have hS:=hI.slid (by simpa using hwc);simp only[Nat.add_zero,List.getElem_cons_zero]at x1;simp only[List.length_cons]at hW hwc;have hok':q3g ws:=fun d hd=>hok d (by simp[hd])
  have hlw:ws.length<=wc-1:=by omega
  generalize hwa:(if wc=1 then some (⟨b0,o1,none⟩:Addr)else some ⟨b0,o1+1,none⟩)=wa' at hS;have hC1:=hC.below hb (hSB (.slice wa' ws.length (wc-1)));have hI1:=hS.below (hSB (.slice wa' ws.length (wc-1)));have hW1:=hW.stored (.slice wa' ws.length (wc-1));rcases hok c (by simp)with hc|hc
  ·subst hc;refine Calls.valued (Q:=fun v w'=>k0b B b (z0n be bf ds.length cap (some ⟨s,o0,none⟩)) (q4o f t.line t.isFlat deep (0::ws)) l (.returned v) w'/\Below B w w') ?_ (fun v w' h=>h);refine y5y (be:=be) i deep ws.length w (by omega) (by omega) (by omega) hl (by omega) hW.c0 d1 hW.c1 hW.c5 hW.f5 hwc x1 _ ?_;rw[hwa];cases hf:t.isFlat with
   | false=>
    refine(v5t B b s be bf ds _ cap i (.one ⟨8,tx,n⟩ t) r l _ _ ht hdT hC1 hW1 hf).mono ?_;rintro e w2⟨rfl,hb2⟩;refine⟨_,rfl,⟨?_,rfl⟩,(hSB _).trans hb2⟩;decide
   | true=>
    refine(j9y B b s be bf hb hB ds _ cap hcap hl i (.one ⟨8,tx,n⟩ t) r l _ _ ht hdT hC1 hW1 hf (by omega)).mono ?_;rintro e w2⟨rfl,h2,hb2⟩;exact⟨_,rfl,⟨rfl,wa',wc-1,h2,hI1.below hb2,hlw⟩,(hSB _).trans hb2⟩
  ·subst hc;refine Calls.valued (Q:=fun v w'=>k0b B b (z0n be bf ds.length cap (some ⟨s,o0,none⟩)) (q4o f t.line t.isFlat deep (1::ws)) l (.returned v) w'/\Below B w w') ?_ (fun v w' h=>h);refine y5z (be:=be) i deep ws.length w (by omega) (by omega) (by omega) hl (by omega) hW.c0 d1 hW.c1 hW.c5 hW.f5 hwc x1 _ ?_;rw[hwa];refine(hA (i+1) r deep ws wa' (wc-1) l _ e2 hC1 hI1 hok' hlw hW1 (by omega) (by omega)).mono ?_;rintro e w2⟨h2,hb2⟩;obtain⟨v,rfl,h3⟩:=z5j h2;exact⟨v,rfl,h3,(hSB _).trans hb2⟩
theorem j9s(B b s be bf:Nat)(hb:s<B/\be<B/\bf<B)(hB:B<=b)(ds:List Nd)(a:Option Addr)(cap:Nat)(hl:ds.length<=400)(tx:ByteArray)(n:Int)(t t':Tr)(ht:t.Wf)(f g:Nat->List Int->Except Int (List UInt8 × List Int))(hA:q4b B b s be bf ds a cap t.nodes f)(hG:q4b B b s be bf ds a cap t'.nodes g):
  j1i 92 B b s be bf ds a cap (⟨9,tx,n⟩::(t.nodes++t'.nodes)) (q4e f g):=by
 intro i r deep ws wa wc l w hd hC hI hok hwc hW hdeep hsz;obtain⟨hi,e1,e0⟩:=q1s (x:=⟨9,tx,n⟩) (A:=t.nodes++t'.nodes++r) hd;have e2:ds.drop (i+1)=t.nodes++(t'.nodes++r):=by rw[e0,List.append_assoc]
 have hi1:=q9g e2;obtain⟨o0,ea,d1,d2,d3⟩:=hC.nd i hi;subst ea;rw[e1]at d1;have hlt:=hW.lt;have hbs:B<=w.heap.size:=by omega
 have hSB:∀v,Below B w (w.setCell ⟨b,5,none⟩ v):=fun v=> Zb.setCell (p:=⟨b,5,none⟩) hB _
 have k1:=(hC.kn (i+1) t _ (Nat.zero_le _) ht e2).1;simp only[List.length_cons,List.length_append]at hdeep hsz;cases ws with
 | nil=>
  refine(k7x i deep w hW.c5).mono ?_;rintro e w'⟨rfl,rfl⟩;exact⟨⟨by decide,rfl⟩,Below.refl _ _⟩
 | cons c ws=>
  obtain⟨b0,o1,ea1,hlt1,x1⟩:=hI 0 (by simp);subst ea1;have hS:=hI.slid (by simpa using hwc);simp only[Nat.add_zero,List.getElem_cons_zero]at x1;simp only[List.length_cons]at hW hwc;have hok':q3g ws:=fun d hd=>hok d (by simp[hd])
  have hlw:ws.length<=wc-1:=by omega
  generalize hwa:(if wc=1 then some (⟨b0,o1,none⟩:Addr)else some ⟨b0,o1+1,none⟩)=wa' at hS;have hC1:=hC.below hb (hSB (.slice wa' ws.length (wc-1)));have hI1:=hS.below (hSB (.slice wa' ws.length (wc-1)));have hW1:=hW.stored (.slice wa' ws.length (wc-1));rcases hok c (by simp)with hc|hc
  ·subst hc;refine Calls.valued (Q:=fun v w'=>k0b B b (z0n be bf ds.length cap (some ⟨s,o0,none⟩)) (q4e f g deep (0::ws)) l (.returned v) w'/\Below B w w') ?_ (fun v w' h=>h);refine y6a (be:=be) i deep ws.length w (by omega) (by omega) (by omega) hl (by omega) hW.c0 d1 hW.c1 hW.c5 hW.f5 hwc x1 _ ?_;rw[hwa];refine(hA (i+1) _ deep ws wa' (wc-1) l _ e2 hC1 hI1 hok' hlw hW1 (by omega) (by omega)).mono ?_;rintro e w2⟨h2,hb2⟩;obtain⟨v,rfl,h3⟩:=z5j h2;exact⟨v,rfl,h3,(hSB _).trans hb2⟩
  ·subst hc;refine Calls.valued (Q:=fun v w'=>k0b B b (z0n be bf ds.length cap (some ⟨s,o0,none⟩)) (q4e f g deep (1::ws)) l (.returned v) w'/\Below B w w') ?_ (fun v w' h=>h);refine y6b (be:=be) i deep ws.length w (by omega) (by omega) (by omega) hl (by omega) (by omega) (i+1+t.nodes.length) k1 hW.c0 d1 hW.c1 hW.c5 hW.f5 hwc x1 _ ?_;rw[hwa];refine(hG (i+1+t.nodes.length) r deep ws wa' (wc-1) l _ (z8h e2) hC1 hI1 hok' hlw hW1 (by omega) (by omega)).mono ?_;rintro e w2⟨h2,hb2⟩;obtain⟨v,rfl,h3⟩:=z5j h2;exact⟨v,rfl,h3,(hSB _).trans hb2⟩
theorem y4h{t:Tr}{deep:Nat}{ws:List Int}{u:List UInt8}{v:List Int}(h:q3g ws)(e:t.lay deep ws=.ok (u,v)):q3g v:=by
 obtain⟨p,_,rfl⟩:=q5l t deep ws v u h e;exact fun c hc=>h c (by simp[hc])
theorem q7g(B b s be bf:Nat)(hb:s<B/\be<B/\bf<B)(hB:B<=b)(ds:List Nd)(a:Option Addr)(cap:Nat)(hl:ds.length<=400)(hcap:ds.length<=cap):∀t:Tr,t.Wf->q4b B b s be bf ds a cap t.nodes t.lay
 | .leaf ⟨op,tx,n⟩,h=>by
  obtain⟨_,_,_,_,h5,_⟩:=q1x h.1;rcases q3w h.1 h.2 with e|e|e|e|e
  all_goals (simp only at e;subst e)
  ·exact y6e B b s be bf hb hB ds a cap hl tx n (q3y (h5 rfl)).2
  ·exact y6f B b s be bf hb hB ds a cap hl tx n
  ·exact y6g B b s be bf hb hB ds a cap hl tx n
  ·exact y6h B b s be bf hb hB ds a cap hl tx n
  ·exact y6i B b s be bf hb hB ds a cap hl tx n
 | .one ⟨op,tx,n⟩ a',h=>by
  obtain⟨_,_,_,_,_,h6⟩:=q1x h.1;rcases q7z h.2.1 with e|e
  all_goals (simp only at e;subst e)
  ·exact y6k B b s be bf hb hB ds a cap hl tx n (h6 rfl).1 (h6 rfl).2 _ _ (q7g B b s be bf hb hB ds a cap hl hcap a' h.2.2)
  ·rw[k0y (x:=⟨8,tx,n⟩) rfl];exact y6l B b s be bf hb hB ds a cap hl tx n _ _ (j9r B b s be bf hb hB ds a cap hl hcap tx n a' h _ (q7g B b s be bf hb hB ds a cap hl hcap a' h.2.2))
 | .two ⟨op,tx,n⟩ a' c,h=>by
  rcases q7m h.2.1 with e|e
  all_goals (simp only at e;subst e)
  ·rw[j4v (x:=⟨6,tx,n⟩) rfl];exact y6j B b s be bf hb hB ds a cap hl tx n _ _ _ _ (q7g B b s be bf hb hB ds a cap hl hcap a' h.2.2.1) (q7g B b s be bf hb hB ds a cap hl hcap c h.2.2.2) (fun _ _ _ _=>⟨a',h.2.2.1,rfl⟩) (List.length_pos_iff.1 c.pos) (fun deep ws u v he hd=>q5r a' deep ws u v h.2.2.1 he hd) (fun deep ws u v h0 he=>y4h h0 he)
  ·rw[z6r (x:=⟨9,tx,n⟩) rfl];exact y6m B b s be bf hb hB ds a cap hl tx n _ _ _ (j9s B b s be bf hb hB ds a cap hl tx n a' c h.2.2.1 _ _ (q7g B b s be bf hb hB ds a cap hl hcap a' h.2.2.1) (q7g B b s be bf hb hB ds a cap hl hcap c h.2.2.2))
theorem v0d(ds:List Nd)(ws:List Int)(a wa:Option Addr)(cap wc:Nat)(w:World)(hN:q1u w a ds)(h:q3c ds≠0):
  Calls prog 19 #[.slice a ds.length cap,.slice wa ws.length wc] w fun e w'=>e=.returned (.tuple #[.string ⟨#[]⟩,q1y (q3c ds)])/\Below w w w':=by
 have HN:Hid (q1u w a ds):=hN;have H:Hid (q3c ds≠0):=h;rw[q0w h];clear hN h;go_in;go_wp2_with fail;refine(q3b ds a cap _ HN.o).mono ?_;rintro e w2⟨rfl,hB⟩;rw[q0w H.o];go_wp2;go_ret2;exact⟨rfl,hB⟩
theorem k5g(ds:List Nd)(ws:List Int)(a wa:Option Addr)(cap wc:Nat)(w:World)(hN:q1u w a ds)(hI:q9e w wa ws)(hl:ws.length<=9223372036854775807)(h:q3c ds=0)(h1:¬q3g ws):
  Calls prog 19 #[.slice a ds.length cap,.slice wa ws.length wc] w fun e w'=>e=.returned (.tuple #[.string ⟨#[]⟩,q1y 1])/\Below w w w':=by
 have HN:Hid (q1u w a ds):=hN;have HI:Hid (q9e w wa ws):=hI;have H:Hid (q3c ds=0):=h;have H1:Hid (¬q3g ws):=h1;rw[z6k];clear hN hI h h1;go_in;go_wp2_with fail;refine(q3b ds a cap _ HN.o).mono ?_;rintro e w2⟨rfl,hB⟩;rw[H.o,q1m];have HI2:Hid (q9e w2 wa ws):=HI.o.below hB;go_wp2_with fail;refine(y3q ws wa wc _ HI2.o hl H1.o).mono ?_;rintro e w3⟨rfl,rfl⟩;go_wp2;go_ret2;exact⟨rfl,hB⟩
theorem v5u(ds:List Nd)(t:Tr)(hd:ds=t.nodes)(ht:t.Wf)(ws:List Int)(a wa:Option Addr)(cap wc:Nat)(hc:ds.length<=cap)(hwc:ws.length<=wc)(w:World)(hN:q1u w a ds)(hI:q9e w wa ws)(hl:ws.length<=9223372036854775807)(h:q3c ds=0)(h1:q3g ws):
  Calls prog 19 #[.slice a ds.length cap,.slice wa ws.length wc] w fun e w'=>e=.returned (.tuple #[.string (shS (t.show ws)),q1y (shE (t.show ws))])/\Below w w w':=by
 have HN:Hid (q1u w a ds):=hN;have HI:Hid (q9e w wa ws):=hI;have H:Hid (q3c ds=0):=h;have H1:Hid (q3g ws):=h1;have HT:Hid (t.Wf):=ht;have HD:Hid (ds=t.nodes):=hd;obtain⟨h4,_,_⟩:=q4z h;have HS:Hid (t.show ws=match t.lay 0 ws with| .error e=>.error e| .ok (s,[])=>.ok s| .ok (_,_::_)=>.error 2):=k7k h1;have H0:Hid (ds≠[]):=(show ds≠[] by have:=t.pos;rw[<-hd]at this;exact List.length_pos_iff.1 this);clear hN hI h h1 ht hd;go_in;go_wp2_with fail;refine(q3b ds a cap _ HN.o).mono ?_;rintro e w2⟨rfl,hB⟩;rw[H.o,q1m];have HB:Hid (Below w w w2):=hB;have HI2:Hid (q9e w2 wa ws):=HI.o.below hB;obtain⟨s,hs,hns⟩:=(HN.o.below hB).s H0.o;have HN2:Hid (q1a s w2 a ds):=hns;clear hB hns;go_wp2_with fail;refine(y7m ws wa wc _ HI2.o hl H1.o).mono ?_;rintro e w3⟨rfl,rfl⟩;go_wp2_with fail;refine(k4g ds a cap s _ H.o HN2.o hs).mono ?_;rintro e w3⟨⟨be,bf,rfl,hbe,hbf,hkn⟩,hB3⟩;have HB3:Hid (Below w w w3):=q0d HB.o Zl hB3;have HB23:Hid (Below w2 w2 w3):=hB3;have HN3:Hid (q1a s w3 a ds):=HN2.o.kept (hB3.block s hs);have HI3:Hid (q9e w3 wa ws):=HI2.o.below hB3;have HK3:Hid (q8x w3 be bf ds 0):=hkn;have hs3:s<w3.heap.size:=Nat.lt_of_lt_of_le hs hB3.size
 have HL:Hid (∀O,O=Obj.cells #[.slice a ds.length cap,.slice (some ⟨be,0,none⟩) ds.length ds.length,.slice (some ⟨bf,0,none⟩) ds.length ds.length,.pointer none,.slice none 0 0,.slice wa ws.length wc] 101->
   Calls prog 52 #[.pointer (some ⟨w3.heap.size,0,none⟩),.int .i64 0,.int .i64 0] (w3.alloc O) fun e w'=>k0b w3.heap.size w3.heap.size (z0n be bf ds.length cap a) (t.lay 0 ws) [] e w'/\Below w3 w3 w'):=by
  intro O hO;have hA:Below w3 w3 (w3.alloc O):= Zb.alloc Zl _;refine(q7g w3.heap.size w3.heap.size s be bf ⟨hs3,hbe,hbf⟩ Zl ds a cap h4 hc t HT.o 0 [] 0 ws wa wc [] (w3.alloc O) (by rw[HD.o];simp) ⟨HN3.o.kept (hA.block s hs3),HK3.o.kept (hA.block be hbe) (hA.block bf hbf)⟩ (q2l.below HI3.o hA) H1.o hwc ?_ (by rw[<-HD.o];omega) (by rw[<-HD.o];simp;omega)).mono ?_
  ·subst hO;exact IsO.unused 101 w3.heap.size w3.heap.size _ (z0n be bf ds.length cap a) [.slice wa ws.length wc] (heap_alloc_new w3 _)
  ·rintro e w'⟨h1,h2⟩;exact⟨h1,hA.trans h2⟩
 clear hkn hB3;go_wp2_with fail;refine(HL.o _ rfl).mono ?_;rintro e w4⟨hl4,hb4⟩;have HB4:Hid (Below w w w4):=q0d HB3.o Zl hb4;clear hb4;cases hlay:t.lay 0 ws with
 | error er=>
  rw[hlay]at hl4;have hS:=HS.o;rw[hlay]at hS;have HRE:Hid (t.show ws=.error er):=hS;obtain⟨hne,rfl⟩:=hl4;have HNE:Hid (er≠0):=hne;rw[q0w hne];clear hne hlay hS;go_wp2;go_ret2;refine⟨?_,HB4.o⟩;rw[HRE.o];show _=Ending.returned (.tuple #[.string ⟨#[]⟩,q1y er]);rw[q0w HNE.o];rfl
 | ok p=>
  obtain⟨u,r⟩:=p;rw[hlay]at hl4;have hS:=HS.o;rw[hlay]at hS;obtain⟨rfl,wa4,wc4,hw4,_,_⟩:=hl4;have HW4:Hid (WS w3.heap.size w3.heap.size (z0n be bf ds.length cap a) ([]++u) (.slice wa4 r.length wc4) w4):=hw4;have g5:=hw4.c5;cases r with
  | nil=>
   have HRE:Hid (t.show ws=.ok u):=hS;simp only[List.length_nil]at g5;clear hlay hS hw4;go_wp2_with fail;refine(v3u 101 w3.heap.size w3.heap.size 3 (z0n be bf ds.length cap a) ([]++u) _ _ rfl HW4.o).mono ?_;rintro e w5⟨rfl,hb5⟩;go_wp2;go_ret2;refine⟨?_,HB4.o.trans (hb5.mono HB3.o.size)⟩;rw[HRE.o];rfl
  | cons c r=>
   have HRE:Hid (t.show ws=.error 2):=hS;simp only[List.length_cons]at g5;have g0:(0:Int)<(r.length:Int)+1:=by omega
   clear hlay hS hw4;go_wp2;go_ret2;refine⟨?_,HB4.o⟩;rw[HRE.o];rfl
theorem v0c(ds:List Nd)(ws:List Int)(a wa:Option Addr)(cap wc:Nat)(hc:ds.length<=cap)(hwc:ws.length<=wc)(hl:ws.length<=9223372036854775807)(w:World)(hN:q1u w a ds)(hI:q9e w wa ws):
  Calls prog 19 #[.slice a ds.length cap,.slice wa ws.length wc] w fun e w'=>e=.returned (.tuple #[.string (shS (q5v ds ws)),q1y (shE (q5v ds ws))])/\Below w w w':=by
 by_cases h:q3c ds=0
 ·obtain⟨h4,_,_⟩:=q4z h;rw[z2f (q9f h) (q3s h) h4];by_cases h1:q3g ws
  ·exact v5u ds _ (q3s h) (q9f h) ws a wa cap wc hc hwc w hN hI hl h h1
  ·have e:(v6o ds h).show ws=.error 1:=by
    unfold Tr.show;rw[if_neg (fun hh=>h1 (k3a.1 hh))]
   rw[e];exact k5g ds ws a wa cap wc w hN hI hl h h1
 ·rw[k2h h];exact v0d ds ws a wa cap wc w hN h
end Go.Proofs.YthjapabokcajhaaGreatDoor
