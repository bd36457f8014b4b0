import Derived.Test.YthcpdohdppkmkaaGreatDoorPu25
open Go.Proofs.Tryz
namespace Go.Proofs.YthcpdohdppkmkaaGreatDoor
open Go Go.RowKit
set_option maxRecDepth 100000
set_option maxHeartbeats 4000000
theorem g3q(B b s be bf:Nat)(_hb:s<B/\be<B/\bf<B)(hB:B<=b)(ds:List Nd)(a:Option Addr)(cap:Nat)(_hl:ds.length<=400)(tx:ByteArray)(n:Int):q3i B b s be bf ds a cap (⟨2,tx,n⟩::[]) (fun deep ws=>.ok (10::List.replicate deep 32,ws)):=by
 intro i r deep ws wa wc l w hd hC hI _ hwc hW hdeep hsz;obtain⟨hi,e1,e2⟩:=q1l (x:=⟨2,tx,n⟩) (A:=[]++r) hd;obtain⟨o0,ea,d1,d2,d3⟩:=hC.nd i hi;subst ea;rw[e1]at d1 d2 d3;dsimp only at d1 d2 d3;have c0:=hW.c0;have c1:=hW.c1;have c2:=hW.c2;have c5:=hW.c5;have hlt:=hW.lt;have hs0:s<w.heap.size:=by omega
 have hbs:B<=w.heap.size:=by omega
 have hiI:(i:Int)<(ds.length:Int):=by omega
 have HD:Hid (ds.drop i=⟨2,tx,n⟩::([]++r)):=hd;have HD1:Hid (ds.drop (i+1)=[]++r):=e2;have HC:Hid (LC B s be bf (some ⟨s,o0,none⟩) ds w):=hC;have HI:Hid (q2x B w wa ws):=hI;have HW:Hid (WS B b (q6v be bf ds.length cap (some ⟨s,o0,none⟩)) l (.slice wa ws.length wc) w):=hW;have HA:Hid (∀O:Obj,Below B w (w.alloc O)):=fun O=>(Below.refl _ w).alloc hbs O
 clear hC hI hW hd e1 e2;simp only[List.length_cons,List.length_nil]at hdeep hsz;have hrs:(⟨(List.replicate deep 32).toArray⟩:ByteArray).size<=3300:=by rw[<-q1a];simp;omega
 have hrep:∀W:World,Calls prog 115 #[.string ⟨#[32]⟩,.int .i64 deep] W fun e w'=>e=.returned (.string ⟨(List.replicate deep 32).toArray⟩)/\Below W W w':=fun W=>z5r deep (by omega) W
 generalize hrp:(⟨(List.replicate deep 32).toArray⟩:ByteArray)=rs at hrs hrep;have HRP:Hid ((⟨(List.replicate deep 32).toArray⟩:ByteArray)=rs):=hrp;have HR:Hid (∀W:World,Calls prog 115 #[.string ⟨#[32]⟩,.int .i64 deep] W fun e w'=>e=.returned (.string rs)/\Below W W w'):=hrep;have HT:Hid (l++(⟨#[10]⟩++rs:ByteArray).data.toList=l++10::List.replicate deep 32):=(show _=_ by rw[<-hrp];simp);have HLN:Hid (l.length+(⟨#[10]⟩++rs:ByteArray).size<=2000000000):=(show _<=_ by rw[<-q1a];simp;omega);clear hrp hrep;go_in;go_wp2_with fail
 go_region_with (first
  | (go_at_call 115;refine(HR.o _).mono ?_;rintro e w2⟨rfl,hb2⟩)
  | (go_at_call 47;refine(g3z (WS.W (WS.drew (HW.o.alloc _)) hb2) hB _ HLN.o).mono ?_;rintro e w3⟨⟨z,rfl⟩,h3,hb3⟩))
 all_goals
  go_wp2;go_ret;have hB3:Below B w w3:=((Below.drew (HA.o _)).trans (hb2.mono (by simp;omega))).trans hb3;rw[HT.o]at h3;exact⟨⟨rfl,wa,wc,h3,HI.o.W hB3,hwc⟩,hB3⟩
theorem g3r(B b s be bf:Nat)(_hb:s<B/\be<B/\bf<B)(hB:B<=b)(ds:List Nd)(a:Option Addr)(cap:Nat)(_hl:ds.length<=400)(tx:ByteArray)(n:Int):q3i B b s be bf ds a cap (⟨3,tx,n⟩::[]) (fun deep ws=>.ok (10::List.replicate deep 32,ws)):=by
 intro i r deep ws wa wc l w hd hC hI _ hwc hW hdeep hsz;obtain⟨hi,e1,e2⟩:=q1l (x:=⟨3,tx,n⟩) (A:=[]++r) hd;obtain⟨o0,ea,d1,d2,d3⟩:=hC.nd i hi;subst ea;rw[e1]at d1 d2 d3;dsimp only at d1 d2 d3;have c0:=hW.c0;have c1:=hW.c1;have c2:=hW.c2;have c5:=hW.c5;have hlt:=hW.lt;have hs0:s<w.heap.size:=by omega
 have hbs:B<=w.heap.size:=by omega
 have hiI:(i:Int)<(ds.length:Int):=by omega
 have HD:Hid (ds.drop i=⟨3,tx,n⟩::([]++r)):=hd;have HD1:Hid (ds.drop (i+1)=[]++r):=e2;have HC:Hid (LC B s be bf (some ⟨s,o0,none⟩) ds w):=hC;have HI:Hid (q2x B w wa ws):=hI;have HW:Hid (WS B b (q6v be bf ds.length cap (some ⟨s,o0,none⟩)) l (.slice wa ws.length wc) w):=hW;have HA:Hid (∀O:Obj,Below B w (w.alloc O)):=fun O=>(Below.refl _ w).alloc hbs O
 clear hC hI hW hd e1 e2;simp only[List.length_cons,List.length_nil]at hdeep hsz;have hrs:(⟨(List.replicate deep 32).toArray⟩:ByteArray).size<=3300:=by rw[<-q1a];simp;omega
 have hrep:∀W:World,Calls prog 115 #[.string ⟨#[32]⟩,.int .i64 deep] W fun e w'=>e=.returned (.string ⟨(List.replicate deep 32).toArray⟩)/\Below W W w':=fun W=>z5r deep (by omega) W
 generalize hrp:(⟨(List.replicate deep 32).toArray⟩:ByteArray)=rs at hrs hrep;have HRP:Hid ((⟨(List.replicate deep 32).toArray⟩:ByteArray)=rs):=hrp;have HR:Hid (∀W:World,Calls prog 115 #[.string ⟨#[32]⟩,.int .i64 deep] W fun e w'=>e=.returned (.string rs)/\Below W W w'):=hrep;have HT:Hid (l++(⟨#[10]⟩++rs:ByteArray).data.toList=l++10::List.replicate deep 32):=(show _=_ by rw[<-hrp];simp);have HLN:Hid (l.length+(⟨#[10]⟩++rs:ByteArray).size<=2000000000):=(show _<=_ by rw[<-q1a];simp;omega);clear hrp hrep;go_in;go_wp2_with fail
 go_region_with (first
  | (go_at_call 115;refine(HR.o _).mono ?_;rintro e w2⟨rfl,hb2⟩)
  | (go_at_call 47;refine(g3z (WS.W (WS.drew (HW.o.alloc _)) hb2) hB _ HLN.o).mono ?_;rintro e w3⟨⟨z,rfl⟩,h3,hb3⟩))
 all_goals
  go_wp2;go_ret;have hB3:Below B w w3:=((Below.drew (HA.o _)).trans (hb2.mono (by simp;omega))).trans hb3;rw[HT.o]at h3;exact⟨⟨rfl,wa,wc,h3,HI.o.W hB3,hwc⟩,hB3⟩
theorem g3s(B b s be bf:Nat)(_hb:s<B/\be<B/\bf<B)(hB:B<=b)(ds:List Nd)(a:Option Addr)(cap:Nat)(_hl:ds.length<=400)(tx:ByteArray)(n:Int):q3i B b s be bf ds a cap (⟨4,tx,n⟩::[]) (fun deep ws=>.ok (10::List.replicate deep 32,ws)):=by
 intro i r deep ws wa wc l w hd hC hI _ hwc hW hdeep hsz;obtain⟨hi,e1,e2⟩:=q1l (x:=⟨4,tx,n⟩) (A:=[]++r) hd;obtain⟨o0,ea,d1,d2,d3⟩:=hC.nd i hi;subst ea;rw[e1]at d1 d2 d3;dsimp only at d1 d2 d3;have c0:=hW.c0;have c1:=hW.c1;have c2:=hW.c2;have c5:=hW.c5;have hlt:=hW.lt;have hs0:s<w.heap.size:=by omega
 have hbs:B<=w.heap.size:=by omega
 have hiI:(i:Int)<(ds.length:Int):=by omega
 have HD:Hid (ds.drop i=⟨4,tx,n⟩::([]++r)):=hd;have HD1:Hid (ds.drop (i+1)=[]++r):=e2;have HC:Hid (LC B s be bf (some ⟨s,o0,none⟩) ds w):=hC;have HI:Hid (q2x B w wa ws):=hI;have HW:Hid (WS B b (q6v be bf ds.length cap (some ⟨s,o0,none⟩)) l (.slice wa ws.length wc) w):=hW;have HA:Hid (∀O:Obj,Below B w (w.alloc O)):=fun O=>(Below.refl _ w).alloc hbs O
 clear hC hI hW hd e1 e2;simp only[List.length_cons,List.length_nil]at hdeep hsz;have hrs:(⟨(List.replicate deep 32).toArray⟩:ByteArray).size<=3300:=by rw[<-q1a];simp;omega
 have hrep:∀W:World,Calls prog 115 #[.string ⟨#[32]⟩,.int .i64 deep] W fun e w'=>e=.returned (.string ⟨(List.replicate deep 32).toArray⟩)/\Below W W w':=fun W=>z5r deep (by omega) W
 generalize hrp:(⟨(List.replicate deep 32).toArray⟩:ByteArray)=rs at hrs hrep;have HRP:Hid ((⟨(List.replicate deep 32).toArray⟩:ByteArray)=rs):=hrp;have HR:Hid (∀W:World,Calls prog 115 #[.string ⟨#[32]⟩,.int .i64 deep] W fun e w'=>e=.returned (.string rs)/\Below W W w'):=hrep;have HT:Hid (l++(⟨#[10]⟩++rs:ByteArray).data.toList=l++10::List.replicate deep 32):=(show _=_ by rw[<-hrp];simp);have HLN:Hid (l.length+(⟨#[10]⟩++rs:ByteArray).size<=2000000000):=(show _<=_ by rw[<-q1a];simp;omega);clear hrp hrep;go_in;go_wp2_with fail
 go_region_with (first
  | (go_at_call 115;refine(HR.o _).mono ?_;rintro e w2⟨rfl,hb2⟩)
  | (go_at_call 47;refine(g3z (WS.W (WS.drew (HW.o.alloc _)) hb2) hB _ HLN.o).mono ?_;rintro e w3⟨⟨z,rfl⟩,h3,hb3⟩))
 all_goals
  go_wp2;go_ret;have hB3:Below B w w3:=((Below.drew (HA.o _)).trans (hb2.mono (by simp;omega))).trans hb3;rw[HT.o]at h3;exact⟨⟨rfl,wa,wc,h3,HI.o.W hB3,hwc⟩,hB3⟩
theorem g3u(B b s be bf:Nat)(hb:s<B/\be<B/\bf<B)(hB:B<=b)(ds:List Nd)(a:Option Addr)(cap:Nat)(hl:ds.length<=400)(tx:ByteArray)(n:Int)(A C:List Nd)(f g:Nat->List Int->Except Int (List UInt8 × List Int))(hA:q3i B b s be bf ds a cap A f)(hG:q3i B b s be bf ds a cap C g)(hE:∀i r,ds.drop i=A++r->r≠[]->∃t:Tr,t.Wf/\A=t.N)(hp:C≠[])(hlen:∀deep ws u v,f deep ws=.ok (u,v)->deep+8*A.length<=3300->u.length<=4000*A.length)(h01:∀deep ws u v,q2k ws->f deep ws=.ok (u,v)->q2k v):q3i B b s be bf ds a cap (⟨6,tx,n⟩::(A++C)) (z2k f g):=by
 intro i r deep ws wa wc l w hd hC hI hok hwc hW hdeep hsz;obtain⟨hi,e1,e2⟩:=q1l (x:=⟨6,tx,n⟩) (A:=(A++C)++r) hd;obtain⟨o0,ea,d1,d2,d3⟩:=hC.nd i hi;subst ea;rw[e1]at d1 d2 d3;dsimp only at d1 d2 d3;have c0:=hW.c0;have c1:=hW.c1;have c2:=hW.c2;have c5:=hW.c5;have hlt:=hW.lt;have hs0:s<w.heap.size:=by omega
 have hbs:B<=w.heap.size:=by omega
 have hiI:(i:Int)<(ds.length:Int):=by omega
 have HD:Hid (ds.drop i=⟨6,tx,n⟩::((A++C)++r)):=hd;have HD1:Hid (ds.drop (i+1)=(A++C)++r):=e2;have HC:Hid (LC B s be bf (some ⟨s,o0,none⟩) ds w):=hC;have HI:Hid (q2x B w wa ws):=hI;have HW:Hid (WS B b (q6v be bf ds.length cap (some ⟨s,o0,none⟩)) l (.slice wa ws.length wc) w):=hW;have HA:Hid (∀O:Obj,Below B w (w.alloc O)):=fun O=>(Below.refl _ w).alloc hbs O
 clear hC hI hW hd e1 e2;simp only[List.length_cons,List.length_append]at hdeep hsz;have HF:Hid (q3i B b s be bf ds (some ⟨s,o0,none⟩) cap A f):=hA;have HG:Hid (q3i B b s be bf ds (some ⟨s,o0,none⟩) cap C g):=hG;have HX:Hid (((i+1:Nat):Int)=(i:Int)+1):=(show _=_ by omega);have HOK:Hid (q2k ws):=hok;have hd1:=HD1.o;rw[List.append_assoc]at hd1;have HD2:Hid (ds.drop (i+1)=A++(C++r)):=hd1;obtain⟨t,ht,et⟩:=hE _ _ hd1 (fun h=>hp (List.append_eq_nil_iff.1 h).1);have HT:Hid (t.Wf/\A=t.N):=⟨ht,et⟩
 have hi1:(i:Int)+1<(ds.length:Int):=by
  have:=congrArg List.length hd1
  have h2:=List.length_pos_iff.2 hp;rw[List.length_drop,List.length_append,List.length_append]at this;omega
 have HL:Hid (∀deep ws u v,f deep ws=.ok (u,v)->deep+8*A.length<=3300->u.length<=4000*A.length):=hlen;have H01:Hid (∀deep ws u v,q2k ws->f deep ws=.ok (u,v)->q2k v):=h01;clear hA hG hok hd1 ht et hE hlen h01 hp;go_in;go_wp2_with fail;rw[<-HX.o];refine(HF.o (i+1) (C++r) deep ws wa wc l _ HD2.o (HC.o.W hb (HA.o _)) (HI.o.W (HA.o _)) HOK.o hwc (HW.o.alloc _) (by omega) (by omega)).mono ?_;rintro e w2⟨h2,hb2⟩;cases hres0:f deep ws with
 | error er=>
  rw[hres0]at h2;obtain⟨hne,rfl⟩:=h2;have HN:Hid (er≠0):=hne;rw[q0f hne];clear hne;go_wp2;go_ret;refine⟨?_,(HA.o _).trans hb2⟩;rw[z2k,hres0];exact⟨HN.o,by rw[q0f HN.o];rfl⟩
 | ok p=>
  obtain⟨u0,v0⟩:=p;rw[hres0]at h2;obtain⟨rfl,wa2,wc2,hw2,hi2,hv2⟩:=h2;have HB2:Hid (Below B w w2):=(HA.o _).trans hb2;have HC2:Hid (LC B s be bf (some ⟨s,o0,none⟩) ds w2):=HC.o.W hb HB2.o;have HW2:Hid (WS B b (q6v be bf ds.length cap (some ⟨s,o0,none⟩)) (l++u0) (.slice wa2 v0.length wc2) w2):=hw2;have HI2:Hid (q2x B w2 wa2 v0):=hi2;have g1:=hw2.c1;have hu0:=HL.o deep ws u0 v0 hres0 (by omega);have HOK2:Hid (q2k v0):=H01.o deep ws u0 v0 HOK.o hres0
  have ge:w2.cell? ⟨be,i+1,none⟩=some (.int .i64 ((i+1+A.length:Nat):Int)):=by
   have hd2:=HD2.o;rw[HT.o.2]at hd2⊢;exact(HC2.o.kn (i+1) t (C++r) (Nat.zero_le _) HT.o.1 hd2).1
  have hres1:Hid (f deep ws=.ok (u0,v0)):=hres0;clear hw2 hi2 hb2 hres0;go_wp2_with fail;refine(HG.o (i+1+A.length) r deep v0 wa2 wc2 (l++u0) _ (z9a HD2.o) HC2.o HI2.o HOK2.o hv2 HW2.o (by omega) (by rw[List.length_append];omega)).mono ?_;rintro e w3⟨h2,hb3⟩;cases hres:g deep v0 with
  | error er=>
   rw[hres]at h2;obtain⟨hne,rfl⟩:=h2;have HN:Hid (er≠0):=hne;rw[q0f hne];clear hne;go_wp2;go_ret;refine⟨?_,(HB2.o.trans hb3)⟩;rw[z2k,hres1.o];dsimp only;rw[hres];exact⟨HN.o,by rw[q0f HN.o];rfl⟩
  | ok p=>
   obtain⟨u,v⟩:=p;rw[hres]at h2;obtain⟨rfl,h3⟩:=h2;have H3:Hid (∃wa' wc',WS B b (q6v be bf ds.length cap (some ⟨s,o0,none⟩)) ((l++u0)++u) (.slice wa' v.length wc') w3/\q2x B w3 wa' v/\v.length<=wc'):=h3;clear h3;go_wp2;go_ret;refine⟨?_,(HB2.o.trans hb3)⟩;rw[z2k,hres1.o];dsimp only;rw[hres];rw[List.append_assoc]at H3;exact⟨rfl,H3.o⟩
theorem g3v(B b s be bf:Nat)(hb:s<B/\be<B/\bf<B)(hB:B<=b)(ds:List Nd)(a:Option Addr)(cap:Nat)(hl:ds.length<=400)(tx:ByteArray)(n:Int)(hn0:0<=n)(hn8:n<=8)(A:List Nd)(f:Nat->List Int->Except Int (List UInt8 × List Int))(hA:q3i B b s be bf ds a cap A f):q3i B b s be bf ds a cap (⟨7,tx,n⟩::A) (fun deep ws=>f (deep+n.toNat) ws):=by
 intro i r deep ws wa wc l w hd hC hI hok hwc hW hdeep hsz;obtain⟨hi,e1,e2⟩:=q1l (x:=⟨7,tx,n⟩) (A:=A++r) hd;obtain⟨o0,ea,d1,d2,d3⟩:=hC.nd i hi;subst ea;rw[e1]at d1 d2 d3;dsimp only at d1 d2 d3;have c0:=hW.c0;have c1:=hW.c1;have c2:=hW.c2;have c5:=hW.c5;have hlt:=hW.lt;have hs0:s<w.heap.size:=by omega
 have hbs:B<=w.heap.size:=by omega
 have hiI:(i:Int)<(ds.length:Int):=by omega
 have HD:Hid (ds.drop i=⟨7,tx,n⟩::(A++r)):=hd;have HD1:Hid (ds.drop (i+1)=A++r):=e2;have HC:Hid (LC B s be bf (some ⟨s,o0,none⟩) ds w):=hC;have HI:Hid (q2x B w wa ws):=hI;have HW:Hid (WS B b (q6v be bf ds.length cap (some ⟨s,o0,none⟩)) l (.slice wa ws.length wc) w):=hW;have HA:Hid (∀O:Obj,Below B w (w.alloc O)):=fun O=>(Below.refl _ w).alloc hbs O
 clear hC hI hW hd e1 e2;simp only[List.length_cons]at hdeep hsz;have HF:Hid (q3i B b s be bf ds (some ⟨s,o0,none⟩) cap A f):=hA;have HX:Hid (((i+1:Nat):Int)=(i:Int)+1):=(show _=_ by omega);have HY:Hid (((deep+n.toNat:Nat):Int)=(deep:Int)+n):=(show _=_ by omega);have HOK:Hid (q2k ws):=hok;clear hA hok;go_in;go_wp2_with fail;rw[<-HX.o,<-HY.o];refine(HF.o (i+1) r (deep+n.toNat) ws wa wc l _ HD1.o (HC.o.W hb (HA.o _)) (HI.o.W (HA.o _)) HOK.o hwc (HW.o.alloc _) (by omega) (by omega)).mono ?_;rintro e w2⟨h2,hb2⟩;cases hres:f (deep+n.toNat) ws with
 | error er=>
  rw[hres]at h2;obtain⟨hne,rfl⟩:=h2;have HN:Hid (er≠0):=hne;rw[q0f hne];clear hne;go_wp2;go_ret;refine⟨?_,(HA.o _).trans hb2⟩;rw[hres];exact⟨HN.o,by rw[q0f HN.o];rfl⟩
 | ok p=>
  obtain⟨u,v⟩:=p;rw[hres]at h2;obtain⟨rfl,h3⟩:=h2;have H3:Hid (∃wa' wc',WS B b (q6v be bf ds.length cap (some ⟨s,o0,none⟩)) (l++u) (.slice wa' v.length wc') w2/\q2x B w2 wa' v/\v.length<=wc'):=h3;clear h3;go_wp2;go_ret;refine⟨?_,(HA.o _).trans hb2⟩;rw[hres];exact⟨rfl,H3.o⟩
theorem g3w(B b s be bf:Nat)(hb:s<B/\be<B/\bf<B)(hB:B<=b)(ds:List Nd)(a:Option Addr)(cap:Nat)(_hl:ds.length<=400)(tx:ByteArray)(n:Int)(A:List Nd)(f:Nat->List Int->Except Int (List UInt8 × List Int))(hA:k5k 116 B b s be bf ds a cap (⟨8,tx,n⟩::A) f):q3i B b s be bf ds a cap (⟨8,tx,n⟩::A) (f):=by
 intro i r deep ws wa wc l w hd hC hI hok hwc hW hdeep hsz;obtain⟨hi,e1,e2⟩:=q1l (x:=⟨8,tx,n⟩) (A:=A++r) hd;obtain⟨o0,ea,d1,d2,d3⟩:=hC.nd i hi;subst ea;rw[e1]at d1 d2 d3;dsimp only at d1 d2 d3;have c0:=hW.c0;have c1:=hW.c1;have c2:=hW.c2;have c5:=hW.c5;have hlt:=hW.lt;have hs0:s<w.heap.size:=by omega
 have hbs:B<=w.heap.size:=by omega
 have hiI:(i:Int)<(ds.length:Int):=by omega
 have HD:Hid (ds.drop i=⟨8,tx,n⟩::(A++r)):=hd;have HD1:Hid (ds.drop (i+1)=A++r):=e2;have HC:Hid (LC B s be bf (some ⟨s,o0,none⟩) ds w):=hC;have HI:Hid (q2x B w wa ws):=hI;have HW:Hid (WS B b (q6v be bf ds.length cap (some ⟨s,o0,none⟩)) l (.slice wa ws.length wc) w):=hW;have HA:Hid (∀O:Obj,Below B w (w.alloc O)):=fun O=>(Below.refl _ w).alloc hbs O
 clear hC hI hW hd e1 e2;have HF:Hid (k5k 116 B b s be bf ds (some ⟨s,o0,none⟩) cap (⟨8,tx,n⟩::A) f):=hA;have HOK:Hid (q2k ws):=hok;clear hA hok;go_in;go_wp2_with fail;refine(HF.o i r deep ws wa wc l _ HD.o (HC.o.W hb (HA.o _)) (HI.o.W (HA.o _)) HOK.o hwc (HW.o.alloc _) hdeep hsz).mono ?_;rintro e w2⟨h2,hb2⟩;cases hres:f deep ws with
 | error er=>
  rw[hres]at h2;obtain⟨hne,rfl⟩:=h2;have HN:Hid (er≠0):=hne;rw[q0f hne];clear hne;go_wp2;go_ret;refine⟨?_,((HA.o _).trans hb2)⟩;rw[hres];exact⟨HN.o,by rw[q0f HN.o];rfl⟩
 | ok p=>
  obtain⟨u,v⟩:=p;rw[hres]at h2;obtain⟨rfl,h3⟩:=h2;have H3:Hid (∃wa' wc',WS B b (q6v be bf ds.length cap (some ⟨s,o0,none⟩)) (l++u) (.slice wa' v.length wc') w2/\q2x B w2 wa' v/\v.length<=wc'):=h3;clear h3;go_wp2;go_ret;refine⟨?_,((HA.o _).trans hb2)⟩;rw[hres];exact⟨rfl,H3.o⟩
theorem g3x(B b s be bf:Nat)(hb:s<B/\be<B/\bf<B)(hB:B<=b)(ds:List Nd)(a:Option Addr)(cap:Nat)(_hl:ds.length<=400)(tx:ByteArray)(n:Int)(A C:List Nd)(f:Nat->List Int->Except Int (List UInt8 × List Int))(hA:k5k 116 B b s be bf ds a cap (⟨9,tx,n⟩::(A++C)) f):q3i B b s be bf ds a cap (⟨9,tx,n⟩::(A++C)) (f):=by
 intro i r deep ws wa wc l w hd hC hI hok hwc hW hdeep hsz;obtain⟨hi,e1,e2⟩:=q1l (x:=⟨9,tx,n⟩) (A:=(A++C)++r) hd;obtain⟨o0,ea,d1,d2,d3⟩:=hC.nd i hi;subst ea;rw[e1]at d1 d2 d3;dsimp only at d1 d2 d3;have c0:=hW.c0;have c1:=hW.c1;have c2:=hW.c2;have c5:=hW.c5;have hlt:=hW.lt;have hs0:s<w.heap.size:=by omega
 have hbs:B<=w.heap.size:=by omega
 have hiI:(i:Int)<(ds.length:Int):=by omega
 have HD:Hid (ds.drop i=⟨9,tx,n⟩::((A++C)++r)):=hd;have HD1:Hid (ds.drop (i+1)=(A++C)++r):=e2;have HC:Hid (LC B s be bf (some ⟨s,o0,none⟩) ds w):=hC;have HI:Hid (q2x B w wa ws):=hI;have HW:Hid (WS B b (q6v be bf ds.length cap (some ⟨s,o0,none⟩)) l (.slice wa ws.length wc) w):=hW;have HA:Hid (∀O:Obj,Below B w (w.alloc O)):=fun O=>(Below.refl _ w).alloc hbs O
 clear hC hI hW hd e1 e2;have HF:Hid (k5k 116 B b s be bf ds (some ⟨s,o0,none⟩) cap (⟨9,tx,n⟩::(A++C)) f):=hA;have HOK:Hid (q2k ws):=hok;clear hA hok;go_in;go_wp2_with fail;refine(HF.o i r deep ws wa wc l _ HD.o (HC.o.W hb (HA.o _)) (HI.o.W (HA.o _)) HOK.o hwc (HW.o.alloc _) hdeep hsz).mono ?_;rintro e w2⟨h2,hb2⟩;cases hres:f deep ws with
 | error er=>
  rw[hres]at h2;obtain⟨hne,rfl⟩:=h2;have HN:Hid (er≠0):=hne;rw[q0f hne];clear hne;go_wp2;go_ret;refine⟨?_,((HA.o _).trans hb2)⟩;rw[hres];exact⟨HN.o,by rw[q0f HN.o];rfl⟩
 | ok p=>
  obtain⟨u,v⟩:=p;rw[hres]at h2;obtain⟨rfl,h3⟩:=h2;have H3:Hid (∃wa' wc',WS B b (q6v be bf ds.length cap (some ⟨s,o0,none⟩)) (l++u) (.slice wa' v.length wc') w2/\q2x B w2 wa' v/\v.length<=wc'):=h3;clear h3;go_wp2;go_ret;refine⟨?_,((HA.o _).trans hb2)⟩;rw[hres];exact⟨rfl,H3.o⟩
theorem j1w{b:Nat}{wa:Option Addr}{wc:Nat}(i deep:Int)(w:World)(c5:w.cell? ⟨b,5,none⟩=some (.slice wa 0 wc)):
  Calls prog 116 #[.pointer (some ⟨b,0,none⟩),.int .i64 i,.int .i64 deep] w fun e w'=>e=.returned (q0s 2)/\w=w':=by
 rw[k2e];go_in;go_wp2;go_ret;exact⟨rfl,rfl⟩
theorem g3j{b s be b0 o0 o1 n cap wc:Nat}(i deep m:Nat)(w:World)(_hbb:b0≠b)(hsb:s≠b)(hbe:be≠b)(_hn:n<=400)(hiI:(i:Int)<(n:Int))
  (c0:w.cell? ⟨b,0,none⟩=some (.slice (some ⟨s,o0,none⟩) n cap)) (d1:w.cell? ⟨s,o0+i*3,none⟩=some (.int .i64 8)) (_c1:w.cell? ⟨b,1,none⟩=some (.slice (some ⟨be,0,none⟩) n n))
  (c5:w.cell? ⟨b,5,none⟩=some (.slice (some ⟨b0,o1,none⟩) (m+1) wc)) (f5:w.frozen? ⟨b,5,none⟩=false) (hwc:m+1<=wc) (x1:w.cell? ⟨b0,o1,none⟩=some (.int .i64 0)) (Q:Value->World->Prop)
  (H:Calls prog 185 #[.pointer (some ⟨b,0,none⟩),.int .i64 i] (w.setCell ⟨b,5,none⟩ (.slice (if wc=1 then some ⟨b0,o1,none⟩else some ⟨b0,o1+1,none⟩) m (wc-1))) fun e w'=>∃v,e=.returned v/\Q v w'):
  Calls prog 116 #[.pointer (some ⟨b,0,none⟩),.int .i64 i,.int .i64 deep] w fun e w'=>∃v,e=.returned v/\Q v w':=by
 have hr1:(1:Int)<=(m:Int)+1:=by omega
 have hr0:((m:Int)+1==0)=false:=beq_eq_false_iff_ne.2 (by omega);by_cases hw:wc=1
 ·rw[if_pos hw]at H;obtain rfl:m=0:=by omega
  subst hw;have HH:Hid (Calls prog 185 #[.pointer (some ⟨b,0,none⟩),.int .i64 i] (w.setCell ⟨b,5,none⟩ (.slice (some ⟨b0,o1,none⟩) 0 0)) fun e w'=>∃v,e=.returned v/\Q v w'):=H;clear H;go_in;go_wp2_with fail;refine HH.o.mono ?_;rintro e w2⟨v,rfl,hq⟩;go_wp2;go_ret;exact⟨_,rfl,hq⟩
 ·rw[if_neg hw]at H;have HH:Hid (Calls prog 185 #[.pointer (some ⟨b,0,none⟩),.int .i64 i] (w.setCell ⟨b,5,none⟩ (.slice (some ⟨b0,o1+1,none⟩) m (wc-1))) fun e w'=>∃v,e=.returned v/\Q v w'):=H;clear H;go_in;go_wp2_with fail;refine HH.o.mono ?_;rintro e w2⟨v,rfl,hq⟩;go_wp2;go_ret;exact⟨_,rfl,hq⟩
theorem g3k{b s be b0 o0 o1 n cap wc:Nat}(i deep m:Nat)(w:World)(_hbb:b0≠b)(hsb:s≠b)(hbe:be≠b)(hn:n<=400)(hiI:(i:Int)<(n:Int))
  (c0:w.cell? ⟨b,0,none⟩=some (.slice (some ⟨s,o0,none⟩) n cap)) (d1:w.cell? ⟨s,o0+i*3,none⟩=some (.int .i64 8)) (_c1:w.cell? ⟨b,1,none⟩=some (.slice (some ⟨be,0,none⟩) n n))
  (c5:w.cell? ⟨b,5,none⟩=some (.slice (some ⟨b0,o1,none⟩) (m+1) wc)) (f5:w.frozen? ⟨b,5,none⟩=false) (hwc:m+1<=wc) (x1:w.cell? ⟨b0,o1,none⟩=some (.int .i64 1)) (Q:Value->World->Prop)
  (H:Calls prog 70 #[.pointer (some ⟨b,0,none⟩),.int .i64 ((i:Int)+1),.int .i64 deep] (w.setCell ⟨b,5,none⟩ (.slice (if wc=1 then some ⟨b0,o1,none⟩else some ⟨b0,o1+1,none⟩) m (wc-1))) fun e w'=>∃v,e=.returned v/\Q v w'):
  Calls prog 116 #[.pointer (some ⟨b,0,none⟩),.int .i64 i,.int .i64 deep] w fun e w'=>∃v,e=.returned v/\Q v w':=by
 have hr1:(1:Int)<=(m:Int)+1:=by omega
 have hr0:((m:Int)+1==0)=false:=beq_eq_false_iff_ne.2 (by omega);by_cases hw:wc=1
 ·rw[if_pos hw]at H;obtain rfl:m=0:=by omega
  subst hw;have HH:Hid (Calls prog 70 #[.pointer (some ⟨b,0,none⟩),.int .i64 ((i:Int)+1),.int .i64 deep] (w.setCell ⟨b,5,none⟩ (.slice (some ⟨b0,o1,none⟩) 0 0)) fun e w'=>∃v,e=.returned v/\Q v w'):=H;clear H;go_in;go_wp2_with fail;refine HH.o.mono ?_;rintro e w2⟨v,rfl,hq⟩;go_wp2;go_ret;exact⟨_,rfl,hq⟩
 ·rw[if_neg hw]at H;have HH:Hid (Calls prog 70 #[.pointer (some ⟨b,0,none⟩),.int .i64 ((i:Int)+1),.int .i64 deep] (w.setCell ⟨b,5,none⟩ (.slice (some ⟨b0,o1+1,none⟩) m (wc-1))) fun e w'=>∃v,e=.returned v/\Q v w'):=H;clear H;go_in;go_wp2_with fail;refine HH.o.mono ?_;rintro e w2⟨v,rfl,hq⟩;go_wp2;go_ret;exact⟨_,rfl,hq⟩
theorem g3l{b s be b0 o0 o1 n cap wc:Nat}(i deep m:Nat)(w:World)(_hbb:b0≠b)(hsb:s≠b)(hbe:be≠b)(hn:n<=400)(hiI:(i:Int)<(n:Int))
  (c0:w.cell? ⟨b,0,none⟩=some (.slice (some ⟨s,o0,none⟩) n cap)) (d1:w.cell? ⟨s,o0+i*3,none⟩=some (.int .i64 9)) (_c1:w.cell? ⟨b,1,none⟩=some (.slice (some ⟨be,0,none⟩) n n))
  (c5:w.cell? ⟨b,5,none⟩=some (.slice (some ⟨b0,o1,none⟩) (m+1) wc)) (f5:w.frozen? ⟨b,5,none⟩=false) (hwc:m+1<=wc) (x1:w.cell? ⟨b0,o1,none⟩=some (.int .i64 0)) (Q:Value->World->Prop)
  (H:Calls prog 70 #[.pointer (some ⟨b,0,none⟩),.int .i64 ((i:Int)+1),.int .i64 deep] (w.setCell ⟨b,5,none⟩ (.slice (if wc=1 then some ⟨b0,o1,none⟩else some ⟨b0,o1+1,none⟩) m (wc-1))) fun e w'=>∃v,e=.returned v/\Q v w'):
  Calls prog 116 #[.pointer (some ⟨b,0,none⟩),.int .i64 i,.int .i64 deep] w fun e w'=>∃v,e=.returned v/\Q v w':=by
 have hr1:(1:Int)<=(m:Int)+1:=by omega
 have hr0:((m:Int)+1==0)=false:=beq_eq_false_iff_ne.2 (by omega);by_cases hw:wc=1
 ·rw[if_pos hw]at H;obtain rfl:m=0:=by omega
  subst hw;have HH:Hid (Calls prog 70 #[.pointer (some ⟨b,0,none⟩),.int .i64 ((i:Int)+1),.int .i64 deep] (w.setCell ⟨b,5,none⟩ (.slice (some ⟨b0,o1,none⟩) 0 0)) fun e w'=>∃v,e=.returned v/\Q v w'):=H;clear H;go_in;go_wp2_with fail;refine HH.o.mono ?_;rintro e w2⟨v,rfl,hq⟩;go_wp2;go_ret;exact⟨_,rfl,hq⟩
 ·rw[if_neg hw]at H;have HH:Hid (Calls prog 70 #[.pointer (some ⟨b,0,none⟩),.int .i64 ((i:Int)+1),.int .i64 deep] (w.setCell ⟨b,5,none⟩ (.slice (some ⟨b0,o1+1,none⟩) m (wc-1))) fun e w'=>∃v,e=.returned v/\Q v w'):=H;clear H;go_in;go_wp2_with fail;refine HH.o.mono ?_;rintro e w2⟨v,rfl,hq⟩;go_wp2;go_ret;exact⟨_,rfl,hq⟩
theorem g3m{b s be b0 o0 o1 n cap wc:Nat}(i deep m:Nat)(w:World)(_hbb:b0≠b)(hsb:s≠b)(hbe:be≠b)(hn:n<=400)(hiI:(i:Int)<(n:Int))(hi1:(i:Int)+1<(n:Int))(j:Nat)(e1:w.cell? ⟨be,i+1,none⟩=some (.int .i64 (j:Int)))
  (c0:w.cell? ⟨b,0,none⟩=some (.slice (some ⟨s,o0,none⟩) n cap)) (d1:w.cell? ⟨s,o0+i*3,none⟩=some (.int .i64 9)) (c1:w.cell? ⟨b,1,none⟩=some (.slice (some ⟨be,0,none⟩) n n))
  (c5:w.cell? ⟨b,5,none⟩=some (.slice (some ⟨b0,o1,none⟩) (m+1) wc)) (f5:w.frozen? ⟨b,5,none⟩=false) (hwc:m+1<=wc) (x1:w.cell? ⟨b0,o1,none⟩=some (.int .i64 1)) (Q:Value->World->Prop)
  (H:Calls prog 70 #[.pointer (some ⟨b,0,none⟩),.int .i64 (j:Int),.int .i64 deep] (w.setCell ⟨b,5,none⟩ (.slice (if wc=1 then some ⟨b0,o1,none⟩else some ⟨b0,o1+1,none⟩) m (wc-1))) fun e w'=>∃v,e=.returned v/\Q v w'):
  Calls prog 116 #[.pointer (some ⟨b,0,none⟩),.int .i64 i,.int .i64 deep] w fun e w'=>∃v,e=.returned v/\Q v w':=by
 have hr1:(1:Int)<=(m:Int)+1:=by omega
 have hr0:((m:Int)+1==0)=false:=beq_eq_false_iff_ne.2 (by omega);by_cases hw:wc=1
 ·rw[if_pos hw]at H;obtain rfl:m=0:=by omega
  subst hw;have HH:Hid (Calls prog 70 #[.pointer (some ⟨b,0,none⟩),.int .i64 (j:Int),.int .i64 deep] (w.setCell ⟨b,5,none⟩ (.slice (some ⟨b0,o1,none⟩) 0 0)) fun e w'=>∃v,e=.returned v/\Q v w'):=H;clear H;go_in;go_wp2_with fail;refine HH.o.mono ?_;rintro e w2⟨v,rfl,hq⟩;go_wp2;go_ret;exact⟨_,rfl,hq⟩
 ·rw[if_neg hw]at H;have HH:Hid (Calls prog 70 #[.pointer (some ⟨b,0,none⟩),.int .i64 (j:Int),.int .i64 deep] (w.setCell ⟨b,5,none⟩ (.slice (some ⟨b0,o1+1,none⟩) m (wc-1))) fun e w'=>∃v,e=.returned v/\Q v w'):=H;clear H;go_in;go_wp2_with fail;refine HH.o.mono ?_;rintro e w2⟨v,rfl,hq⟩;go_wp2;go_ret;exact⟨_,rfl,hq⟩
theorem Calls.valued{P:Program}{fn:Nat}{args:Array Value}{w:World}{Q:Value->World->Prop}{R:Ending->World->Prop}(h:Calls P fn args w fun e w'=>∃v,e=.returned v/\Q v w')(hR:∀v w',Q v w'->R (.returned v) w'):Calls P fn args w R:=
 h.mono fun _ _⟨v,he,hq⟩=>by rw[he];exact hR v _ hq
theorem z6e{B b:Nat}{pl:List Value}{res:Except Int (List UInt8 × List Int)}{l:List UInt8}{e:Ending}{w':World}(h:k1p B b pl res l e w'):∃v,e=.returned v/\k1p B b pl res l (.returned v) w':=by
 cases res with
 | error er=>obtain⟨h1,rfl⟩:=h;exact⟨_,rfl,h1,rfl⟩
 | ok p=>obtain⟨rfl,h1⟩:=h;exact⟨_,rfl,rfl,h1⟩
theorem v3p(B b s be bf:Nat)(hb:s<B/\be<B/\bf<B)(hB:B<=b)(ds:List Nd)(a:Option Addr)(cap:Nat)(hl:ds.length<=400)(hcap:ds.length<=cap)(tx:ByteArray)(n:Int)(t:Tr)(ht:Tr.Wf (.one ⟨8,tx,n⟩ t))(f:Nat->List Int->Except Int (List UInt8 × List Int))(hA:q3i B b s be bf ds a cap t.N f):
  k5k 116 B b s be bf ds a cap (⟨8,tx,n⟩::t.N) (z0q f t.line t.isFlat):=by
 intro i r deep ws wa wc l w hd hC hI hok hwc hW hdeep hsz;have hdT:ds.drop i=(Tr.one ⟨8,tx,n⟩ t).N++r:=hd;obtain⟨hi,e1,e2⟩:=q1l (x:=⟨8,tx,n⟩) (A:=t.N++r) hd;obtain⟨o0,ea,d1,d2,d3⟩:=hC.nd i hi;subst ea;rw[e1]at d1;have hlt:=hW.lt;have hbs:B<=w.heap.size:=by omega
 have hSB:∀v,Below B w (w.setCell ⟨b,5,none⟩ v):=fun v=> Zb.setCell (p:=⟨b,5,none⟩) hB _
 simp only[List.length_cons]at hdeep hsz;cases ws with
 | nil=>
  refine(j1w i deep w hW.c5).mono ?_;rintro e w'⟨rfl,rfl⟩;exact⟨⟨by decide,rfl⟩,Below.refl _ _⟩
 | cons c ws=>
  obtain⟨b0,o1,ea1,hlt1,x1⟩:=hI 0 (by simp);subst ea1;have hS:=hI.slid (by simpa using hwc);simp only[Nat.add_zero,List.getElem_cons_zero]at x1;simp only[List.length_cons]at hW hwc;have hok':q2k ws:=fun d hd=>hok d (by simp[hd])
  have hlw:ws.length<=wc-1:=by omega
  generalize hwa:(if wc=1 then some (⟨b0,o1,none⟩:Addr)else some ⟨b0,o1+1,none⟩)=wa' at hS;have hC1:=hC.W hb (hSB (.slice wa' ws.length (wc-1)));have hI1:=hS.W (hSB (.slice wa' ws.length (wc-1)));have hW1:=hW.stored (.slice wa' ws.length (wc-1));rcases hok c (by simp)with hc|hc
  ·subst hc;refine Calls.valued (Q:=fun v w'=>k1p B b (q6v be bf ds.length cap (some ⟨s,o0,none⟩)) (z0q f t.line t.isFlat deep (0::ws)) l (.returned v) w'/\Below B w w') ?_ (fun v w' h=>h);refine g3j (be:=be) i deep ws.length w (by omega) (by omega) (by omega) hl (by omega) hW.c0 d1 hW.c1 hW.c5 hW.f5 hwc x1 _ ?_;rw[hwa];cases hf:t.isFlat with
   | false=>
    refine(y0p B b s be bf ds _ cap i (.one ⟨8,tx,n⟩ t) r l _ _ ht hdT hC1 hW1 hf).mono ?_;rintro e w2⟨rfl,hb2⟩;refine⟨_,rfl,⟨?_,rfl⟩,(hSB _).trans hb2⟩;decide
   | true=>
    refine(v3x B b s be bf hb hB ds _ cap hcap hl i (.one ⟨8,tx,n⟩ t) r l _ _ ht hdT hC1 hW1 hf (by omega)).mono ?_;rintro e w2⟨rfl,h2,hb2⟩;exact⟨_,rfl,⟨rfl,wa',wc-1,h2,hI1.W hb2,hlw⟩,(hSB _).trans hb2⟩
  ·subst hc;refine Calls.valued (Q:=fun v w'=>k1p B b (q6v be bf ds.length cap (some ⟨s,o0,none⟩)) (z0q f t.line t.isFlat deep (1::ws)) l (.returned v) w'/\Below B w w') ?_ (fun v w' h=>h);refine g3k (be:=be) i deep ws.length w (by omega) (by omega) (by omega) hl (by omega) hW.c0 d1 hW.c1 hW.c5 hW.f5 hwc x1 _ ?_;rw[hwa];refine(hA (i+1) r deep ws wa' (wc-1) l _ e2 hC1 hI1 hok' hlw hW1 (by omega) (by omega)).mono ?_;rintro e w2⟨h2,hb2⟩;obtain⟨v,rfl,h3⟩:=z6e h2;exact⟨v,rfl,h3,(hSB _).trans hb2⟩
theorem v3q(B b s be bf:Nat)(hb:s<B/\be<B/\bf<B)(hB:B<=b)(ds:List Nd)(a:Option Addr)(cap:Nat)(hl:ds.length<=400)(tx:ByteArray)(n:Int)(t t':Tr)(ht:t.Wf)(f g:Nat->List Int->Except Int (List UInt8 × List Int))(hA:q3i B b s be bf ds a cap t.N f)(hG:q3i B b s be bf ds a cap t'.N g):
  k5k 116 B b s be bf ds a cap (⟨9,tx,n⟩::(t.N++t'.N)) (q7t f g):=by
 intro i r deep ws wa wc l w hd hC hI hok hwc hW hdeep hsz;obtain⟨hi,e1,e0⟩:=q1l (x:=⟨9,tx,n⟩) (A:=t.N++t'.N++r) hd;have e2:ds.drop (i+1)=t.N++(t'.N++r):=by rw[e0,List.append_assoc]
 have hi1:=q9g e2;obtain⟨o0,ea,d1,d2,d3⟩:=hC.nd i hi;subst ea;rw[e1]at d1;have hlt:=hW.lt;have hbs:B<=w.heap.size:=by omega
 have hSB:∀v,Below B w (w.setCell ⟨b,5,none⟩ v):=fun v=> Zb.setCell (p:=⟨b,5,none⟩) hB _
 have k1:=(hC.kn (i+1) t _ (Nat.zero_le _) ht e2).1;simp only[List.length_cons,List.length_append]at hdeep hsz;cases ws with
 | nil=>
  refine(j1w i deep w hW.c5).mono ?_;rintro e w'⟨rfl,rfl⟩;exact⟨⟨by decide,rfl⟩,Below.refl _ _⟩
 | cons c ws=>
  obtain⟨b0,o1,ea1,hlt1,x1⟩:=hI 0 (by simp);subst ea1;have hS:=hI.slid (by simpa using hwc);simp only[Nat.add_zero,List.getElem_cons_zero]at x1;simp only[List.length_cons]at hW hwc;have hok':q2k ws:=fun d hd=>hok d (by simp[hd])
  have hlw:ws.length<=wc-1:=by omega
  generalize hwa:(if wc=1 then some (⟨b0,o1,none⟩:Addr)else some ⟨b0,o1+1,none⟩)=wa' at hS;have hC1:=hC.W hb (hSB (.slice wa' ws.length (wc-1)));have hI1:=hS.W (hSB (.slice wa' ws.length (wc-1)));have hW1:=hW.stored (.slice wa' ws.length (wc-1));rcases hok c (by simp)with hc|hc
  ·subst hc;refine Calls.valued (Q:=fun v w'=>k1p B b (q6v be bf ds.length cap (some ⟨s,o0,none⟩)) (q7t f g deep (0::ws)) l (.returned v) w'/\Below B w w') ?_ (fun v w' h=>h);refine g3l (be:=be) i deep ws.length w (by omega) (by omega) (by omega) hl (by omega) hW.c0 d1 hW.c1 hW.c5 hW.f5 hwc x1 _ ?_;rw[hwa];refine(hA (i+1) _ deep ws wa' (wc-1) l _ e2 hC1 hI1 hok' hlw hW1 (by omega) (by omega)).mono ?_;rintro e w2⟨h2,hb2⟩;obtain⟨v,rfl,h3⟩:=z6e h2;exact⟨v,rfl,h3,(hSB _).trans hb2⟩
  ·subst hc;refine Calls.valued (Q:=fun v w'=>k1p B b (q6v be bf ds.length cap (some ⟨s,o0,none⟩)) (q7t f g deep (1::ws)) l (.returned v) w'/\Below B w w') ?_ (fun v w' h=>h);refine g3m (be:=be) i deep ws.length w (by omega) (by omega) (by omega) hl (by omega) (by omega) (i+1+t.N.length) k1 hW.c0 d1 hW.c1 hW.c5 hW.f5 hwc x1 _ ?_;rw[hwa];refine(hG (i+1+t.N.length) r deep ws wa' (wc-1) l _ (z9a e2) hC1 hI1 hok' hlw hW1 (by omega) (by omega)).mono ?_;rintro e w2⟨h2,hb2⟩;obtain⟨v,rfl,h3⟩:=z6e h2;exact⟨v,rfl,h3,(hSB _).trans hb2⟩
theorem g1a{t:Tr}{deep:Nat}{ws:List Int}{u:List UInt8}{v:List Int}(h:q2k ws)(e:t.lay deep ws=.ok (u,v)):q2k v:=by
 obtain⟨p,_,rfl⟩:=q5h t deep ws v u h e;exact fun c hc=>h c (by simp[hc])
theorem q7g(B b s be bf:Nat)(hb:s<B/\be<B/\bf<B)(hB:B<=b)(ds:List Nd)(a:Option Addr)(cap:Nat)(hl:ds.length<=400)(hcap:ds.length<=cap):∀t:Tr,t.Wf->q3i B b s be bf ds a cap t.N t.lay
 | .leaf ⟨op,tx,n⟩,h=>by
  obtain⟨_,_,_,_,h5,_⟩:=q2b h.1;rcases q5o h.1 h.2 with e|e|e|e|e
  all_goals (simp only at e;subst e)
  ·exact g3p B b s be bf hb hB ds a cap hl tx n (q4q (h5 rfl)).2
  ·exact g3q B b s be bf hb hB ds a cap hl tx n
  ·exact g3r B b s be bf hb hB ds a cap hl tx n
  ·exact g3s B b s be bf hb hB ds a cap hl tx n
  ·exact g3t B b s be bf hb hB ds a cap hl tx n
 | .one ⟨op,tx,n⟩ a',h=>by
  obtain⟨_,_,_,_,_,h6⟩:=q2b h.1;rcases z3e h.2.1 with e|e
  all_goals (simp only at e;subst e)
  ·exact g3v B b s be bf hb hB ds a cap hl tx n (h6 rfl).1 (h6 rfl).2 _ _ (q7g B b s be bf hb hB ds a cap hl hcap a' h.2.2)
  ·rw[j9g (x:=⟨8,tx,n⟩) rfl];exact g3w B b s be bf hb hB ds a cap hl tx n _ _ (v3p B b s be bf hb hB ds a cap hl hcap tx n a' h _ (q7g B b s be bf hb hB ds a cap hl hcap a' h.2.2))
 | .two ⟨op,tx,n⟩ a' c,h=>by
  rcases z1m h.2.1 with e|e
  all_goals (simp only at e;subst e)
  ·rw[y5q (x:=⟨6,tx,n⟩) rfl];exact g3u B b s be bf hb hB ds a cap hl tx n _ _ _ _ (q7g B b s be bf hb hB ds a cap hl hcap a' h.2.2.1) (q7g B b s be bf hb hB ds a cap hl hcap c h.2.2.2) (fun _ _ _ _=>⟨a',h.2.2.1,rfl⟩) (List.length_pos_iff.1 c.pos) (fun deep ws u v he hd=>q7u a' deep ws u v h.2.2.1 he hd) (fun deep ws u v h0 he=>g1a h0 he)
  ·rw[j3c (x:=⟨9,tx,n⟩) rfl];exact g3x B b s be bf hb hB ds a cap hl tx n _ _ _ (v3q B b s be bf hb hB ds a cap hl tx n a' c h.2.2.1 _ _ (q7g B b s be bf hb hB ds a cap hl hcap a' h.2.2.1) (q7g B b s be bf hb hB ds a cap hl hcap c h.2.2.2))
end Go.Proofs.YthcpdohdppkmkaaGreatDoor
