import Derived.Test.YtelcnplcpboonaaGreatDoorPb29
import Derived.Test.YtelcnplcpboonaaGreatDoorPb30
open Go.Proofs.Tryz
namespace Go.Proofs.YtelcnplcpboonaaGreatDoor
open Go Go.RowKit
theorem Calls.valued{P:Program}{fn:Nat}{args:Array Value}{w:World}{Q:Value->World->Prop}{R:Ending->World->Prop}(h:Calls P fn args w fun e w'=>∃v,e=.returned v/\Q v w')(hR:∀v w',Q v w'->R (.returned v) w'):Calls P fn args w R:=
 h.mono fun _ _⟨v,he,hq⟩=>by rw[he];exact hR v _ hq
theorem z4c{B b:Nat}{pl:List Value}{A:Except Int (List UInt8 × List Int)}{l:List UInt8}{e:Ending}{w':World}(h:z8p B b pl A l e w'):∃v,e=.returned v/\z8p B b pl A l (.returned v) w':=by
 cases A with
 | error er=>obtain⟨C,rfl⟩:=h;exact⟨_,rfl,C,rfl⟩
 | ok p=>obtain⟨rfl,C⟩:=h;exact⟨_,rfl,rfl,C⟩
theorem j8r(B b s be bf:Nat)(hb:s<B/\be<B/\bf<B)(hB:B<=b)(ds:List Nd)(a:Option Addr)(D:Nat)(hl:ds.length<=400)(R:ds.length<=D)(tx:ByteArray)(n:Int)(t:Tr)(ht:Tr.Wf (.one ⟨8,tx,n⟩ t))(f:Nat->List Int->Except Int (List UInt8 × List Int))(hA:q2q B b s be bf ds a D t.N f):
  k1t 280 B b s be bf ds a D (⟨8,tx,n⟩::t.N) (q8x f t.line t.isFlat):=by
 intro i r C H wa wc l w Z y z V J G O o;have S:ds.drop i=(Tr.one ⟨8,tx,n⟩ t).N++r:=Z;obtain⟨hi,e1,e2⟩:=q1j (x:=⟨8,tx,n⟩) (A:=t.N++r) Z;obtain⟨o0,ea,g,d2,d3⟩:=y.nd i hi;subst ea;rw[e1]at g;have Ac:=G.lt;have Ab:B<=w.heap.size:=by omega
 have I:∀v,Below B w (w.setCell ⟨b,5,none⟩ v):=fun v=> Zb.setCell (p:=⟨b,5,none⟩) hB _
 simp only[List.length_cons]at O o;cases H with
 | nil=>
  refine(k7h i C w G.c5).mono ?_;rintro e K⟨rfl,rfl⟩;exact⟨⟨by decide,rfl⟩,Below.refl _ _⟩
 | cons c H=>
  obtain⟨u,o1,j,Aa,q⟩:=z 0 (by simp);subst j;have hS:=z.slid (by simpa using J);simp only[Nat.add_zero,List.getElem_cons_zero]at q;simp only[List.length_cons]at G J;have X:q1y H:=fun d Z=>V d (by simp[Z])
  have U:H.length<=wc-1:=by omega
  generalize Y:(if wc=1 then some (⟨u,o1,none⟩:Addr)else some ⟨u,o1+1,none⟩)=wa' at hS;have L:=y.W hb (I (.slice wa' H.length (wc-1)));have P:=hS.W (I (.slice wa' H.length (wc-1)));have M:=G.stored (.slice wa' H.length (wc-1));rcases V c (by simp)with m|m
  ·subst m;refine Calls.valued (Q:=fun v K=>z8p B b (q5v be bf ds.length D (some ⟨s,o0,none⟩)) (q8x f t.line t.isFlat C (0::H)) l (.returned v) K/\Below B w K) ?_ (fun v K h=>h);refine y6z (be:=be) i C H.length w (by omega) (by omega) (by omega) hl (by omega) G.c0 g G.c1 G.c5 G.f5 J q _ ?_;rw[Y];cases hf:t.isFlat with
   | false=>
    refine(v5i B b s be bf ds _ D i (.one ⟨8,tx,n⟩ t) r l _ _ ht S L M hf).mono ?_;rintro e w2⟨rfl,E⟩;refine⟨_,rfl,⟨?_,rfl⟩,(I _).trans E⟩;decide
   | true=>
    refine(j8z B b s be bf hb hB ds _ D R hl i (.one ⟨8,tx,n⟩ t) r l _ _ ht S L M hf (by omega)).mono ?_;rintro e w2⟨rfl,k,E⟩;exact⟨_,rfl,⟨rfl,wa',wc-1,k,P.W E,U⟩,(I _).trans E⟩
  ·subst m;refine Calls.valued (Q:=fun v K=>z8p B b (q5v be bf ds.length D (some ⟨s,o0,none⟩)) (q8x f t.line t.isFlat C (1::H)) l (.returned v) K/\Below B w K) ?_ (fun v K h=>h);refine y7a (be:=be) i C H.length w (by omega) (by omega) (by omega) hl (by omega) G.c0 g G.c1 G.c5 G.f5 J q _ ?_;rw[Y];refine(hA (i+1) r C H wa' (wc-1) l _ e2 L P X U M (by omega) (by omega)).mono ?_;rintro e w2⟨k,E⟩;obtain⟨v,rfl,h3⟩:=z4c k;exact⟨v,rfl,h3,(I _).trans E⟩
theorem j8s(B b s be bf:Nat)(hb:s<B/\be<B/\bf<B)(hB:B<=b)(ds:List Nd)(a:Option Addr)(G:Nat)(hl:ds.length<=400)(tx:ByteArray)(n:Int)(t t':Tr)(ht:t.Wf)(f g:Nat->List Int->Except Int (List UInt8 × List Int))(hA:q2q B b s be bf ds a G t.N f)(hG:q2q B b s be bf ds a G t'.N g):
  k1t 280 B b s be bf ds a G (⟨9,tx,n⟩::(t.N++t'.N)) (q6o f g):=by
 intro i r C D wa wc l w q m hI U I E M u;obtain⟨hi,e1,e0⟩:=q1j (x:=⟨9,tx,n⟩) (A:=t.N++t'.N++r) q;have X:ds.drop (i+1)=t.N++(t'.N++r):=by rw[e0,List.append_assoc]
 have Ac:=q7u X;obtain⟨o0,ea,Y,d2,d3⟩:=m.nd i hi;subst ea;rw[e1]at Y;have Ad:=E.lt;have Ab:B<=w.heap.size:=by omega
 have H:∀v,Below B w (w.setCell ⟨b,5,none⟩ v):=fun v=> Zb.setCell (p:=⟨b,5,none⟩) hB _
 have k1:=(m.kn (i+1) t _ (Nat.zero_le _) ht X).1;simp only[List.length_cons,List.length_append]at M u;cases D with
 | nil=>
  refine(k7h i C w E.c5).mono ?_;rintro e K⟨rfl,rfl⟩;exact⟨⟨by decide,rfl⟩,Below.refl _ _⟩
 | cons c D=>
  obtain⟨z,o1,Z,Aa,y⟩:=hI 0 (by simp);subst Z;have hS:=hI.slid (by simpa using I);simp only[Nat.add_zero,List.getElem_cons_zero]at y;simp only[List.length_cons]at E I;have J:q1y D:=fun d q=>U d (by simp[q])
  have S:D.length<=wc-1:=by omega
  generalize V:(if wc=1 then some (⟨z,o1,none⟩:Addr)else some ⟨z,o1+1,none⟩)=wa' at hS;have O:=m.W hb (H (.slice wa' D.length (wc-1)));have P:=hS.W (H (.slice wa' D.length (wc-1)));have R:=E.stored (.slice wa' D.length (wc-1));rcases U c (by simp)with o|o
  ·subst o;refine Calls.valued (Q:=fun v K=>z8p B b (q5v be bf ds.length G (some ⟨s,o0,none⟩)) (q6o f g C (0::D)) l (.returned v) K/\Below B w K) ?_ (fun v K h=>h);refine y7b (be:=be) i C D.length w (by omega) (by omega) (by omega) hl (by omega) E.c0 Y E.c1 E.c5 E.f5 I y _ ?_;rw[V];refine(hA (i+1) _ C D wa' (wc-1) l _ X O P J S R (by omega) (by omega)).mono ?_;rintro e w2⟨j,L⟩;obtain⟨v,rfl,k⟩:=z4c j;exact⟨v,rfl,k,(H _).trans L⟩
  ·subst o;refine Calls.valued (Q:=fun v K=>z8p B b (q5v be bf ds.length G (some ⟨s,o0,none⟩)) (q6o f g C (1::D)) l (.returned v) K/\Below B w K) ?_ (fun v K h=>h);refine y7c (be:=be) i C D.length w (by omega) (by omega) (by omega) hl (by omega) (by omega) (i+1+t.N.length) k1 E.c0 Y E.c1 E.c5 E.f5 I y _ ?_;rw[V];refine(hG (i+1+t.N.length) r C D wa' (wc-1) l _ (z6t X) O P J S R (by omega) (by omega)).mono ?_;rintro e w2⟨j,L⟩;obtain⟨v,rfl,k⟩:=z4c j;exact⟨v,rfl,k,(H _).trans L⟩
theorem y4z{t:Tr}{A:Nat}{ws:List Int}{u:List UInt8}{v:List Int}(h:q1y ws)(e:t.lay A ws=.ok (u,v)):q1y v:=by
 obtain⟨p,_,rfl⟩:=q4p t A ws v u h e;exact fun c hc=>h c (by simp[hc])
theorem q6d(B b s be bf:Nat)(hb:s<B/\be<B/\bf<B)(hB:B<=b)(ds:List Nd)(a:Option Addr)(cap:Nat)(hl:ds.length<=400)(hcap:ds.length<=cap):∀t:Tr,t.Wf->q2q B b s be bf ds a cap t.N t.lay
 | .leaf ⟨op,tx,n⟩,h=>by
  obtain⟨_,_,_,_,h5,_⟩:=q1s h.1;rcases q4t h.1 h.2 with e|e|e|e|e
  all_goals (simp only at e;subst e)
  ·exact y7f B b s be bf hb hB ds a cap hl tx n (q3y (h5 rfl)).2
  ·exact y7g B b s be bf hb hB ds a cap hl tx n
  ·exact y7h B b s be bf hb hB ds a cap hl tx n
  ·exact y7i B b s be bf hb hB ds a cap hl tx n
  ·exact y7j B b s be bf hb hB ds a cap hl tx n
 | .one ⟨op,tx,n⟩ a',h=>by
  obtain⟨_,_,_,_,_,h6⟩:=q1s h.1;rcases z1g h.2.1 with e|e
  all_goals (simp only at e;subst e)
  ·exact y7l B b s be bf hb hB ds a cap hl tx n (h6 rfl).1 (h6 rfl).2 _ _ (q6d B b s be bf hb hB ds a cap hl hcap a' h.2.2)
  ·rw[j4q (x:=⟨8,tx,n⟩) rfl];exact y7m B b s be bf hb hB ds a cap hl tx n _ _ (j8r B b s be bf hb hB ds a cap hl hcap tx n a' h _ (q6d B b s be bf hb hB ds a cap hl hcap a' h.2.2))
 | .two ⟨op,tx,n⟩ a' c,h=>by
  rcases q9q h.2.1 with e|e
  all_goals (simp only at e;subst e)
  ·rw[y0a (x:=⟨6,tx,n⟩) rfl];exact y7k B b s be bf hb hB ds a cap hl tx n _ _ _ _ (q6d B b s be bf hb hB ds a cap hl hcap a' h.2.2.1) (q6d B b s be bf hb hB ds a cap hl hcap c h.2.2.2) (fun _ _ _ _=>⟨a',h.2.2.1,rfl⟩) (List.length_pos_iff.1 c.pos) (fun deep ws u v he hd=>q6p a' deep ws u v h.2.2.1 he hd) (fun deep ws u v h0 he=>y4z h0 he)
  ·rw[k8t (x:=⟨9,tx,n⟩) rfl];exact y7n B b s be bf hb hB ds a cap hl tx n _ _ _ (j8s B b s be bf hb hB ds a cap hl tx n a' c h.2.2.1 _ _ (q6d B b s be bf hb hB ds a cap hl hcap a' h.2.2.1) (q6d B b s be bf hb hB ds a cap hl hcap c h.2.2.2))
set_option maxRecDepth 100000
set_option maxHeartbeats 4000000
theorem j9f(ds:List Nd)(ws:List Int)(a wa:Option Addr)(A wc:Nat)(w:World)(hN:q2z w a ds)(h:q2o ds≠0):
  Calls prog 233 #[.slice a ds.length A,.slice wa ws.length wc] w fun e w'=>e=.returned (.tuple #[.string ⟨#[]⟩,q0s (q2o ds)])/\Below w w w':=by
 have B:Hid (q2z w a ds):=hN;have H:Hid (q2o ds≠0):=h;rw[q0h h];clear hN h;go_in;go_wp2_with fail;refine(q2h ds a A _ B.o).mono ?_;rintro e D⟨rfl,C⟩;rw[q0h H.o];go_wp2;go_ret2;exact⟨rfl,C⟩
theorem k4f(ds:List Nd)(ws:List Int)(a wa:Option Addr)(A wc:Nat)(w:World)(hN:q2z w a ds)(hI:z4j w wa ws)(hl:ws.length<=9223372036854775807)(h:q2o ds=0)(h1:¬q1y ws):
  Calls prog 233 #[.slice a ds.length A,.slice wa ws.length wc] w fun e w'=>e=.returned (.tuple #[.string ⟨#[]⟩,q0s 1])/\Below w w w':=by
 have G:Hid (q2z w a ds):=hN;have E:Hid (z4j w wa ws):=hI;have H:Hid (q2o ds=0):=h;have D:Hid (¬q1y ws):=h1;rw[z5e];clear hN hI h h1;go_in;go_wp2_with fail;refine(q2h ds a A _ G.o).mono ?_;rintro e I⟨rfl,C⟩;rw[H.o,q0q];have B:Hid (z4j I wa ws):=E.o.W C;go_wp2_with fail;refine(y4c ws wa wc _ B.o hl D.o).mono ?_;rintro e J⟨rfl,rfl⟩;go_wp2;go_ret2;exact⟨rfl,C⟩
theorem v5j(ds:List Nd)(t:Tr)(hd:ds=t.N)(ht:t.Wf)(ws:List Int)(a wa:Option Addr)(C wc:Nat)(hc:ds.length<=C)(v:ws.length<=wc)(w:World)(hN:q2z w a ds)(hI:z4j w wa ws)(hl:ws.length<=9223372036854775807)(h:q2o ds=0)(h1:q1y ws):
  Calls prog 233 #[.slice a ds.length C,.slice wa ws.length wc] w fun e w'=>e=.returned (.tuple #[.string (shS (t.show ws)),q0s (shE (t.show ws))])/\Below w w w':=by
 have HN:Hid (q2z w a ds):=hN;have HI:Hid (z4j w wa ws):=hI;have H:Hid (q2o ds=0):=h;have z:Hid (q1y ws):=h1;have HT:Hid (t.Wf):=ht;have i:Hid (ds=t.N):=hd;obtain⟨h4,_,_⟩:=q5b h;have HS:Hid (t.show ws=match t.lay 0 ws with| .error e=>.error e| .ok (s,[])=>.ok s| .ok (_,_::_)=>.error 2):=v4e h1;have H0:Hid (ds≠[]):=(show ds≠[] by have:=t.pos;rw[<-hd]at this;exact List.length_pos_iff.1 this);clear hN hI h h1 ht hd;go_in;go_wp2_with fail;refine(q2h ds a C _ HN.o).mono ?_;rintro e f⟨rfl,g⟩;rw[H.o,q0q];have HB:Hid (Below w w f):=g;have R:Hid (z4j f wa ws):=HI.o.W g;obtain⟨s,q,b⟩:=(HN.o.W g).s H0.o;have S:Hid (q0w s f a ds):=b;clear g b;go_wp2_with fail;refine(y8p ws wa wc _ R.o hl z.o).mono ?_;rintro e A⟨rfl,rfl⟩;go_wp2_with fail;refine(k3h ds a C s _ H.o S.o q).mono ?_;rintro e A⟨⟨K,L,rfl,X,Y,Z⟩,D⟩;have Q:Hid (Below w w A):=q0g HB.o Zl D;have Aa:Hid (Below f f A):=D;have l:Hid (q0w s A a ds):=S.o.kept (D.block s q);have j:Hid (z4j A wa ws):=R.o.W D;have k:Hid (q7m A K L ds 0):=Z;have d:s<A.heap.size:=Nat.lt_of_lt_of_le q D.size
 have HL:Hid (∀O,O=Obj.cells #[.slice a ds.length C,.slice (some ⟨K,0,none⟩) ds.length ds.length,.slice (some ⟨L,0,none⟩) ds.length ds.length,.pointer none,.slice none 0 0,.slice wa ws.length wc] 337->
   Calls prog 261 #[.pointer (some ⟨A,0,none⟩),.int .i64 0,.int .i64 0] (A.alloc O) fun e w'=>z8p A.heap.size A.heap.size (q5v K L ds.length C a) (t.lay 0 ws) [] e w'/\Below A A w'):=by
  intro O hO;have U:Below A A (A.alloc O):= Zb.alloc Zl _;refine(q6d A.heap.size A.heap.size s K L ⟨d,X,Y⟩ Zl ds a C h4 hc t HT.o 0 [] 0 ws wa wc [] (A.alloc O) (by rw[i.o];simp) ⟨l.o.kept (U.block s d),k.o.kept (U.block K X) (U.block L Y)⟩ (q2e.W j.o U) z.o v ?_ (by rw[<-i.o];omega) (by rw[<-i.o];simp;omega)).mono ?_
  ·subst hO;exact IsO.unused 337 A.heap.size A.heap.size _ (q5v K L ds.length C a) [.slice wa ws.length wc] (heap_alloc_new A _)
  ·rintro e w'⟨h1,h2⟩;exact⟨h1,U.trans h2⟩
 clear Z D;go_wp2_with fail;refine(HL.o _ rfl).mono ?_;rintro e w4⟨I,V⟩;have M:Hid (Below w w w4):=q0g Q.o Zl V;clear V;cases B:t.lay 0 ws with
 | error er=>
  rw[B]at I;have G:=HS.o;rw[B]at G;have E:Hid (t.show ws=.error er):=G;obtain⟨P,rfl⟩:=I;have m:Hid (er≠0):=P;rw[q0h P];clear P B G;go_wp2;go_ret2;refine⟨?_,M.o⟩;rw[E.o];show _=Ending.returned (.tuple #[.string ⟨#[]⟩,q0s er]);rw[q0h m.o];rfl
 | ok p=>
  obtain⟨u,r⟩:=p;rw[B]at I;have G:=HS.o;rw[B]at G;obtain⟨rfl,x,y,J,_,_⟩:=I;have n:Hid (WS A.heap.size A.heap.size (q5v K L ds.length C a) ([]++u) (.slice x r.length y) w4):=J;have g5:=J.c5;cases r with
  | nil=>
   have E:Hid (t.show ws=.ok u):=G;simp only[List.length_nil]at g5;clear B G J;go_wp2_with fail;refine(v3o 337 A.heap.size A.heap.size 3 (q5v K L ds.length C a) ([]++u) _ _ rfl n.o).mono ?_;rintro e w5⟨rfl,o⟩;go_wp2;go_ret2;refine⟨?_,M.o.trans (o.mono Q.o.size)⟩;rw[E.o];rfl
  | cons c r=>
   have E:Hid (t.show ws=.error 2):=G;simp only[List.length_cons]at g5;have g0:(0:Int)<(r.length:Int)+1:=by omega
   clear B G J;go_wp2;go_ret2;refine⟨?_,M.o⟩;rw[E.o];rfl
theorem j9e(ds:List Nd)(ws:List Int)(a wa:Option Addr)(A wc:Nat)(hc:ds.length<=A)(C:ws.length<=wc)(hl:ws.length<=9223372036854775807)(w:World)(hN:q2z w a ds)(hI:z4j w wa ws):
  Calls prog 233 #[.slice a ds.length A,.slice wa ws.length wc] w fun e w'=>e=.returned (.tuple #[.string (shS (q6r ds ws)),q0s (shE (q6r ds ws))])/\Below w w w':=by
 by_cases h:q2o ds=0
 ·obtain⟨D,_,_⟩:=q5b h;rw[z5z (z0f h) (q4b h) D];by_cases B:q1y ws
  ·exact v5j ds _ (q4b h) (z0f h) ws a wa A wc hc C w hN hI hl h B
  ·have e:(v6c ds h).show ws=.error 1:=by
    unfold Tr.show;rw[if_neg (fun hh=>B (k7m.1 hh))]
   rw[e];exact k4f ds ws a wa A wc w hN hI hl h B
 ·rw[j7m h];exact j9f ds ws a wa A wc w hN h
end Go.Proofs.YtelcnplcpboonaaGreatDoor
