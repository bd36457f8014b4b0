import Derived.Test.YthcpdohdppkmkaaGreatDoorPl39
import Derived.Test.YthcpdohdppkmkaaGreatDoorPl19
open Go.Proofs.Tryz
namespace Go.Proofs.YthcpdohdppkmkaaGreatDoor
open Go Go.RowKit
set_option maxRecDepth 100000
set_option maxHeartbeats 4000000
theorem y8s(B b:Nat)(ds:List Nd)(a:Option Addr)(cap:Nat)(hl:ds.length<=400)(tx:ByteArray)(n:Int)(q:0<=n)(t:n<=8)(A:List Nd)(f:Nat->List Int->Except Int (List UInt8 × List Int))(hA:q5y B b ds a cap A f):q5y B b ds a cap (⟨7,tx,n⟩::A) (fun deep ws=>f (deep+n.toNat) ws):=by
 intro i r deep ws P wc s w Y H X M G C L;obtain⟨o,U,V⟩:=q0t (x:=⟨7,tx,n⟩) (r:=A++r) Y;obtain⟨D,N,l,p,Q,R,S⟩:=H i o;subst l;rw[U]at Q R S;dsimp only at Q R S;simp only[List.length_cons]at C L;have c:Hid (ds.drop (i+1)=A++r):=V;have h:Hid (q9e B w (some ⟨D,N,none⟩) ds):=H;have d:Hid (q1j B w P ws):=X;have g:Hid (q3r B b (.slice (some ⟨D,N,none⟩) ds.length cap) (.slice P ws.length wc) s 0 w):=G;have J:=G.bsize;obtain⟨h0,h1,u,v,y,z,f1,f2,f3⟩:=G;have m:D<w.heap.size:=by omega
 have E:Hid (∀O:Obj,Below B w (w.alloc O)):=fun O=>(Below.refl _ w).alloc J O
 have Z:Hid (q5y B b ds (some ⟨D,N,none⟩) cap A f):=hA;have j:Hid (((i+1:Nat):Int)=(i:Int)+1):=(show _=_ by omega);have k:Hid (((deep+n.toNat:Nat):Int)=(deep:Int)+n):=(show _=_ by omega);clear Y U V H X hA;go_in;go_wp2_with fail;rw[<-j.o,<-k.o];refine(Z.o (i+1) r (deep+n.toNat) ws P wc s _ c.o (h.o.W (E.o _)) (d.o.W (E.o _)) M (g.o.alloc _) (by omega) (by omega)).mono ?_;rintro e w2⟨rfl,K,I⟩;go_wp2
 go_end0
 exact⟨rfl,K,(E.o _).trans I⟩
theorem y8t(B b:Nat)(ds:List Nd)(a:Option Addr)(cap:Nat)(hl:ds.length<=400)(tx:ByteArray)(n:Int)(A:List Nd)(f:Nat->List Int->Except Int (List UInt8 × List Int))(sA:ByteArray)(fl:Bool)(hA:q5y B b ds a cap A f)(hF:q2d ds a cap A sA fl)(Ag:sA.size<=8800):q5y B b ds a cap (⟨8,tx,n⟩::A) (q4t f sA fl):=by
 intro i r j K wa wc s w hd hN hI M z d Ac;obtain⟨hi,e1,e2⟩:=q0t (x:=⟨8,tx,n⟩) (r:=A++r) hd;obtain⟨Q,R,ea,Af,d1,d2,d3⟩:=hN i hi;subst ea;rw[e1]at d1 d2 d3;dsimp only at d1 d2 d3;simp only[List.length_cons]at d Ac;have o:Hid (ds.drop (i+1)=A++r):=e2;have t:Hid (q9e B w (some ⟨Q,R,none⟩) ds):=hN;have g:Hid (q1j B w wa K):=hI;have S:Hid (q3r B b (.slice (some ⟨Q,R,none⟩) ds.length cap) (.slice wa K.length wc) s 0 w):=z;have Aa:=z.bsize;obtain⟨k,h1,c0,h,c2,c3,f1,f2,f3⟩:=z;have Ad:Q<w.heap.size:=by omega
 have X:Hid (∀O:Obj,Below B w (w.alloc O)):=fun O=>(Below.refl _ w).alloc Aa O
 have HA:Hid (q5y B b ds (some ⟨Q,R,none⟩) cap A f):=hA;have HF:Hid (q2d ds (some ⟨Q,R,none⟩) cap A sA fl):=hF;have u:Hid (((i+1:Nat):Int)=(i:Int)+1):=(show _=_ by omega);clear hd e1 e2 hN hI hA hF
 match K,g,S,M,h with
 | [],g,S,M,h=>
  simp only[List.length_nil]at S h;go_in;go_wp2_with fail;refine(z3q (S.o.alloc _)).mono ?_;rintro e N⟨rfl,E,G⟩;have C:Hid (q3r B b (.slice (some ⟨Q,R,none⟩) ds.length cap) (.slice wa 0 wc) s 2 N):=E;obtain⟨_,_,_,_,_,y,_,_,_⟩:=E;go_wp2;refine bodyPost_ret (results_none rfl _ _ _) rfl ?_;exact⟨rfl,⟨by decide,_,_,C.o⟩,(X.o _).trans G⟩
 | c::K,g,S,M,h=>
  simp only[List.length_cons]at S h M;by_cases l:c=1
  ·subst l;go_in;go_wp2_with fail;refine(q5a 1 K (S.o.alloc _) (g.o.W (X.o _)) M).mono ?_;rintro e N⟨rfl,⟨D,I,E,L,U⟩,G⟩;have C:Hid (q3r B b (.slice (some ⟨Q,R,none⟩) ds.length cap) (.slice D K.length I) s 0 N):=E;have Z:Hid (q1j B N D K):=L;have J:Hid (Below B w N):=(X.o _).trans G;obtain⟨_,_,_,_,_,y,_,_,_⟩:=E;clear L G;go_wp2_with fail;rw[<-u.o];refine(HA.o (i+1) r j K D I s _ o.o (t.o.W J.o) Z.o U C.o (by omega) (by omega)).mono ?_;rintro e V⟨rfl,Ab,H⟩;go_wp2;refine bodyPost_ret (results_none rfl _ _ _) rfl ?_;refine⟨rfl,?_,J.o.trans H⟩;rw[q4t,if_pos rfl];exact Ab
  ·have Ae:(c==1)=false:=by simp[l]
   have HC:Hid (¬c=1):=l;clear l;cases fl with
   | true=>
    go_in;go_wp2_with fail;refine(q5a c K (S.o.alloc _) (g.o.W (X.o _)) M).mono ?_;rintro e N⟨rfl,⟨D,I,E,L,U⟩,G⟩;have C:Hid (q3r B b (.slice (some ⟨Q,R,none⟩) ds.length cap) (.slice D K.length I) s 0 N):=E;have Z:Hid (q1j B N D K):=L;have J:Hid (Below B w N):=(X.o _).trans G;obtain⟨_,k1,k0,_,_,k3,_,_,_⟩:=E;clear L G;go_wp2_with fail;rw[<-u.o];refine(HF.o (i+1) r _ o.o ((t.o.W J.o).nods C.o.bsize)).mono ?_;rintro e V⟨rfl,H⟩;have P:Hid (q3r B b (.slice (some ⟨Q,R,none⟩) ds.length cap) (.slice D K.length I) s 0 V):=C.o.W H;have Y:Hid (Below B w V):=J.o.trans (C.o.grown H);have q:Hid (q1j B V D K):=Z.o.W (C.o.grown H);obtain⟨_,m1,m0,_,m2,m3,_,g2,y⟩:=P.o;clear k1 k0 k3 H;go_wp2
    go_end0
    have m:∀v,Below B w (V.setCell ⟨b,2,none⟩ v):=fun v=>Y.o.setCell (p:=⟨b,2,none⟩) k _
    refine⟨rfl,?_,m _⟩;rw[q4t,if_neg HC.o,if_pos rfl];exact⟨D,I,s++sA,by simp,P.o.text _,q.o.W ((Below.refl B V).setCell (p:=⟨b,2,none⟩) k _),U⟩
   | false=>
    go_in;go_wp2_with fail;refine(q5a c K (S.o.alloc _) (g.o.W (X.o _)) M).mono ?_;rintro e N⟨rfl,⟨D,I,E,L,U⟩,G⟩;have C:Hid (q3r B b (.slice (some ⟨Q,R,none⟩) ds.length cap) (.slice D K.length I) s 0 N):=E;have J:Hid (Below B w N):=(X.o _).trans G;obtain⟨_,k1,k0,_,_,k3,_,_,_⟩:=E;clear L G;go_wp2_with fail;rw[<-u.o];refine(HF.o (i+1) r _ o.o ((t.o.W J.o).nods C.o.bsize)).mono ?_;rintro e V⟨rfl,H⟩;have P:Hid (q3r B b (.slice (some ⟨Q,R,none⟩) ds.length cap) (.slice D K.length I) s 0 V):=C.o.W H;have Y:Hid (Below B w V):=J.o.trans (C.o.grown H);obtain⟨_,m1,m0,_,m2,m3,_,g2,y⟩:=P.o;clear k1 k0 k3 H;go_wp2
    go_end0
    refine⟨rfl,?_,(Y.o.setCell (p:=⟨b,3,none⟩) k _).setCell (p:=⟨b,2,none⟩) k _⟩;rw[q4t,if_neg HC.o,if_neg (by decide)];exact⟨by decide,_,_,(P.o.fault 4).text _⟩
theorem y8u(B b:Nat)(ds:List Nd)(a:Option Addr)(cap:Nat)(hl:ds.length<=400)(tx:ByteArray)(n:Int)(A C:List Nd)(f g:Nat->List Int->Except Int (List UInt8 × List Int))(hA:q5y B b ds a cap A f)(hC:q5y B b ds a cap C g)(hE:∀i r,ds.drop i=A++r->q0o ds i 1=some (i+A.length))(Ab:0<C.length):q5y B b ds a cap (⟨9,tx,n⟩::(A++C)) (q4h f g):=by
 intro i r R K wa wc s w hd q hI J p V Aa;obtain⟨hi,e1,e2⟩:=q0t (x:=⟨9,tx,n⟩) (r:=(A++C)++r) hd;obtain⟨Q,Y,ea,Ae,d1,d2,d3⟩:=q i hi;subst ea;rw[e1]at d1 d2 d3;dsimp only at d1 d2 d3;simp only[List.length_cons,List.length_append]at V Aa;have k:Hid (ds.drop (i+1)=(A++C)++r):=e2;have o:Hid (q9e B w (some ⟨Q,Y,none⟩) ds):=q;have d:Hid (q1j B w wa K):=hI;have P:Hid (q3r B b (.slice (some ⟨Q,Y,none⟩) ds.length cap) (.slice wa K.length wc) s 0 w):=p;have v:=p.bsize;obtain⟨h0,h1,c0,h,c2,c3,f1,f2,f3⟩:=p;have Ac:Q<w.heap.size:=by omega
 have Z:Hid (∀O:Obj,Below B w (w.alloc O)):=fun O=>(Below.refl _ w).alloc v O
 have HA:Hid (q5y B b ds (some ⟨Q,Y,none⟩) cap A f):=hA;have HC:Hid (q5y B b ds (some ⟨Q,Y,none⟩) cap C g):=hC;have HX:Hid (((i+1:Nat):Int)=(i:Int)+1):=(show _=_ by omega);rw[List.append_assoc]at k;have HE:Hid (q0o ds (i+1) 1=some (i+1+A.length)):=hE (i+1) (C++r) k.o;have S:Hid (ds.drop (i+1+A.length)=C++r):=q7p k.o
 have HJ:Hid (i+1+A.length<ds.length):=(show _<_ by
  have h1:=congrArg List.length S.o;simp at h1
  omega)
 clear hd e1 e2 q hI hA hC hE
 match K,d,P,J,h with
 | [],d,P,J,h=>
  simp only[List.length_nil]at P h;go_in;go_wp2_with fail;refine(z3q (P.o.alloc _)).mono ?_;rintro e N⟨rfl,D,E⟩;have I:Hid (q3r B b (.slice (some ⟨Q,Y,none⟩) ds.length cap) (.slice wa 0 wc) s 2 N):=D;obtain⟨_,_,_,_,_,g3,_,_,_⟩:=D;go_wp2;refine bodyPost_ret (results_none rfl _ _ _) rfl ?_;exact⟨rfl,⟨by decide,_,_,I.o⟩,(Z.o _).trans E⟩
 | c::K,d,P,J,h=>
  simp only[List.length_cons]at P h J;by_cases l:c=0
  ·subst l;go_in;go_wp2_with fail;refine(q5a 0 K (P.o.alloc _) (d.o.W (Z.o _)) J).mono ?_;rintro e N⟨rfl,⟨G,M,D,L,X⟩,E⟩;have I:Hid (q3r B b (.slice (some ⟨Q,Y,none⟩) ds.length cap) (.slice G K.length M) s 0 N):=D;have U:Hid (q1j B N G K):=L;have H:Hid (Below B w N):=(Z.o _).trans E;obtain⟨_,_,_,_,_,g3,_,_,_⟩:=D;clear L E;go_wp2_with fail;rw[<-HX.o];refine(HA.o (i+1) (C++r) R K G M s _ k.o (o.o.W H.o) U.o X I.o (by omega) (by omega)).mono ?_;rintro e w3⟨rfl,y,t⟩;go_wp2
   go_end0
   refine⟨rfl,?_,H.o.trans t⟩;rw[q4h,if_pos rfl];exact y
  ·have Ad:(c==0)=false:=by simp[l]
   have m:Hid (¬c=0):=l;clear l;go_in;go_wp2_with fail;refine(q5a c K (P.o.alloc _) (d.o.W (Z.o _)) J).mono ?_;rintro e N⟨rfl,⟨G,M,D,L,X⟩,E⟩;have I:Hid (q3r B b (.slice (some ⟨Q,Y,none⟩) ds.length cap) (.slice G K.length M) s 0 N):=D;have U:Hid (q1j B N G K):=L;have H:Hid (Below B w N):=(Z.o _).trans E;obtain⟨_,k1,k0,_,_,g3,_,_,_⟩:=D;clear L E;go_wp2_with fail;rw[<-HX.o];refine(q4x ds _ cap hl (ds.length+1) (i+1) N ((o.o.W H.o).nods I.o.bsize) (by omega) (by omega)).mono ?_;rintro e w3⟨rfl,rfl⟩;rw[HE.o];have hz:v7y (some (i+1+A.length))=((i+1+A.length:Nat):Int):=rfl;rw[hz];generalize hj:i+1+A.length=j at S HJ⊢;clear hz hj;go_wp2_with fail;refine(HC.o j r R K G M s _ S.o (o.o.W H.o) U.o X I.o (by omega) (by omega)).mono ?_;rintro e w4⟨rfl,z,u⟩;go_wp2
   go_end0
   refine⟨rfl,?_,H.o.trans u⟩;rw[q4h,if_neg m.o];exact z
theorem q9j(B b:Nat)(ds:List Nd)(a:Option Addr)(cap:Nat)(hl:ds.length<=400):∀t:Tr,t.Wf->t.N.length<=400->q5y B b ds a cap t.N t.lay
 | .leaf ⟨op,tx,n⟩,h,hn=>by
  obtain⟨_,_,_,_,h5,_⟩:=q2c h.1;rcases q3y h.1 h.2 with e|e|e|e|e
  all_goals (simp only at e;subst e)
  ·exact y8p B b ds a cap tx n (q4d (h5 rfl)).2
  ·exact k3x 2 (.inl rfl) B b ds a cap tx n
  ·exact k3x 3 (.inr (.inl rfl)) B b ds a cap tx n
  ·exact k3x 4 (.inr (.inr rfl)) B b ds a cap tx n
  ·exact y8q B b ds a cap tx n
 | .one ⟨op,tx,n⟩ a',h,hn=>by
  obtain⟨_,_,_,_,_,h6⟩:=q2c h.1;have hn':a'.N.length<=400:=by simp[Tr.N]at hn;omega
  rcases q7y h.2.1 with e|e
  all_goals (simp only at e;subst e)
  ·exact y8s B b ds a cap hl tx n (h6 rfl).1 (h6 rfl).2 _ _ (q9j B b ds a cap hl a' h.2.2 hn')
  ·rw[k0z (x:=⟨8,tx,n⟩) rfl];exact y8t B b ds a cap hl tx n _ _ _ _ (q9j B b ds a cap hl a' h.2.2 hn') (q3w ds a cap hl a' h.2.2 hn') (by have:=q7r a' h.2.2;rw[q7w];omega)
 | .two ⟨op,tx,n⟩ a' c,h,hn=>by
  have A:a'.N.length<=400:=by simp[Tr.N]at hn;omega
  have C:c.N.length<=400:=by simp[Tr.N]at hn;omega
  rcases q7k h.2.1 with e|e
  all_goals (simp only at e;subst e)
  ·rw[j5h (x:=⟨6,tx,n⟩) rfl];exact y8r B b ds a cap hl tx n _ _ _ _ (q9j B b ds a cap hl a' h.2.2.1 A) (q9j B b ds a cap hl c h.2.2.2 C) (fun i r hd=>q4u h.2.2.1 hd) c.pos (fun deep ws u v he hd=>q5s a' deep ws u v h.2.2.1 he hd)
  ·rw[z6j (x:=⟨9,tx,n⟩) rfl];exact y8u B b ds a cap hl tx n _ _ _ _ (q9j B b ds a cap hl a' h.2.2.1 A) (q9j B b ds a cap hl c h.2.2.2 C) (fun i r hd=>q4u h.2.2.1 hd) c.pos
theorem j0m(t:Tr)(ht:t.Wf)(ds:List Nd)(hd:ds=t.N)(hl:ds.length<=400)(a wa:Option Addr)(cap wc:Nat)(ws:List Int)(hw:ws.length<=wc)(Ac:ws.length<=9223372036854775807)(w:World)(hN:q1u w a ds)(hI:q8x w wa ws):
  Calls prog 132 #[.slice a ds.length cap,.slice wa ws.length wc] w fun e w'=>e=.returned (.tuple #[.string (shS (t.show ws)),.int .i64 (shE (t.show ws))])/\Below w w w':=by
 have HN:Hid (q1u w a ds):=hN;have n:Hid (q8x w wa ws):=hI;have X:Hid (ds=t.N):=hd;clear hN hI hd;go_in;go_wp2
 go_loopw [6] (fun i wr=>wr=w/\∃k:Nat,k<=ws.length/\i=.int .i64 k/\∀j(h:j<ws.length),j<k->ws[j]=0\/ws[j]=1) (fun i _=>ws.length-(intOf i).toNat)
 case atStart=>exact⟨rfl,0,Nat.zero_le _,rfl,fun j _ g=>by omega⟩
 case round=>
  obtain⟨rfl,k,hk,rfl,J⟩:=hrel;have m:Hid (∀j(h:j<ws.length),j<k->ws[j]=0\/ws[j]=1):=J;clear J;by_cases S:k<ws.length
  ·obtain⟨b0,o0,ea,Aa,o⟩:=n.o k S;subst ea;by_cases B:ws[k]=0\/ws[k]=1
   ·have Z:Hid (∀j(h:j<ws.length),j<k+1->ws[j]=0\/ws[j]=1):=fun j h g=>by
     by_cases l:j=k
     ·subst l;exact B
     ·exact m.o j h (by omega)
    rcases B with B|B
    all_goals
     rw[B]at o;clear B;go_wp2
     go_roundw
     case rel=>exact⟨by trivial,k+1,by omega,by go_num,Z.o⟩
     case measure=>simp[intOf];omega
   ·have H:ws[k]≠0:=fun h=>B (.inl h)
    have I:ws[k]≠1:=fun h=>B (.inr h)
    have Y:Hid (t.show ws=.error 1):=j0n S H I;generalize ws[k]=c at o H I;have y:(c != 0)=true:=by simp[H]
    have g1:(c != 1)=true:=by simp[I]
    clear H I B;go_wp2;go_ret2;exact⟨by rw[Y.o];rfl,Below.refl _ _⟩
  ·have U:q2q ws:=fun c hc=>by
    obtain⟨j,g,rfl⟩:=List.getElem_of_mem hc;exact m.o j g (by omega)
   have Y:Hid (t.show ws=match t.lay 0 ws with| .error e=>.error e| .ok (s,[])=>.ok s| .ok (_,_::_)=>.error 2):=k7w U;clear U;have Q:q9e wr.heap.size wr a ds:=HN.o
   have d:Hid (q3r wr.heap.size wr.heap.size (.slice a ds.length cap) (.slice wa ws.length wc) ⟨#[]⟩ 0 (wr.alloc (.cells #[.slice a ds.length cap,.slice wa ws.length wc,.string ⟨#[]⟩,.int .i64 0] 265))):=
    ⟨Nat.le_refl _,by simp,by simp[go_sem],by simp[go_sem],by simp[go_sem],by simp[go_sem],by simp[go_sem],by simp[go_sem],by simp[go_sem]⟩
   have P:Hid (∀O:Obj,Below wr wr (wr.alloc O)):=fun O=> Zb.alloc Zl O
   have b:Hid (∀W:World,q3r wr.heap.size wr.heap.size (.slice a ds.length cap) (.slice wa ws.length wc) ⟨#[]⟩ 0 W->Below wr wr W->
     Calls prog 189 #[.pointer (some ⟨wr,0,none⟩),.int .i64 0,.int .i64 0] W fun e w'=>e=.returned (.tuple #[])/\Laid wr.heap.size wr.heap.size (.slice a ds.length cap) (t.lay 0 ws) ⟨#[]⟩ w'/\Below wr W w'):=fun W h1 h2=>
    q9j wr.heap.size wr.heap.size ds a cap hl t ht (by rw[<-X.o];exact hl) 0 [] 0 ws wa wc ⟨#[]⟩ W (by rw[X.o];simp) (Q.W h2) (q1j.W n.o h2) hw h1 (by rw[<-X.o];omega) (by rw[<-X.o];show 0+4000*ds.length<=1000000000;omega)
   clear Q;go_wp2_with fail;refine(b.o _ d.o (P.o _)).mono ?_;rintro e w2⟨rfl,G,R⟩;have K:Hid (Below wr wr w2):=(P.o _).trans R;clear R;cases A:t.lay 0 ws with
   | error e0=>
    rw[A]at G;have E:=Y.o;rw[A]at E;have D:Hid (t.show ws=.error e0):=E;obtain⟨M,v',s',C⟩:=G;obtain⟨_,k1,k0,k4,k2,k3,q,v,x⟩:=C;have y:(e0==0)=false:=by simp[M]
    have g1:(e0 != 0)=true:=by simp[M]
    clear M A E;go_wp2_with fail
    go_quiet (fail)
    go_wp2;go_ret2;exact⟨by rw[D.o];rfl,K.o.trans ⟨rfl,rfl,rfl,Nat.le_refl _,fun _ _=>rfl⟩⟩
   | ok p=>
    obtain⟨u,r⟩:=p;rw[A]at G;have E:=Y.o;rw[A]at E;obtain⟨Ad,Ae,s2,L,C,_,Ab⟩:=G;cases r with
    | nil=>
     have D:Hid (t.show ws=.ok u):=E;have V:s2=⟨u.toArray⟩:=q6c (by rw[L];simp);have f:Hid (s2=⟨u.toArray⟩):=V;simp only[List.length_nil]at C;obtain⟨_,k1,k0,k4,k2,k3,q,v,x⟩:=C;clear A E L V;go_wp2;go_ret2;exact⟨by rw[D.o];exact congrArg (fun z=>Ending.returned (.tuple #[.string z,.int .i64 0])) f.o,K.o⟩
    | cons c r=>
     have D:Hid (t.show ws=.error 2):=E;simp only[List.length_cons]at C;obtain⟨h0,k1,k0,k4,k2,k3,q,v,x⟩:=C;have y:(0:Int)<(r.length:Int)+1:=by omega
     clear A E L;go_wp2_with fail
     go_quiet (fail)
     go_wp2;go_ret2;exact⟨by rw[D.o];rfl,(K.o.setCell (p:=⟨wr,3,none⟩) Zl _).trans ⟨rfl,rfl,rfl,Nat.le_refl _,fun _ _=>rfl⟩⟩
def q5r(G:Nat)(w:World)(a:Option Addr)(ws:List Int):Prop:=
 ∀i(h:i<ws.length),∃b o,a=some ⟨b,o,none⟩/\b<w.heap.size/\G<=b/\w.cell? ⟨b,o+i,none⟩=some (.int .i64 ws[i])
theorem q5r.ints{G:Nat}{w:World}{a:Option Addr}{ws:List Int}(h:q5r G w a ws):q8x w a ws:=by
 intro i B;obtain⟨b,o,e,A,_,c⟩:=h i B;exact⟨b,o,e,A,c⟩
theorem q5r.W{G:Nat}{w w':World}{a:Option Addr}{ws:List Int}(h:q5r G w a ws)(hb:Below w w w'):q5r G w' a ws:=by
 intro i C;obtain⟨b,o,e,A,B,c⟩:=h i C;exact⟨b,o,e,Nat.lt_of_lt_of_le A hb.size,B,(hb.cell (p:=⟨b,o+i,none⟩) A).trans c⟩
theorem q5r.far2{G g:Nat}{w:World}{a:Option Addr}{ws:List Int}{v v':Value}(h:q5r G w a ws)(hg:g<G):q5r G ((w.setCell ⟨g,0,none⟩ v).setCell ⟨g,1,none⟩ v') a ws:=by
 intro i D;obtain⟨b,o,e,B,C,c⟩:=h i D;have E:w.heap.size<=((w.setCell ⟨g,0,none⟩ v).setCell ⟨g,1,none⟩ v').heap.size:=(((Below.refl 0 w).setCell (p:=⟨g,0,none⟩) (Nat.zero_le _) v).setCell (p:=⟨g,1,none⟩) (Nat.zero_le _) v').size;have A:g≠b:=by omega
 exact⟨b,o,e,Nat.lt_of_lt_of_le B E,C,(cso (.inl A)).trans ((cso (.inl A)).trans c)⟩
theorem q5r.drew{G:Nat}{w:World}{a:Option Addr}{ws:List Int}(h:q5r G w a ws):q5r G w.drew a ws:=h
theorem q5r.down{G G':Nat}{w:World}{a:Option Addr}{ws:List Int}(h:q5r G w a ws)(hg:G'<=G):q5r G' w a ws:=by
 intro i C;obtain⟨b,o,e,A,B,c⟩:=h i C;exact⟨b,o,e,A,Nat.le_trans hg B,c⟩
def k8o(G:Nat)(w:World)(a:Option Addr)(ls:List (List Int)):Prop:=
 ∀i(h:i<ls.length),∃b o a' c',a=some ⟨b,o,none⟩/\b<w.heap.size/\w.cell? ⟨b,o+i,none⟩=some (.slice a' ls[i].length c')/\ls[i].length<=c'/\q5r G w a' ls[i]
theorem j1d{G:Nat}{w:World}{a:Option Addr}{ls:List (List Int)}(h:∀g,(∀k,g=some k->k<G)->q2b g w a ls):k8o G w a ls:=by
 intro i J;obtain⟨b,o,K,L,e,P,_,c,Q,R,_⟩:=h none (fun _ q=>by cases q) i J;refine⟨b,o,K,L,e,P,c,Q,fun j hj=>?_⟩;obtain⟨H,U,I,O,_,M⟩:=R j hj;refine⟨H,U,I,O,?_,M⟩;apply Nat.le_of_not_lt;intro E;obtain⟨W,Y,V,N,B,_,_,A,_,D,_⟩:=h (some H) (fun k q=>by cases q;exact E) i J;rw[e]at B;simp only[Option.some.injEq,Addr.mk.injEq,and_true]at B;obtain⟨rfl,rfl⟩:=B;rw[c]at A;simp only[Option.some.injEq,Value.slice.injEq,true_and]at A;obtain⟨X,Z,C,_,S,_⟩:=D j hj;rw[<-A.1,I]at C;simp only[Option.some.injEq,Addr.mk.injEq,and_true]at C;exact S (by rw[C.1])
def BOk(g:Nat)(t:Tr)(wd k b:Nat)(tx wy:Value)(w:World):Prop:=
 (k=0/\tx=.string ⟨#[]⟩/\wy=.slice none 0 0/\Bx w b 0 0)\/(∃u wa wc,fm ((t.ways.take k).map fun u=>(t.cst wd u,u))=some (t.cst wd u,u)/\tx=.string (shS (t.show u))/\wy=.slice wa u.length wc/\q5r (g+1) w wa u/\Bx w b (t.cst wd u).1 (t.cst wd u).2)
theorem j2b(t:Tr)(ht:t.Wf)(ds:List Nd)(hd:ds=t.N)(hl:ds.length<=400)(a:Option Addr)(cap:Nat)(w:World)(hN:q1u w a ds):
  Calls prog 131 #[.slice a ds.length cap] w fun e w'=>((t.ways.length<=300/\∃a' c',e=.returned (.tuple #[.slice a' t.ways.length c',.bool true])/\k8o w.heap.size w' a' t.ways)\/(300<t.ways.length/\e=.returned (.tuple #[.slice none 0 0,.bool false])))/\Below w w w':=by
 have I:∀O:Obj,Below w w (w.alloc O):=fun O=>(Below.refl _ w).alloc Zl O
 have G:Hid (Calls prog 188 #[.slice a ds.length cap,.int .i64 0,.slice (some ⟨w,0,none⟩) 1 1,.int .i64 300] (w.alloc (.cells #[.slice none 0 0] 43)) fun e w'=>∃a' c',e=.returned (.slice a' (t.tl [[]]).length c')/\k8o w.heap.size w' a' (t.tl [[]])/\Below w w w'):=by
  have P:∀H,(∀k,H=some k->k<w.heap.size)->q2b H (w.alloc (.cells #[.slice none 0 0] 43)) (some ⟨w,0,none⟩) [[]]:=by
   intro H J i Y;obtain rfl:i=0:=by simp at Y;omega
   exact⟨w.heap.size,0,none,0,rfl,by simp,fun q=>by have:=J _ q.symm;omega,by simp[go_sem],by simp,fun j hj=>by simp at hj,fun _=>⟨rfl,rfl⟩⟩
  refine(z0t ds a cap hl t ht (by rw[<-hd];exact hl) 0 [] [[]] (some ⟨w,0,none⟩) 1 0 _ (by rw[<-hd];simp) (hN.W (I _)) (P none (fun _ h=>by cases h)) (by simp) (by simp) (by simp) (by rw[<-hd];omega)).mono ?_;rintro e w'⟨a',c',rfl,_,B,C⟩;exact⟨a',c',rfl,j1d fun g hg=>B g (fun k q=>by have:=hg k q;simp;omega) (P g hg),(I _).trans (C.mono (by simp))⟩
 have A:=y6q t;generalize X:t.tl [[]]=L at G A;clear X hd hN I;rcases A with⟨D,M⟩|⟨D,M⟩
 ·subst M;have U:¬(300:Int)<(t.ways.length:Int):=by omega
  have E:Hid (t.ways.length<=300):=D;go_in;go_wp2_with fail;refine G.o.mono ?_;rintro e Q⟨K,S,rfl,B,C⟩;have R:Hid (k8o w.heap.size Q K t.ways):=B;clear B;go_wp2;go_ret2;exact⟨.inl ⟨E.o,_,_,rfl,R.o⟩,C⟩
 ·have V:(300:Int)<(L.length:Int):=by omega
  have E:Hid (300<t.ways.length):=D;clear D;go_in;go_wp2_with fail;refine G.o.mono ?_;rintro e Q⟨K,S,rfl,B,C⟩;clear B;go_wp2;go_ret2;exact⟨.inr ⟨E.o,rfl⟩,C⟩
def BOR(t:Tr)(wd:Nat)(w:World)(e:Ending)(w':World):Prop:=
 ((t.ways.length<=300/\∃u wa wc,t.best wd=some (t.cst wd u,u)/\e=.returned (.tuple #[.string (shS (t.show u)),.slice wa u.length wc,.agg #[.int .i64 (t.cst wd u).1,.int .i64 (t.cst wd u).2],.bool true])/\q5r w.heap.size w' wa u)\/(300<t.ways.length/\e=.returned (.tuple #[.string ⟨#[]⟩,.slice none 0 0,.agg #[.int .i64 0,.int .i64 0],.bool false])))/\Below w w w'
theorem v6v{t:Tr}(ht:t.Wf){ds:List Nd}(hd:ds=t.N)(hl:ds.length<=400)(wd:Nat){u:List Int}(hu:u∈t.ways):
  shE (t.show u)=0/\u.length<=400/\∀W:World,Calls prog 133 #[.string (shS (t.show u)),.int .i64 wd] W fun e w'=>e=.returned (.agg #[.int .i64 (t.cst wd u).1,.int .i64 (t.cst wd u).2])/\Below W W w':=by
 obtain⟨s,A⟩:=(z4s t u).2 hu;have D:q5v ds u=.ok s:=by rw[z2d ht hd hl,A]
 obtain⟨G,C⟩:=j9k D;have E:t.txt u=s:=by rw[Tr.txt,A]
 refine⟨by rw[A];rfl,C,fun W=>?_⟩;have B:(shS (t.show u)).data.toList=s:=by rw[A];simp[shS]
 have:=j9d (shS (t.show u)) wd W (by rw[Lib.size_eq,B];omega)
 rw[B,y0p]at this;rw[Tr.cst,E];exact this
theorem k8p(t:Tr)(ht:t.Wf)(ds:List Nd)(hd:ds=t.N)(hl:ds.length<=400)(wd:Nat)(a:Option Addr)(cap:Nat)(w:World)(hN:q1u w a ds):
  Calls prog 80 #[.slice a ds.length cap,.int .i64 wd] w fun e w'=>BOR t wd w e w':=by
 have HN:Hid (q1u w a ds):=hN;have HO:Hid (∀(W:World),q1u W a ds->Calls prog 131 #[.slice a ds.length cap] W _):=fun W h1=>j2b t ht ds hd hl a cap W h1
 have HV:Hid (∀k(h:k<t.ways.length),(∀(W:World)I M,t.ways[k].length<=M->q1u W a ds->q8x W I t.ways[k]->Calls prog 132 #[.slice a ds.length cap,.slice I t.ways[k].length M] W fun e w'=>e=.returned (.tuple #[.string (shS (t.show t.ways[k])),.int .i64 0])/\Below W W w')
   /\∀W:World,Calls prog 133 #[.string (shS (t.show t.ways[k])),.int .i64 wd] W fun e w'=>e=.returned (.agg #[.int .i64 (t.cst wd t.ways[k]).1,.int .i64 (t.cst wd t.ways[k]).2])/\Below W W w'):=fun k h=>by
  obtain⟨h1,h2,Y⟩:=v6v ht hd hl wd (List.getElem_mem h);refine⟨fun W I M k1 k2 k3=>?_,Y⟩
  have:=j0m t ht ds hd hl a I cap M t.ways[k] k1 (by omega) W k2 k3
  rw[h1]at this;exact this
 have A1:Hid (0<t.ways.length):=by
  obtain⟨b,hb⟩:=k0h t wd;exact List.length_pos_of_mem (q6b hb).1
 clear hN ht hd hl;go_in;have m:=Bx.new w 0 0 57;have hf:q7n (w.alloc (.cells #[.int .i64 0,.int .i64 0] 57)) w.heap.size:=⟨_,_,heap_alloc_new w _⟩;go_wp2_with fail;refine(HO.o _ (HN.o.W (k0g Zb _))).mono ?_;rintro e A⟨h1,b1⟩;have B1:Below w w A:=z5r Zb Zl b1;have Ac:=m.W b1;have O:q7n A w.heap.size:=hf.kept (b1.block _ (by simp));have C:w.heap.size<A.heap.size:=O.lt;clear m hf b1;rcases h1 with⟨Ag,a1,c1,rfl,Au⟩|⟨Ag,rfl⟩
 ·have n:k8o (w.heap.size+1) A a1 t.ways:=by simpa using Au
  have A2:Hid (k8o (w.heap.size+1) A a1 t.ways):=n;have Am:Hid (Bx A w.heap.size 0 0/\q7n A w.heap.size):=⟨Ac,O⟩;have x:Hid (t.ways.length<=300):=Ag;clear Au n Ac O;have Av:=Bx.new A 0 0 57;have Ar:q7n (A.alloc (.cells #[.int .i64 0,.int .i64 0] 57)) A.heap.size:=⟨_,_,heap_alloc_new A _⟩;go_wp2
  go_loopw [10,11,13] (fun tx wy i wr=>Below w w wr/\Below A A wr/\q7n wr A.heap.size/\∃k:Nat,k<=t.ways.length/\i=.int .i64 k/\BOk w.heap.size t wd k A.heap.size tx wy wr) (fun _ _ i _=>t.ways.length-(intOf i).toNat)
  case atStart=>exact⟨k0g B1 _,(Below.refl _ A).alloc Zl _,Ar,0,Nat.zero_le _,rfl,.inl ⟨rfl,rfl,rfl,Av⟩⟩
  case round=>
   clear Av Ar;obtain⟨Z,B,hF,k,hk,rfl,Aq⟩:=hrel;have R:Hid (BOk w.heap.size t wd k A.heap.size _ _ wr):=Aq;clear Aq;by_cases Ai:k<t.ways.length
   ·obtain⟨hS,hC⟩:=HV.o k Ai;obtain⟨z,o0,y,M,ea,Ap,cw,Ae,Ab⟩:=A2.o k Ai;subst ea;have cr:wr.cell? ⟨z,o0+k,none⟩=some (.slice y t.ways[k].length M):=(B.cell (p:=⟨z,o0+k,none⟩) Ap).trans cw;have HI:Hid (q8x wr y t.ways[k]):=Ab.ints.W B;have r:Hid (q5r (w.heap.size+1) A y t.ways[k]):=Ab;have Af:=y1c (f:=fun u=>(t.cst wd u,u)) Ai;clear cw Ab;generalize t.ways[k]=u at cr hS hC HI r Af Ae;generalize hs:shS (t.show u)=s at hS hC;have o:Hid (fm ((t.ways.take (k+1)).map fun u=>(t.cst wd u,u))=q6e (fm ((t.ways.take k).map fun u=>(t.cst wd u,u))) (some (t.cst wd u,u))):=Af;clear Af;generalize hK:t.cst wd u=K at hC;have D:Hid (shS (t.show u)=s/\t.cst wd u=K):=⟨hs,hK⟩;have An:Hid (∀(W:World)I M,u.length<=M->q1u W a ds->q8x W I u->Calls prog 132 #[.slice a ds.length cap,.slice I u.length M] W fun e w'=>e=.returned (.tuple #[.string s,.int .i64 0])/\Below W W w'):=hS;have Aj:Hid (∀W:World,Calls prog 133 #[.string s,.int .i64 wd] W fun e w'=>e=.returned (.agg #[.int .i64 K.1,.int .i64 K.2])/\Below W W w'):=hC;have hi:(k:Int)<(t.ways.length:Int):=by omega
    have j:Hid (q7n wr A.heap.size):=hF;have l:z<wr.heap.size:=Nat.lt_of_lt_of_le Ap B.size;clear hs hK hS hC hF;rcases R.o with⟨G,rfl,rfl,Q⟩|⟨u0,I,wc,H,rfl,rfl,U,Q⟩
    ·have Az:Hid (k=0):=G;have A5:((k:Int)==0)=true:=by simp[G]
     have HX:Hid (Bx wr A.heap.size 0 0):=Q;clear Q R G;go_wp2_with fail;refine(An.o _ _ _ Ae (HN.o.W Z) HI.o).mono ?_;rintro e w2⟨rfl,b2⟩;have H2:Hid (Below wr wr w2):=b2;clear b2;go_wp2_with fail;refine(Aj.o _).mono ?_;rintro e E⟨rfl,b3⟩;have Y:=q0e H2.o Zl b3;have X:Below wr wr (E.alloc (.cells #[.int .i64 K.1,.int .i64 K.2] 57)):=k0g Y _;have P:q7n (E.alloc (.cells #[.int .i64 K.1,.int .i64 K.2] 57)) A.heap.size:=j.o.kept (X.block _ j.o.lt);have V:A.heap.size<E.heap.size:=Nat.lt_of_lt_of_le j.o.lt Y.size;have Ad:=HX.o.W X;have Aa:=Bx.new E K.1 K.2 57;have L:Hid (Below wr wr (E.alloc (.cells #[.int .i64 K.1,.int .i64 K.2] 57))):=X;clear b3 Y H2;obtain⟨y0,y1⟩:=Ad;obtain⟨e0,e1⟩:=Aa;have f0:(E.alloc (.cells #[.int .i64 K.1,.int .i64 K.2] 57)).frozen? ⟨A,0,none⟩=false:=P.frozen;have f1:(E.alloc (.cells #[.int .i64 K.1,.int .i64 K.2] 57)).frozen? ⟨A,1,none⟩=false:=P.frozen;have d4:(E.alloc (.cells #[.int .i64 K.1,.int .i64 K.2] 57)).cell? ⟨z,o0+k,none⟩=some (.slice y u.length M):=(X.cell (p:=⟨z,o0+k,none⟩) l).trans cr;have Ax:Hid (q7n (E.alloc (.cells #[.int .i64 K.1,.int .i64 K.2] 57)) A.heap.size):=P;have As:E.heap.size≠A.heap.size:=Nat.ne_of_gt V;clear X P cr
     go_upto_region 12 with fail
     generalize E.alloc (.cells #[.int .i64 K.1,.int .i64 K.2] 57)=w4 at *;go_wp2
     go_roundw
     case rel=>
      refine⟨((Z.trans (L.o.mono Z.size)).setCell (p:=⟨A,0,none⟩) (Nat.le_of_lt C) _).setCell (p:=⟨A,1,none⟩) (Nat.le_of_lt C) _,((B.trans (L.o.mono B.size)).setCell (p:=⟨A,0,none⟩) Zl _).setCell (p:=⟨A,1,none⟩) Zl _,Ax.o.set.set,k+1,by omega,by go_num,.inr ⟨u,y,M,?_,by rw[D.o.1],rfl,?_,?_⟩⟩
      ·rw[o.o,Az.o];rfl
      ·exact r.o.W (((B.trans (L.o.mono B.size)).setCell (p:=⟨A,0,none⟩) Zl _).setCell (p:=⟨A,1,none⟩) Zl _)
      ·rw[D.o.2];exact⟨(cso (.inr (by omega))).trans (css y0),css ((cso (.inr (by omega))).trans y1)⟩
     case measure=>simp[intOf];omega
    ·have G:k≠0:=by rintro rfl;simp[fm]at H
     have A5:((k:Int)==0)=false:=by simp[G]
     have Ak:Hid (fm ((t.ways.take k).map fun u=>(t.cst wd u,u))=some (t.cst wd u0,u0)):=H;have q:Hid (q5r (w.heap.size+1) wr I u0):=U;generalize At:shS (t.show u0)=s0;generalize Ao:t.cst wd u0=K0 at Q;have J:Hid (shS (t.show u0)=s0/\t.cst wd u0=K0):=⟨At,Ao⟩;have HX:Hid (Bx wr A.heap.size K0.1 K0.2):=Q;clear Q R H U At Ao G;cases Ah:decide (q2w K K0)
     all_goals
      have Al:=(show Hid (decide (q2w K K0)=_)from Ah)
      have A0:Hid (∀W,Calls prog 134 #[.agg #[.int .i64 (K.1:Int),.int .i64 (K.2:Int)],.agg #[.int .i64 (K0.1:Int),.int .i64 (K0.2:Int)]] W fun e w'=>e=.returned (.bool _)/\Below W W w'):=fun W=>by
       have:=j9g K K0 W
       rw[Ah]at this;exact this
      clear Ah;go_wp2_with fail;refine(An.o _ _ _ Ae (HN.o.W Z) HI.o).mono ?_;rintro e w2⟨rfl,b2⟩;have H2:Hid (Below wr wr w2):=b2;clear b2;go_wp2_with fail;refine(Aj.o _).mono ?_;rintro e E⟨rfl,b3⟩;have Y:=q0e H2.o Zl b3;have X:Below wr wr (E.alloc (.cells #[.int .i64 K.1,.int .i64 K.2] 57)):=k0g Y _;have P:q7n (E.alloc (.cells #[.int .i64 K.1,.int .i64 K.2] 57)) A.heap.size:=j.o.kept (X.block _ j.o.lt);have V:A.heap.size<E.heap.size:=Nat.lt_of_lt_of_le j.o.lt Y.size;have Ad:=HX.o.W X;have Aa:=Bx.new E K.1 K.2 57;have L:Hid (Below wr wr (E.alloc (.cells #[.int .i64 K.1,.int .i64 K.2] 57))):=X;clear b3 Y H2;obtain⟨x0,x1⟩:=Ad;obtain⟨e0,e1⟩:=Aa;go_wp2_with fail;refine(A0.o _).mono ?_;rintro e w5⟨rfl,b5⟩;have h5:=q0e L.o Zl b5;have A4:=HX.o.W h5;have A3:=(Bx.new E K.1 K.2 57).W b5;have c:q7n w5 A.heap.size:=j.o.kept (h5.block _ j.o.lt);have d5:w5.cell? ⟨z,o0+k,none⟩=some (.slice y u.length M):=(h5.cell (p:=⟨z,o0+k,none⟩) l).trans cr;obtain⟨y0,y1⟩:=A4;obtain⟨g0,g1⟩:=A3;have f0:w5.frozen? ⟨A,0,none⟩=false:=c.frozen;have f1:w5.frozen? ⟨A,1,none⟩=false:=c.frozen;have As:E.heap.size≠A.heap.size:=Nat.ne_of_gt V;have g:Hid (Below wr wr w5/\q7n w5 A.heap.size):=⟨h5,c⟩;clear X P cr x0 x1 e0 e1 b5 h5 c L;go_wp2
      go_roundw
     ·case rel=>
       refine⟨Z.trans (g.o.1.mono Z.size),B.trans (g.o.1.mono B.size),g.o.2,k+1,by omega,by go_num,.inr ⟨u0,I,wc,?_,by rw[J.o.1],rfl,q.o.W g.o.1,by rw[J.o.2];exact⟨y0,y1⟩⟩⟩;rw[o.o,Ak.o];show some (z9w _ _)=_;rw[z9w,if_neg (by rw[D.o.2,J.o.2];exact of_decide_eq_false Al.o)]
     ·case measure=>simp[intOf];omega
     ·case rel=>
       refine⟨((Z.trans (g.o.1.mono Z.size)).setCell (p:=⟨A,0,none⟩) (Nat.le_of_lt C) _).setCell (p:=⟨A,1,none⟩) (Nat.le_of_lt C) _,((B.trans (g.o.1.mono B.size)).setCell (p:=⟨A,0,none⟩) Zl _).setCell (p:=⟨A,1,none⟩) Zl _,g.o.2.set.set,k+1,by omega,by go_num,.inr ⟨u,y,M,?_,by rw[D.o.1],rfl,?_,?_⟩⟩
       ·rw[o.o,Ak.o];show some (z9w _ _)=_;rw[z9w,if_pos (by rw[D.o.2,J.o.2];exact of_decide_eq_true Al.o)]
       ·exact r.o.W (((B.trans (g.o.1.mono B.size)).setCell (p:=⟨A,0,none⟩) Zl _).setCell (p:=⟨A,1,none⟩) Zl _)
       ·rw[D.o.2];exact⟨(cso (.inr (by omega))).trans (css y0),css ((cso (.inr (by omega))).trans y1)⟩
     ·case measure=>simp[intOf];omega
   ·have A6:k=t.ways.length:=by omega
    subst A6;have A9:Hid (Below A A wr):=B;have m:=Am.o.1.W B;have S:q7n wr w.heap.size:=Am.o.2.kept (B.block _ C);have r0:wr.drew.cell? ⟨w,0,none⟩=some (.int .i64 0):=m.1;have r1:wr.drew.cell? ⟨w,1,none⟩=some (.int .i64 0):=m.2;have f0:wr.drew.frozen? ⟨w,0,none⟩=false:=S.frozen;have f1:wr.drew.frozen? ⟨w,1,none⟩=false:=S.frozen;have A7:wr.cell? ⟨w,0,none⟩=some (.int .i64 0):=m.1;have A8:wr.cell? ⟨w,1,none⟩=some (.int .i64 0):=m.2;have Ba:wr.frozen? ⟨w,0,none⟩=false:=S.frozen;have Bb:wr.frozen? ⟨w,1,none⟩=false:=S.frozen;have d:w.heap.size≠A.heap.size:=Nat.ne_of_lt C;clear S B hF m;rcases R.o with⟨G,_⟩|⟨u0,I,wc,H,rfl,rfl,U,Q⟩
    ·exact absurd G (Nat.ne_of_gt A1.o)
    ·have HU:Hid (t.best wd=some (t.cst wd u0,u0)):=by rw[List.take_length]at H;exact H
     have q:Hid (q5r (w.heap.size+1) wr I u0):=U;clear H U R;generalize hs:shS (t.show u0)=s;generalize hK:t.cst wd u0=K at Q;have D:Hid (shS (t.show u0)=s/\t.cst wd u0=K):=⟨hs,hK⟩;have x0:wr.drew.cell? ⟨A,0,none⟩=some (.int .i64 K.1):=Q.1;have x1:wr.drew.cell? ⟨A,1,none⟩=some (.int .i64 K.2):=Q.2;have p0:((wr.setCell ⟨w,0,none⟩ (.int .i64 K.1)).setCell ⟨w,1,none⟩ (.int .i64 K.2)).drew.cell? ⟨A,0,none⟩=some (.int .i64 K.1):=(cso (.inl d)).trans ((cso (.inl d)).trans Q.1);have p1:((wr.setCell ⟨w,0,none⟩ (.int .i64 K.1)).setCell ⟨w,1,none⟩ (.int .i64 K.2)).drew.cell? ⟨A,1,none⟩=some (.int .i64 K.2):=(cso (.inl d)).trans ((cso (.inl d)).trans Q.2);have Aw:Hid (Below w w ((wr.setCell ⟨w,0,none⟩ (.int .i64 K.1)).setCell ⟨w,1,none⟩ (.int .i64 K.2)).drew):=((Z.setCell (p:=⟨w,0,none⟩) Zl _).setCell (p:=⟨w,1,none⟩) Zl _).drew;have Ay:Hid (q5r w.heap.size ((wr.setCell ⟨w,0,none⟩ (.int .i64 K.1)).setCell ⟨w,1,none⟩ (.int .i64 K.2)).drew I u0):=((q.o.far2 (Nat.lt_succ_self _)).drew).down (Nat.le_succ _);clear hs hK Q;go_wp2_with fail
     go_region_held3 (fun w'=>w'.cell? ⟨A,0,none⟩=some (.int .i64 K.1)/\w'.cell? ⟨A,1,none⟩=some (.int .i64 K.2))
      (first|with_reducible exact⟨x0,x1⟩|with_reducible exact⟨p0,p1⟩) (fail)
     all_goals
      go_wp2;refine bodyPost_ret (v:=.tuple #[.string s,.slice I u0.length wc,.agg #[.int .i64 K.1,.int .i64 K.2],.bool true]) (by simp[results,Tryz.results80,go_sem,A7,A8]) rfl ?_;refine⟨.inl ⟨x.o,u0,I,wc,HU.o,by rw[D.o.1,D.o.2],?_⟩,Aw.o⟩;exact Ay.o
 ·have x:Hid (300<t.ways.length):=Ag;obtain⟨r0,r1⟩:=Ac;have f0:A.frozen? ⟨w,0,none⟩=false:=O.frozen;have f1:A.frozen? ⟨w,1,none⟩=false:=O.frozen;clear O;go_wp2;exact bodyPost_ret (v:=.tuple #[.string ⟨#[]⟩,.slice none 0 0,.agg #[.int .i64 0,.int .i64 0],.bool false]) (by simp[results,Tryz.results80,go_sem,r0,r1]) rfl ⟨.inr ⟨x.o,rfl⟩,(B1.setCell (p:=⟨w,0,none⟩) Zl _).setCell (p:=⟨w,1,none⟩) Zl _⟩
structure v9w(ds:List Td):Prop where
 l:ds.length<=40
 k:∀x∈ds,q0q x=0
def lvl(op:Int)(sec:Bool):Nat:=if op=5 then(if sec then 1 else 0)else(if sec then 2 else 1)
theorem k9j{ds:List Td}{p:Nat}{y:Td}{k n:Fo}{r:List Td}(h:ds.drop p=(Fo.cons y k n).N++r)(B:(Fo.cons y k n).ok):
  ∃hp:p<ds.length,ds[p]=y/\ds.drop (p+1)=k.N++(n.N++r)/\q3q ds p 1=some (p+1+k.N.length)/\ds.drop (p+1+k.N.length)=n.N++r:=by
 have hp:p<ds.length:=by
  rcases Nat.lt_or_ge p ds.length with C|C
  ·exact C
  ·rw[List.drop_eq_nil_of_le C,Fo.N]at h;cases h
 have A:=h;rw[List.drop_eq_getElem_cons hp,Fo.N,List.cons_append,List.cons.injEq,List.append_assoc]at A;refine⟨hp,A.1,A.2,?_,?_⟩
 ·have e:=j4o k B.2.1 (n.N++r) 0;rw[q7o,Nat.add_zero,B.1,<-A.2]at e;rw[z3u ds p 0 hp,A.1,q3q,Nat.add_zero (kdT y),e];rfl
 ·rw[<-List.drop_drop,A.2,List.drop_left]
theorem k6i{ds:List Td}{a:Option Addr}{cap p:Nat}(hs:v9w ds){q:Nat}(h:q3q ds p 1=some q)(hp:p<ds.length)(W:World)(hN:Tds W a ds):
  Calls prog 122 #[.slice a ds.length cap,.int .i64 (p:Int)] W fun e w'=>e=.returned (.int .i64 (q:Int))/\Below W W w':=by
 have A:=hs.l
 have:=z4p ds a cap (by omega) hs.k (ds.length+1) p W hN (by omega) (by omega)
 rw[h]at this;exact this
end Go.Proofs.YthcpdohdppkmkaaGreatDoor
