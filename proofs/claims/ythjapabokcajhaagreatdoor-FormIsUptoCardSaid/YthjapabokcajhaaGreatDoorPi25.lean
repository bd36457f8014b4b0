/- Texts as one: WayL8, WayL9, WayLZ, BstO. -/
import Derived.Test.YthjapabokcajhaaGreatDoorPi24
open Go.Proofs.Tryz
namespace Go.Proofs.YthjapabokcajhaaGreatDoor
open Go Go.RowKit
set_option maxRecDepth 100000
set_option maxHeartbeats 4000000
theorem y7z(B b:Nat)(ds:List Nd)(a:Option Addr)(cap:Nat)(hl:ds.length<=400)(tx:ByteArray)(n:Int)(A:List Nd)(f:Nat->List Int->Except Int (List UInt8 × List Int))(sA:ByteArray)(fl:Bool)(hA:q7o B b ds a cap A f)(hF:q2m ds a cap A sA fl)(hsA:sA.size<=8800):q7o B b ds a cap (⟨8,tx,n⟩::A) (q4o f sA fl):=by
 intro i r deep ws wa wc s w hd hN hI hwc hL hdeep hsz;obtain⟨hi,e1,e2⟩:=q0m (x:=⟨8,tx,n⟩) (r:=A++r) hd;obtain⟨b0,o0,ea,hlt,d1,d2,d3⟩:=hN i hi;subst ea;rw[e1]at d1 d2 d3;dsimp only at d1 d2 d3;simp only[List.length_cons]at hdeep hsz;have HD:=hid e2;have HN:=hid hN;have HI:=hid hI;have HL:=hid hL;have hbs:=hL.bsize;obtain⟨h0,h1,c0,c1,c2,c3,f1,f2,f3⟩:=hL;have hb0:b0<w.heap.size:=by omega
 have HB:Hid (∀O:Obj,Below B w (w.alloc O)):=fun O=>(Below.refl _ w).alloc hbs O
 have HA:=hid hA;have HF:=hid hF;have HX:Hid (((i+1:Nat):Int)=(i:Int)+1):=(show _=_ by omega);clear hd e1 e2 hN hI hA hF
 match ws,HI,HL,hwc,c1 with
 | [],HI,HL,hwc,c1=>
  simp only[List.length_nil]at HL c1;go_in;go_wp2_with fail;refine(z3q (HL.o.alloc _)).mono ?_;rintro e w2⟨rfl,hl2,hb2⟩;have HL2:=hid hl2;obtain⟨_,_,_,_,_,g3,_,_,_⟩:=hl2;go_wp2;refine bodyPost_ret (results_none rfl _ _ _) rfl ?_;exact⟨rfl,⟨by decide,_,_,HL2.o⟩,(HB.o _).trans hb2⟩
 | c::ws,HI,HL,hwc,c1=>
  simp only[List.length_cons]at HL c1 hwc;by_cases hc:c=1
  ·subst hc;go_in;go_wp2_with fail;refine(q4x 1 ws (HL.o.alloc _) (HI.o.below (HB.o _)) hwc).mono ?_;rintro e w2⟨rfl,⟨wa',wc',hl2,hi2,hw2⟩,hb2⟩;have HL2:=hid hl2;have HI2:=hid hi2;have HB2:=hid ((HB.o _).trans hb2);obtain⟨_,_,_,_,_,g3,_,_,_⟩:=hl2;clear hi2 hb2;go_wp2_with fail;rw[<-HX.o];refine(HA.o (i+1) r deep ws wa' wc' s _ HD.o (HN.o.below HB2.o) HI2.o hw2 HL2.o (by omega) (by omega)).mono ?_;rintro e w3⟨rfl,hl3,hb3⟩;go_wp2;refine bodyPost_ret (results_none rfl _ _ _) rfl ?_;refine⟨rfl,?_,HB2.o.trans hb3⟩;rw[q4o,if_pos rfl];exact hl3
  ·have hc':(c==1)=false:=by simp[hc]
   have HC:=hid hc;clear hc;cases fl with
   | true=>
    go_in;go_wp2_with fail;refine(q4x c ws (HL.o.alloc _) (HI.o.below (HB.o _)) hwc).mono ?_;rintro e w2⟨rfl,⟨wa',wc',hl2,hi2,hw2⟩,hb2⟩;have HL2:=hid hl2;have HI2:=hid hi2;have HB2:=hid ((HB.o _).trans hb2);obtain⟨_,k1,k0,_,_,k3,_,_,_⟩:=hl2;clear hi2 hb2;go_wp2_with fail;rw[<-HX.o];refine(HF.o (i+1) r _ HD.o ((HN.o.below HB2.o).nods HL2.o.bsize)).mono ?_;rintro e w3⟨rfl,hb3⟩;have HL3:=hid (HL2.o.below hb3);have HB3:=hid (HB2.o.trans (HL2.o.grown hb3));have HI3:=hid (HI2.o.below (HL2.o.grown hb3));obtain⟨_,m1,m0,_,m2,m3,_,g2,g3⟩:=HL3.o;clear k1 k0 k3 hb3;go_wp2
    go_end0
    have HBz:∀v,Below B w (w3.setCell ⟨b,2,none⟩ v):=fun v=>HB3.o.setCell (p:=⟨b,2,none⟩) h0 _
    refine⟨rfl,?_,HBz _⟩;rw[q4o,if_neg HC.o,if_pos rfl];exact⟨wa',wc',s++sA,by simp,HL3.o.text _,HI3.o.below ((Below.refl B w3).setCell (p:=⟨b,2,none⟩) h0 _),hw2⟩
   | false=>
    go_in;go_wp2_with fail;refine(q4x c ws (HL.o.alloc _) (HI.o.below (HB.o _)) hwc).mono ?_;rintro e w2⟨rfl,⟨wa',wc',hl2,hi2,hw2⟩,hb2⟩;have HL2:=hid hl2;have HB2:=hid ((HB.o _).trans hb2);obtain⟨_,k1,k0,_,_,k3,_,_,_⟩:=hl2;clear hi2 hb2;go_wp2_with fail;rw[<-HX.o];refine(HF.o (i+1) r _ HD.o ((HN.o.below HB2.o).nods HL2.o.bsize)).mono ?_;rintro e w3⟨rfl,hb3⟩;have HL3:=hid (HL2.o.below hb3);have HB3:=hid (HB2.o.trans (HL2.o.grown hb3));obtain⟨_,m1,m0,_,m2,m3,_,g2,g3⟩:=HL3.o;clear k1 k0 k3 hb3;go_wp2
    go_end0
    refine⟨rfl,?_,(HB3.o.setCell (p:=⟨b,3,none⟩) h0 _).setCell (p:=⟨b,2,none⟩) h0 _⟩;rw[q4o,if_neg HC.o,if_neg (by decide)];exact⟨by decide,_,_,(HL3.o.fault 4).text _⟩
theorem y8a(B b:Nat)(ds:List Nd)(a:Option Addr)(cap:Nat)(hl:ds.length<=400)(tx:ByteArray)(n:Int)(A C:List Nd)(f g:Nat->List Int->Except Int (List UInt8 × List Int))(hA:q7o B b ds a cap A f)(hC:q7o B b ds a cap C g)(hE:∀i r,ds.drop i=A++r->q0v ds i 1=some (i+A.length))(hC0:0<C.length):q7o B b ds a cap (⟨9,tx,n⟩::(A++C)) (q4e f g):=by
 intro i r deep ws wa wc s w hd hN hI hwc hL hdeep hsz;obtain⟨hi,e1,e2⟩:=q0m (x:=⟨9,tx,n⟩) (r:=(A++C)++r) hd;obtain⟨b0,o0,ea,hlt,d1,d2,d3⟩:=hN i hi;subst ea;rw[e1]at d1 d2 d3;dsimp only at d1 d2 d3;simp only[List.length_cons,List.length_append]at hdeep hsz;have HD:=hid e2;have HN:=hid hN;have HI:=hid hI;have HL:=hid hL;have hbs:=hL.bsize;obtain⟨h0,h1,c0,c1,c2,c3,f1,f2,f3⟩:=hL;have hb0:b0<w.heap.size:=by omega
 have HB:Hid (∀O:Obj,Below B w (w.alloc O)):=fun O=>(Below.refl _ w).alloc hbs O
 have HA:=hid hA;have HC:=hid hC;have HX:Hid (((i+1:Nat):Int)=(i:Int)+1):=(show _=_ by omega);rw[List.append_assoc]at HD;have HE:=hid (hE (i+1) (C++r) HD.o);have HD2:=hid (q7r HD.o)
 have HJ:Hid (i+1+A.length<ds.length):=(show _<_ by
  have h1:=congrArg List.length HD2.o;simp at h1
  omega)
 clear hd e1 e2 hN hI hA hC hE
 match ws,HI,HL,hwc,c1 with
 | [],HI,HL,hwc,c1=>
  simp only[List.length_nil]at HL c1;go_in;go_wp2_with fail;refine(z3q (HL.o.alloc _)).mono ?_;rintro e w2⟨rfl,hl2,hb2⟩;have HL2:=hid hl2;obtain⟨_,_,_,_,_,g3,_,_,_⟩:=hl2;go_wp2;refine bodyPost_ret (results_none rfl _ _ _) rfl ?_;exact⟨rfl,⟨by decide,_,_,HL2.o⟩,(HB.o _).trans hb2⟩
 | c::ws,HI,HL,hwc,c1=>
  simp only[List.length_cons]at HL c1 hwc;by_cases hc:c=0
  ·subst hc;go_in;go_wp2_with fail;refine(q4x 0 ws (HL.o.alloc _) (HI.o.below (HB.o _)) hwc).mono ?_;rintro e w2⟨rfl,⟨wa',wc',hl2,hi2,hw2⟩,hb2⟩;have HL2:=hid hl2;have HI2:=hid hi2;have HB2:=hid ((HB.o _).trans hb2);obtain⟨_,_,_,_,_,g3,_,_,_⟩:=hl2;clear hi2 hb2;go_wp2_with fail;rw[<-HX.o];refine(HA.o (i+1) (C++r) deep ws wa' wc' s _ HD.o (HN.o.below HB2.o) HI2.o hw2 HL2.o (by omega) (by omega)).mono ?_;rintro e w3⟨rfl,hl3,hb3⟩;go_wp2
   go_end0
   refine⟨rfl,?_,HB2.o.trans hb3⟩;rw[q4e,if_pos rfl];exact hl3
  ·have hc':(c==0)=false:=by simp[hc]
   have HC0:=hid hc;clear hc;go_in;go_wp2_with fail;refine(q4x c ws (HL.o.alloc _) (HI.o.below (HB.o _)) hwc).mono ?_;rintro e w2⟨rfl,⟨wa',wc',hl2,hi2,hw2⟩,hb2⟩;have HL2:=hid hl2;have HI2:=hid hi2;have HB2:=hid ((HB.o _).trans hb2);obtain⟨_,k1,k0,_,_,g3,_,_,_⟩:=hl2;clear hi2 hb2;go_wp2_with fail;rw[<-HX.o];refine(q4t ds _ cap hl (ds.length+1) (i+1) w2 ((HN.o.below HB2.o).nods HL2.o.bsize) (by omega) (by omega)).mono ?_;rintro e w3⟨rfl,rfl⟩;rw[HE.o];have hz:v6p (some (i+1+A.length))=((i+1+A.length:Nat):Int):=rfl;rw[hz];generalize hj:i+1+A.length=j at HD2 HJ⊢;clear hz hj;go_wp2_with fail;refine(HC.o j r deep ws wa' wc' s _ HD2.o (HN.o.below HB2.o) HI2.o hw2 HL2.o (by omega) (by omega)).mono ?_;rintro e w4⟨rfl,hl4,hb4⟩;go_wp2
   go_end0
   refine⟨rfl,?_,HB2.o.trans hb4⟩;rw[q4e,if_neg HC0.o];exact hl4
theorem q9k(B b:Nat)(ds:List Nd)(a:Option Addr)(cap:Nat)(hl:ds.length<=400):∀t:Tr,t.Wf->t.nodes.length<=400->q7o B b ds a cap t.nodes t.lay
 | .leaf ⟨op,tx,n⟩,h,hn=>by
  obtain⟨_,_,_,_,h5,_⟩:=q1x h.1;rcases q3w h.1 h.2 with e|e|e|e|e
  all_goals (simp only at e;subst e)
  ·exact y7s B b ds a cap tx n (q3y (h5 rfl)).2
  ·exact y7t B b ds a cap tx n
  ·exact y7u B b ds a cap tx n
  ·exact y7v B b ds a cap tx n
  ·exact y7w B b ds a cap tx n
 | .one ⟨op,tx,n⟩ a',h,hn=>by
  obtain⟨_,_,_,_,_,h6⟩:=q1x h.1;have hn':a'.nodes.length<=400:=by simp[Tr.nodes]at hn;omega
  rcases q7z h.2.1 with e|e
  all_goals (simp only at e;subst e)
  ·exact y7y B b ds a cap hl tx n (h6 rfl).1 (h6 rfl).2 _ _ (q9k B b ds a cap hl a' h.2.2 hn')
  ·rw[k0y (x:=⟨8,tx,n⟩) rfl];exact y7z B b ds a cap hl tx n _ _ _ _ (q9k B b ds a cap hl a' h.2.2 hn') (q3u ds a cap hl a' h.2.2 hn') (by have:=q7t a' h.2.2;rw[q7x];omega)
 | .two ⟨op,tx,n⟩ a' c,h,hn=>by
  have hn1:a'.nodes.length<=400:=by simp[Tr.nodes]at hn;omega
  have hn2:c.nodes.length<=400:=by simp[Tr.nodes]at hn;omega
  rcases q7m h.2.1 with e|e
  all_goals (simp only at e;subst e)
  ·rw[j4v (x:=⟨6,tx,n⟩) rfl];exact y7x B b ds a cap hl tx n _ _ _ _ (q9k B b ds a cap hl a' h.2.2.1 hn1) (q9k B b ds a cap hl c h.2.2.2 hn2) (fun i r hd=>q4r h.2.2.1 hd) c.pos (fun deep ws u v he hd=>q5r a' deep ws u v h.2.2.1 he hd)
  ·rw[z6r (x:=⟨9,tx,n⟩) rfl];exact y8a B b ds a cap hl tx n _ _ _ _ (q9k B b ds a cap hl a' h.2.2.1 hn1) (q9k B b ds a cap hl c h.2.2.2 hn2) (fun i r hd=>q4r h.2.2.1 hd) c.pos
theorem j0a(t:Tr)(ht:t.Wf)(ds:List Nd)(hd:ds=t.nodes)(hl:ds.length<=400)(a wa:Option Addr)(cap wc:Nat)(ws:List Int)(hw:ws.length<=wc)(hwc:ws.length<=9223372036854775807)(w:World)(hN:q1u w a ds)(hI:q9e w wa ws):
  Calls prog 64 #[.slice a ds.length cap,.slice wa ws.length wc] w fun e w'=>e=.returned (.tuple #[.string (shS (t.show ws)),.int .i64 (shE (t.show ws))])/\Below w w w':=by
 have HN:Hid (q1u w a ds):=hN;have HI:Hid (q9e w wa ws):=hI;have HD:Hid (ds=t.nodes):=hd;clear hN hI hd;go_in;go_wp2
 go_loopw [6] (fun i wr=>wr=w/\∃k:Nat,k<=ws.length/\i=.int .i64 k/\∀j(h:j<ws.length),j<k->ws[j]=0\/ws[j]=1) (fun i _=>ws.length-(intOf i).toNat)
 case atStart=>exact⟨rfl,0,Nat.zero_le _,rfl,fun j _ hj=>by omega⟩
 case round=>
  obtain⟨rfl,k,hk,rfl,hall⟩:=hrel;have HA:Hid (∀j(h:j<ws.length),j<k->ws[j]=0\/ws[j]=1):=hall;clear hall;by_cases hlt:k<ws.length
  ·obtain⟨b0,o0,ea,hb0,c0⟩:=HI.o k hlt;subst ea;by_cases h01:ws[k]=0\/ws[k]=1
   ·have HA':Hid (∀j(h:j<ws.length),j<k+1->ws[j]=0\/ws[j]=1):=fun j h hj=>by
     by_cases hjk:j=k
     ·subst hjk;exact h01
     ·exact HA.o j h (by omega)
    rcases h01 with h01|h01
    all_goals
     rw[h01]at c0;clear h01;go_wp2
     go_roundw
     case rel=>exact⟨by trivial,k+1,by omega,by go_num,HA'.o⟩
     case measure=>simp[intOf];omega
   ·have hn0:ws[k]≠0:=fun h=>h01 (.inl h)
    have hn1:ws[k]≠1:=fun h=>h01 (.inr h)
    have HS:Hid (t.show ws=.error 1):=j0b hlt hn0 hn1;generalize ws[k]=c at c0 hn0 hn1;have g0:(c != 0)=true:=by simp[hn0]
    have g1:(c != 1)=true:=by simp[hn1]
    clear hn0 hn1 h01;go_wp2;go_ret2;exact⟨by rw[HS.o];rfl,Below.refl _ _⟩
  ·have hok:q3g ws:=fun c hc=>by
    obtain⟨j,hj,rfl⟩:=List.getElem_of_mem hc;exact HA.o j hj (by omega)
   have HS:Hid (t.show ws=match t.lay 0 ws with| .error e=>.error e| .ok (s,[])=>.ok s| .ok (_,_::_)=>.error 2):=k7k hok;clear hok;have hNB:q9v wr.heap.size wr a ds:=HN.o
   have HLY:Hid (q5g wr.heap.size wr.heap.size (.slice a ds.length cap) (.slice wa ws.length wc) ⟨#[]⟩ 0 (wr.alloc (.cells #[.slice a ds.length cap,.slice wa ws.length wc,.string ⟨#[]⟩,.int .i64 0] 157))):=
    ⟨Nat.le_refl _,by simp,by simp[go_sem],by simp[go_sem],by simp[go_sem],by simp[go_sem],by simp[go_sem],by simp[go_sem],by simp[go_sem]⟩
   have HBA:Hid (∀O:Obj,Below wr wr (wr.alloc O)):=fun O=> Zb.alloc Zl O
   have HLC:Hid (∀W:World,q5g wr.heap.size wr.heap.size (.slice a ds.length cap) (.slice wa ws.length wc) ⟨#[]⟩ 0 W->Below wr wr W->
     Calls prog 95 #[.pointer (some ⟨wr.heap.size,0,none⟩),.int .i64 0,.int .i64 0] W fun e w'=>e=.returned (.tuple #[])/\Laid wr.heap.size wr.heap.size (.slice a ds.length cap) (t.lay 0 ws) ⟨#[]⟩ w'/\Below wr W w'):=fun W h1 h2=>
    q9k wr.heap.size wr.heap.size ds a cap hl t ht (by rw[<-HD.o];exact hl) 0 [] 0 ws wa wc ⟨#[]⟩ W (by rw[HD.o];simp) (hNB.below h2) (q2l.below HI.o h2) hw h1 (by rw[<-HD.o];omega) (by rw[<-HD.o];show 0+4000*ds.length<=1000000000;omega)
   clear hNB;go_wp2_with fail;refine(HLC.o _ HLY.o (HBA.o _)).mono ?_;rintro e w2⟨rfl,hl2,hb2⟩;have HB2:Hid (Below wr wr w2):=(HBA.o _).trans hb2;clear hb2;cases hlay:t.lay 0 ws with
   | error e0=>
    rw[hlay]at hl2;have hS:=HS.o;rw[hlay]at hS;have HRE:Hid (t.show ws=.error e0):=hS;obtain⟨he0,v',s',hl3⟩:=hl2;obtain⟨_,k1,k0,k4,k2,k3,f1,f2,f3⟩:=hl3;have g0:(e0==0)=false:=by simp[he0]
    have g1:(e0 != 0)=true:=by simp[he0]
    clear he0 hlay hS;go_wp2_with fail
    go_quiet (fail)
    go_wp2;go_ret2;exact⟨by rw[HRE.o];rfl,HB2.o.trans ⟨rfl,rfl,rfl,Nat.le_refl _,fun _ _=>rfl⟩⟩
   | ok p=>
    obtain⟨u,r⟩:=p;rw[hlay]at hl2;have hS:=HS.o;rw[hlay]at hS;obtain⟨wa2,wc2,s2,es2,hl3,_,hw3⟩:=hl2;cases r with
    | nil=>
     have HRE:Hid (t.show ws=.ok u):=hS;have hs2:s2=⟨u.toArray⟩:=q6a (by rw[es2];simp);have HS2:Hid (s2=⟨u.toArray⟩):=hs2;simp only[List.length_nil]at hl3;obtain⟨_,k1,k0,k4,k2,k3,f1,f2,f3⟩:=hl3;clear hlay hS es2 hs2;go_wp2;go_ret2;exact⟨by rw[HRE.o];exact congrArg (fun z=>Ending.returned (.tuple #[.string z,.int .i64 0])) HS2.o,HB2.o⟩
    | cons c r=>
     have HRE:Hid (t.show ws=.error 2):=hS;simp only[List.length_cons]at hl3;obtain⟨h0,k1,k0,k4,k2,k3,f1,f2,f3⟩:=hl3;have g0:(0:Int)<(r.length:Int)+1:=by omega
     clear hlay hS es2;go_wp2_with fail
     go_quiet (fail)
     go_wp2;go_ret2;exact⟨by rw[HRE.o];rfl,(HB2.o.setCell (p:=⟨wr.heap.size,3,none⟩) Zl _).trans ⟨rfl,rfl,rfl,Nat.le_refl _,fun _ _=>rfl⟩⟩
def q5o(G:Nat)(w:World)(a:Option Addr)(ws:List Int):Prop:=
 ∀i(h:i<ws.length),∃b o,a=some ⟨b,o,none⟩/\b<w.heap.size/\G<=b/\w.cell? ⟨b,o+i,none⟩=some (.int .i64 ws[i])
theorem q5o.ints{G:Nat}{w:World}{a:Option Addr}{ws:List Int}(h:q5o G w a ws):q9e w a ws:=by
 intro i hi;obtain⟨b,o,e,h1,_,c⟩:=h i hi;exact⟨b,o,e,h1,c⟩
theorem q5o.below{G:Nat}{w w':World}{a:Option Addr}{ws:List Int}(h:q5o G w a ws)(hb:Below w w w'):q5o G w' a ws:=by
 intro i hi;obtain⟨b,o,e,h1,h2,c⟩:=h i hi;exact⟨b,o,e,Nat.lt_of_lt_of_le h1 hb.size,h2,(hb.cell (p:=(b,o+i)) h1).trans c⟩
theorem q5o.far2{G g:Nat}{w:World}{a:Option Addr}{ws:List Int}{v v':Value}(h:q5o G w a ws)(hg:g<G):q5o G ((w.setCell g v).setCell (g,1) v') a ws:=by
 intro i hi;obtain⟨b,o,e,h1,h2,c⟩:=h i hi;have hs:=(((Below.refl 0 w).setCell (p:=g) (Nat.zero_le _) v).setCell (p:=(g,1)) (Nat.zero_le _) v').size;have hne:g≠b:=by omega
 exact⟨b,o,e,Nat.lt_of_lt_of_le h1 hs,h2,(cso (.inl hne)).trans ((cso (.inl hne)).trans c)⟩
theorem q5o.drew{G:Nat}{w:World}{a:Option Addr}{ws:List Int}(h:q5o G w a ws):q5o G w.drew a ws:=h
theorem q5o.down{G G':Nat}{w:World}{a:Option Addr}{ws:List Int}(h:q5o G w a ws)(hg:G'<=G):q5o G' w a ws:=by
 intro i hi;obtain⟨b,o,e,h1,h2,c⟩:=h i hi;exact⟨b,o,e,h1,Nat.le_trans hg h2,c⟩
def j1j(G:Nat)(w:World)(a:Option Addr)(ls:List (List Int)):Prop:=
 ∀i(h:i<ls.length),∃b o a' c',a=some ⟨b,o,none⟩/\b<w.heap.size/\w.cell? ⟨b,o+i,none⟩=some (.slice a' ls[i].length c')/\ls[i].length<=c'/\q5o G w a' ls[i]
theorem j0q{G:Nat}{w:World}{a:Option Addr}{ls:List (List Int)}(h:∀g,(∀k,g=some k->k<G)->q4v g w a ls):j1j G w a ls:=by
 intro i hi;obtain⟨b,o,a',c',e,h1,_,c,h3,h4,_⟩:=h none (fun _ q=>by cases q) i hi;refine⟨b,o,a',c',e,h1,c,h3,fun j hj=>?_⟩;obtain⟨b',o',e',g1,_,c2⟩:=h4 j hj;refine⟨b',o',e',g1,?_,c2⟩;apply Nat.le_of_not_lt;intro hlt;obtain⟨b2,o2,a2,c2',e2,_,_,cc,_,h42,_⟩:=h (some b') (fun k q=>by cases q;exact hlt) i hi;rw[e]at e2;simp only[Option.some.injEq,Addr.mk.injEq,and_true]at e2;obtain⟨rfl,rfl⟩:=e2;rw[c]at cc;simp only[Option.some.injEq,Value.slice.injEq,true_and]at cc;obtain⟨b3,o3,e3,_,n3,_⟩:=h42 j hj;rw[<-cc.1,e']at e3;simp only[Option.some.injEq,Addr.mk.injEq,and_true]at e3;exact n3 (by rw[e3.1])
def BOk(g:Nat)(t:Tr)(wd k b:Nat)(tx wy:Value)(w:World):Prop:=
 (k=0/\tx=.string ⟨#[]⟩/\wy=.slice none 0 0/\Bx w b 0 0)\/(∃u wa wc,fm ((t.ways.take k).map fun u=>(t.cst wd u,u))=some (t.cst wd u,u)/\tx=.string (shS (t.show u))/\wy=.slice wa u.length wc/\q5o (g+1) w wa u/\Bx w b (t.cst wd u).1 (t.cst wd u).2)
theorem j1p(t:Tr)(ht:t.Wf)(ds:List Nd)(hd:ds=t.nodes)(hl:ds.length<=400)(a:Option Addr)(cap:Nat)(w:World)(hN:q1u w a ds):
  Calls prog 63 #[.slice a ds.length cap] w fun e w'=>((t.ways.length<=300/\∃a' c',e=.returned (.tuple #[.slice a' t.ways.length c',.bool true])/\j1j w.heap.size w' a' t.ways)\/(300<t.ways.length/\e=.returned (.tuple #[.slice none 0 0,.bool false])))/\Below w w w':=by
 have ha:∀O:Obj,Below w w (w.alloc O):=fun O=>(Below.refl _ w).alloc Zl O
 have HT:Hid (Calls prog 94 #[.slice a ds.length cap,.int .i64 0,.slice w.heap.size 1 1,.int .i64 300] (w.alloc (.cells #[.slice none 0 0] 45)) fun e w'=>∃a' c',e=.returned (.slice a' (t.tl [[]]).length c')/\j1j w.heap.size w' a' (t.tl [[]])/\Below w w w'):=by
  have hW:∀g',(∀k,g'=some k->k<w.heap.size)->q4v g' (w.alloc (.cells #[.slice none 0 0] 45)) w.heap.size [[]]:=by
   intro g' hg' i hi;obtain rfl:i=0:=by simp at hi;omega
   exact⟨w.heap.size,0,none,0,rfl,by simp,fun q=>by have:=hg' _ q.symm;omega,by simp[go_sem],by simp,fun j hj=>by simp at hj,fun _=>⟨rfl,rfl⟩⟩
  refine(z0x ds a cap hl t ht (by rw[<-hd];exact hl) 0 [] [[]] w.heap.size 1 0 _ (by rw[<-hd];simp) (hN.below (ha _)) (hW none (fun _ h=>by cases h)) (by simp) (by simp) (by simp) (by rw[<-hd];omega)).mono ?_;rintro e w'⟨a',c',rfl,_,h3,h4⟩;exact⟨a',c',rfl,j0q fun g hg=>h3 g (fun k q=>by have:=hg k q;simp;omega) (hW g hg),(ha _).trans (h4.mono (by simp))⟩
 have hall:=y5u t;generalize hL:t.tl [[]]=L at HT hall;clear hL hd hN ha;rcases hall with⟨h1,h2⟩|⟨h1,h2⟩
 ·subst h2;have h1':¬(300:Int)<(t.ways.length:Int):=by omega
  have H1:=hid h1;go_in;go_wp2_with fail;refine HT.o.mono ?_;rintro e w2⟨a2,c2,rfl,h3,h4⟩;have H3:=hid h3;clear h3;go_wp2;go_ret2;exact⟨.inl ⟨H1.o,_,_,rfl,H3.o⟩,h4⟩
 ·have h2':(300:Int)<(L.length:Int):=by omega
  have H1:=hid h1;clear h1;go_in;go_wp2_with fail;refine HT.o.mono ?_;rintro e w2⟨a2,c2,rfl,h3,h4⟩;clear h3;go_wp2;go_ret2;exact⟨.inr ⟨H1.o,rfl⟩,h4⟩
def BOR(t:Tr)(wd:Nat)(w:World)(e:Ending)(w':World):Prop:=
 ((t.ways.length<=300/\∃u wa wc,t.best wd=some (t.cst wd u,u)/\e=.returned (.tuple #[.string (shS (t.show u)),.slice wa u.length wc,.agg #[.int .i64 (t.cst wd u).1,.int .i64 (t.cst wd u).2],.bool true])/\q5o w.heap.size w' wa u)\/(300<t.ways.length/\e=.returned (.tuple #[.string ⟨#[]⟩,.slice none 0 0,.agg #[.int .i64 0,.int .i64 0],.bool false])))/\Below w w w'
theorem v5o{t:Tr}(ht:t.Wf){ds:List Nd}(hd:ds=t.nodes)(hl:ds.length<=400)(wd:Nat){u:List Int}(hu:u∈t.ways):
  shE (t.show u)=0/\u.length<=400/\∀W:World,Calls prog 20 #[.string (shS (t.show u)),.int .i64 wd] W fun e w'=>e=.returned (.agg #[.int .i64 (t.cst wd u).1,.int .i64 (t.cst wd u).2])/\Below W W w':=by
 obtain⟨s,hs⟩:=(z4w t u).2 hu;have hD:q5v ds u=.ok s:=by rw[z2f ht hd hl,hs]
 obtain⟨h1,h2⟩:=j8i hD;have hx:t.txt u=s:=by rw[Tr.txt,hs]
 refine⟨by rw[hs];rfl,h2,fun W=>?_⟩;have e4:(shS (t.show u)).data.toList=s:=by rw[hs];simp[shS]
 have:=j8f (shS (t.show u)) wd W (by rw[Lib.size_eq,e4];omega)
 rw[e4,v9h]at this;rw[Tr.cst,hx];exact this
theorem k8b(t:Tr)(ht:t.Wf)(ds:List Nd)(hd:ds=t.nodes)(hl:ds.length<=400)(wd:Nat)(a:Option Addr)(cap:Nat)(w:World)(hN:q1u w a ds):
  Calls prog 27 #[.slice a ds.length cap,.int .i64 wd] w fun e w'=>BOR t wd w e w':=by
 have HN:Hid (q1u w a ds):=hN;have HO:Hid (∀(W:World),q1u W a ds->Calls prog 63 #[.slice a ds.length cap] W _):=fun W h1=>j1p t ht ds hd hl a cap W h1
 have HV:Hid (∀k(h:k<t.ways.length),(∀(W:World)wa c',t.ways[k].length<=c'->q1u W a ds->q9e W wa t.ways[k]->Calls prog 64 #[.slice a ds.length cap,.slice wa t.ways[k].length c'] W fun e w'=>e=.returned (.tuple #[.string (shS (t.show t.ways[k])),.int .i64 0])/\Below W W w')
   /\∀W:World,Calls prog 20 #[.string (shS (t.show t.ways[k])),.int .i64 wd] W fun e w'=>e=.returned (.agg #[.int .i64 (t.cst wd t.ways[k]).1,.int .i64 (t.cst wd t.ways[k]).2])/\Below W W w'):=fun k h=>by
  obtain⟨h1,h2,h3⟩:=v5o ht hd hl wd (List.getElem_mem h);refine⟨fun W wa c' k1 k2 k3=>?_,h3⟩
  have:=j0a t ht ds hd hl a wa cap c' t.ways[k] k1 (by omega) W k2 k3
  rw[h1]at this;exact this
 have HNE:Hid (0<t.ways.length):=by
  obtain⟨b,hb⟩:=k0g t wd;exact List.length_pos_of_mem (q5z hb).1
 clear hN ht hd hl;go_in;have hr:=Bx.new w 0 0 54;have hf:q7p (w.alloc (.cells #[.int .i64 0,.int .i64 0] 54)) w.heap.size:=⟨_,_,heap_alloc_new w _⟩;go_wp2_with fail;refine(HO.o _ (HN.o.below (k0f Zb _))).mono ?_;rintro e w1⟨h1,b1⟩;have B1:Below w w w1:=z6b Zb Zl b1;have hR1:=hr.below b1;have hF1:q7p w1 w.heap.size:=hf.kept (b1.block _ (by simp));have hlt1:w.heap.size<w1.heap.size:=hF1.lt;clear hr hf b1;rcases h1 with⟨hl1,a1,c1,rfl,hw1⟩|⟨hl1,rfl⟩
 ·have hw1':j1j (w.heap.size+1) w1 a1 t.ways:=by simpa using hw1
  have HW1:Hid (j1j (w.heap.size+1) w1 a1 t.ways):=hw1';have HR1:Hid (Bx w1 w.heap.size 0 0/\q7p w1 w.heap.size):=⟨hR1,hF1⟩;have HL1:Hid (t.ways.length<=300):=hl1;clear hw1 hw1' hR1 hF1;have hx1:=Bx.new w1 0 0 54;have hf1:q7p (w1.alloc (.cells #[.int .i64 0,.int .i64 0] 54)) w1.heap.size:=⟨_,_,heap_alloc_new w1 _⟩;go_wp2
  go_loopw [10,11,13] (fun tx wy i wr=>Below w w wr/\Below w1 w1 wr/\q7p wr w1.heap.size/\∃k:Nat,k<=t.ways.length/\i=.int .i64 k/\BOk w.heap.size t wd k w1.heap.size tx wy wr) (fun _ _ i _=>t.ways.length-(intOf i).toNat)
  case atStart=>exact⟨k0f B1 _,(Below.refl _ w1).alloc Zl _,hf1,0,Nat.zero_le _,rfl,.inl ⟨rfl,rfl,rfl,hx1⟩⟩
  case round=>
   clear hx1 hf1;obtain⟨hB,hB1,hF,k,hk,rfl,hbo⟩:=hrel;have HBO:Hid (BOk w.heap.size t wd k w1.heap.size _ _ wr):=hbo;clear hbo;by_cases hlt:k<t.ways.length
   ·obtain⟨hS,hC⟩:=HV.o k hlt;obtain⟨b0,o0,a',c',ea,hb0,cw,hcw,hIw⟩:=HW1.o k hlt;subst ea;have cr:wr.cell? ↑(b0,o0+k)=some (.slice a' t.ways[k].length c'):=(hB1.cell (p:=↑(b0,o0+k)) hb0).trans cw;have HI:Hid (q9e wr a' t.ways[k]):=hIw.ints.below hB1;have HI1:Hid (q5o (w.heap.size+1) w1 a' t.ways[k]):=hIw;have hfm:=v9r (f:=fun u=>(t.cst wd u,u)) hlt;clear cw hIw;generalize t.ways[k]=u at cr hS hC HI HI1 hfm hcw;generalize hs:shS (t.show u)=s at hS hC;have HFM:Hid (fm ((t.ways.take (k+1)).map fun u=>(t.cst wd u,u))=q6b (fm ((t.ways.take k).map fun u=>(t.cst wd u,u))) (some (t.cst wd u,u))):=hfm;clear hfm;generalize hK:t.cst wd u=K at hC;have HSK:Hid (shS (t.show u)=s/\t.cst wd u=K):=⟨hs,hK⟩;have HSC:Hid (∀(W:World)wa c',u.length<=c'->q1u W a ds->q9e W wa u->Calls prog 64 #[.slice a ds.length cap,.slice wa u.length c'] W fun e w'=>e=.returned (.tuple #[.string s,.int .i64 0])/\Below W W w'):=hS;have HCC:Hid (∀W:World,Calls prog 20 #[.string s,.int .i64 wd] W fun e w'=>e=.returned (.agg #[.int .i64 K.1,.int .i64 K.2])/\Below W W w'):=hC;have hi:(k:Int)<(t.ways.length:Int):=by omega
    have HF:Hid (q7p wr w1.heap.size):=hF;have hb0r:b0<wr.heap.size:=Nat.lt_of_lt_of_le hb0 hB1.size;clear hs hK hS hC hF;rcases HBO.o with⟨hk0,rfl,rfl,hx⟩|⟨u0,wa,wc,hf0,rfl,rfl,hI0,hx⟩
    ·have HK0:Hid (k=0):=hk0;have hki:((k:Int)==0)=true:=by simp[hk0]
     have HX:Hid (Bx wr w1.heap.size 0 0):=hx;clear hx HBO hk0;go_wp2_with fail;refine(HSC.o _ _ _ hcw (HN.o.below hB) HI.o).mono ?_;rintro e w2⟨rfl,b2⟩;have H2:Hid (Below wr wr w2):=b2;clear b2;go_wp2_with fail;refine(HCC.o _).mono ?_;rintro e w3⟨rfl,b3⟩;have h3:=q0d H2.o Zl b3;have h4:Below wr wr (w3.alloc (.cells #[.int .i64 K.1,.int .i64 K.2] 54)):=k0f h3 _;have hF4:q7p (w3.alloc (.cells #[.int .i64 K.1,.int .i64 K.2] 54)) w1.heap.size:=HF.o.kept (h4.block _ HF.o.lt);have hlt3:w1.heap.size<w3.heap.size:=Nat.lt_of_lt_of_le HF.o.lt h3.size;have hX4:=HX.o.below h4;have hE4:=Bx.new w3 K.1 K.2 54;have HIb:Hid (Below wr wr (w3.alloc (.cells #[.int .i64 K.1,.int .i64 K.2] 54))):=h4;clear b3 h3 H2;obtain⟨y0,y1⟩:=hX4;obtain⟨e0,e1⟩:=hE4;have f0:(w3.alloc (.cells #[.int .i64 K.1,.int .i64 K.2] 54)).frozen? ⟨w1.heap.size,0,none⟩=false:=hF4.frozen;have f1:(w3.alloc (.cells #[.int .i64 K.1,.int .i64 K.2] 54)).frozen? ⟨w1.heap.size,1,none⟩=false:=hF4.frozen;have d4:(w3.alloc (.cells #[.int .i64 K.1,.int .i64 K.2] 54)).cell? ⟨b0,o0+k,none⟩=some (.slice a' u.length c'):=(h4.cell (p:=⟨b0,o0+k,none⟩) hb0r).trans cr;have HF4:Hid (q7p (w3.alloc (.cells #[.int .i64 K.1,.int .i64 K.2] 54)) w1.heap.size):=hF4;have hne3:w3.heap.size≠w1.heap.size:=Nat.ne_of_gt hlt3;clear h4 hF4 cr
     go_upto_region 12 with fail
     generalize w3.alloc (.cells #[.int .i64 K.1,.int .i64 K.2] 54)=w4 at *;go_wp2
     go_roundw
     case rel=>
      refine⟨((hB.trans (HIb.o.mono hB.size)).setCell (p:=⟨w1.heap.size,0,none⟩) (Nat.le_of_lt hlt1) _).setCell (p:=⟨w1.heap.size,1,none⟩) (Nat.le_of_lt hlt1) _,((hB1.trans (HIb.o.mono hB1.size)).setCell (p:=⟨w1.heap.size,0,none⟩) Zl _).setCell (p:=⟨w1.heap.size,1,none⟩) Zl _,HF4.o.set.set,k+1,by omega,by go_num,.inr ⟨u,a',c',?_,by rw[HSK.o.1],rfl,?_,?_⟩⟩
      ·rw[HFM.o,HK0.o];rfl
      ·exact HI1.o.below (((hB1.trans (HIb.o.mono hB1.size)).setCell (p:=⟨w1.heap.size,0,none⟩) Zl _).setCell (p:=⟨w1.heap.size,1,none⟩) Zl _)
      ·rw[HSK.o.2];exact⟨(cso (.inr (by omega))).trans (css y0),css ((cso (.inr (by omega))).trans y1)⟩
     case measure=>simp[intOf];omega
    ·have hk0:k≠0:=by rintro rfl;simp[fm]at hf0
     have hki:((k:Int)==0)=false:=by simp[hk0]
     have HF0:Hid (fm ((t.ways.take k).map fun u=>(t.cst wd u,u))=some (t.cst wd u0,u0)):=hf0;have HI0:Hid (q5o (w.heap.size+1) wr wa u0):=hI0;generalize hs0:shS (t.show u0)=s0;generalize hK0:t.cst wd u0=K0 at hx;have HSK0:Hid (shS (t.show u0)=s0/\t.cst wd u0=K0):=⟨hs0,hK0⟩;have HX:Hid (Bx wr w1.heap.size K0.1 K0.2):=hx;clear hx HBO hf0 hI0 hs0 hK0 hk0;cases hls:decide (q2t K K0)
     all_goals
      have HLS:=(show Hid (decide (q2t K K0)=_)from hls)
      have HLE:Hid (∀W,Calls prog 65 #[.agg #[↑(K.1:Int),↑(K.2:Int)],.agg #[↑(K0.1:Int),↑(K0.2:Int)]] W fun e w'=>e=.returned (.bool _)/\Below W W w'):=fun W=>by
       have:=j8h K K0 W
       rw[hls]at this;exact this
      clear hls;go_wp2_with fail;refine(HSC.o _ _ _ hcw (HN.o.below hB) HI.o).mono ?_;rintro e w2⟨rfl,b2⟩;have H2:Hid (Below wr wr w2):=b2;clear b2;go_wp2_with fail;refine(HCC.o _).mono ?_;rintro e w3⟨rfl,b3⟩;have h3:=q0d H2.o Zl b3;have h4:Below wr wr (w3.alloc (.cells #[.int .i64 K.1,.int .i64 K.2] 54)):=k0f h3 _;have hF4:q7p (w3.alloc (.cells #[.int .i64 K.1,.int .i64 K.2] 54)) w1.heap.size:=HF.o.kept (h4.block _ HF.o.lt);have hlt3:w1.heap.size<w3.heap.size:=Nat.lt_of_lt_of_le HF.o.lt h3.size;have hX4:=HX.o.below h4;have hE4:=Bx.new w3 K.1 K.2 54;have HIb:Hid (Below wr wr (w3.alloc (.cells #[.int .i64 K.1,.int .i64 K.2] 54))):=h4;clear b3 h3 H2;obtain⟨x0,x1⟩:=hX4;obtain⟨e0,e1⟩:=hE4;go_wp2_with fail;refine(HLE.o _).mono ?_;rintro e w5⟨rfl,b5⟩;have h5:=q0d HIb.o Zl b5;have hX5:=HX.o.below h5;have hE5:=(Bx.new w3 K.1 K.2 54).below b5;have hF5:q7p w5 w1.heap.size:=HF.o.kept (h5.block _ HF.o.lt);have d5:w5.cell? ↑(b0,o0+k)=some (.slice a' u.length c'):=(h5.cell (p:=↑(b0,o0+k)) hb0r).trans cr;obtain⟨y0,y1⟩:=hX5;obtain⟨g0,g1⟩:=hE5;have f0:w5.frozen? ↑w1.heap.size=false:=hF5.frozen;have f1:w5.frozen? ↑(w1.heap.size,1)=false:=hF5.frozen;have hne3:w3.heap.size≠w1.heap.size:=Nat.ne_of_gt hlt3;have H5:Hid (Below wr wr w5/\q7p w5 w1.heap.size):=⟨h5,hF5⟩;clear h4 hF4 cr x0 x1 e0 e1 b5 h5 hF5 HIb;go_wp2
      go_roundw
     ·case rel=>
       refine⟨hB.trans (H5.o.1.mono hB.size),hB1.trans (H5.o.1.mono hB1.size),H5.o.2,k+1,by omega,by go_num,.inr ⟨u0,wa,wc,?_,by rw[HSK0.o.1],rfl,HI0.o.below H5.o.1,by rw[HSK0.o.2];exact⟨y0,y1⟩⟩⟩;rw[HFM.o,HF0.o];show some (z9w _ _)=_;rw[z9w,if_neg (by rw[HSK.o.2,HSK0.o.2];exact of_decide_eq_false HLS.o)]
     ·case measure=>simp[intOf];omega
     ·case rel=>
       refine⟨((hB.trans (H5.o.1.mono hB.size)).setCell (p:=↑w1.heap.size) (Nat.le_of_lt hlt1) _).setCell (p:=↑(w1.heap.size,1)) (Nat.le_of_lt hlt1) _,((hB1.trans (H5.o.1.mono hB1.size)).setCell (p:=↑w1.heap.size) Zl _).setCell (p:=↑(w1.heap.size,1)) Zl _,H5.o.2.set.set,k+1,by omega,by go_num,.inr ⟨u,a',c',?_,by rw[HSK.o.1],rfl,?_,?_⟩⟩
       ·rw[HFM.o,HF0.o];show some (z9w _ _)=_;rw[z9w,if_pos (by rw[HSK.o.2,HSK0.o.2];exact of_decide_eq_true HLS.o)]
       ·exact HI1.o.below (((hB1.trans (H5.o.1.mono hB1.size)).setCell (p:=↑w1.heap.size) Zl _).setCell (p:=↑(w1.heap.size,1)) Zl _)
       ·rw[HSK.o.2];exact⟨(cso (.inr (by omega))).trans (css y0),css ((cso (.inr (by omega))).trans y1)⟩
     ·case measure=>simp[intOf];omega
   ·have hkn:k=t.ways.length:=by omega
    subst hkn;have hB1':Hid (Below w1 w1 wr):=hB1;have hr:=HR1.o.1.below hB1;have hFr:q7p wr w.heap.size:=HR1.o.2.kept (hB1.block _ hlt1);have r0:wr.drew.cell? ↑w.heap.size=some (.int .i64 0):=hr.1;have r1:wr.drew.cell? ↑(w.heap.size,1)=some (.int .i64 0):=hr.2;have f0:wr.drew.frozen? ↑w.heap.size=false:=hFr.frozen;have f1:wr.drew.frozen? ↑(w.heap.size,1)=false:=hFr.frozen;have r0':wr.cell? ↑w.heap.size=some (.int .i64 0):=hr.1;have r1':wr.cell? ↑(w.heap.size,1)=some (.int .i64 0):=hr.2;have f0':wr.frozen? ↑w.heap.size=false:=hFr.frozen;have f1':wr.frozen? ⟨w.heap.size,1,none⟩=false:=hFr.frozen;have hne:w.heap.size≠w1.heap.size:=Nat.ne_of_lt hlt1;clear hFr hB1 hF hr;rcases HBO.o with⟨hk0,_⟩|⟨u0,wa,wc,hf0,rfl,rfl,hI0,hx⟩
    ·exact absurd hk0 (Nat.ne_of_gt HNE.o)
    ·have HU:Hid (t.best wd=some (t.cst wd u0,u0)):=by rw[List.take_length]at hf0;exact hf0
     have HI0:Hid (q5o (w.heap.size+1) wr wa u0):=hI0;clear hf0 hI0 HBO;generalize hs:shS (t.show u0)=s;generalize hK:t.cst wd u0=K at hx;have HSK:Hid (shS (t.show u0)=s/\t.cst wd u0=K):=⟨hs,hK⟩;have x0:wr.drew.cell? ⟨w1.heap.size,0,none⟩=some (.int .i64 K.1):=hx.1;have x1:wr.drew.cell? ⟨w1.heap.size,1,none⟩=some (.int .i64 K.2):=hx.2;have p0:((wr.setCell ⟨w.heap.size,0,none⟩ (.int .i64 K.1)).setCell ⟨w.heap.size,1,none⟩ (.int .i64 K.2)).drew.cell? ⟨w1.heap.size,0,none⟩=some (.int .i64 K.1):=(cso (.inl hne)).trans ((cso (.inl hne)).trans hx.1);have p1:((wr.setCell ⟨w.heap.size,0,none⟩ (.int .i64 K.1)).setCell ⟨w.heap.size,1,none⟩ (.int .i64 K.2)).drew.cell? ⟨w1.heap.size,1,none⟩=some (.int .i64 K.2):=(cso (.inl hne)).trans ((cso (.inl hne)).trans hx.2);have HB9:Hid (Below w w ((wr.setCell ⟨w.heap.size,0,none⟩ (.int .i64 K.1)).setCell ⟨w.heap.size,1,none⟩ (.int .i64 K.2)).drew):=((hB.setCell (p:=⟨w.heap.size,0,none⟩) Zl _).setCell (p:=⟨w.heap.size,1,none⟩) Zl _).drew;have HI9:Hid (q5o w.heap.size ((wr.setCell ⟨w.heap.size,0,none⟩ (.int .i64 K.1)).setCell ⟨w.heap.size,1,none⟩ (.int .i64 K.2)).drew wa u0):=((HI0.o.far2 (Nat.lt_succ_self _)).drew).down (Nat.le_succ _);clear hs hK hx;go_wp2_with fail
     go_region_held3 (fun w'=>w'.cell? ⟨w1.heap.size,0,none⟩=some (.int .i64 K.1)/\w'.cell? ⟨w1.heap.size,1,none⟩=some (.int .i64 K.2))
      (first|with_reducible exact⟨x0,x1⟩|with_reducible exact⟨p0,p1⟩) (fail)
     all_goals
      go_wp2;refine bodyPost_ret (v:=.tuple #[.string s,.slice wa u0.length wc,.agg #[.int .i64 K.1,.int .i64 K.2],.bool true]) (by simp[results,Tryz.results27,go_sem,r0',r1']) rfl ?_;refine⟨.inl ⟨HL1.o,u0,wa,wc,HU.o,by rw[HSK.o.1,HSK.o.2],?_⟩,HB9.o⟩;exact HI9.o
 ·have HL1:Hid (300<t.ways.length):=hl1;obtain⟨r0,r1⟩:=hR1;have f0:w1.frozen? w.heap.size=false:=hF1.frozen;have f1:w1.frozen? (w.heap.size,1)=false:=hF1.frozen;clear hF1;go_wp2;exact bodyPost_ret (v:=.tuple #[.string ⟨#[]⟩,.slice none 0 0,.agg #[.int .i64 0,.int .i64 0],.bool false]) (by simp[results,Tryz.results27,go_sem,r0,r1]) rfl ⟨.inr ⟨HL1.o,rfl⟩,(B1.setCell (p:=w.heap.size) Zl _).setCell (p:=(w.heap.size,1)) Zl _⟩
end Go.Proofs.YthjapabokcajhaaGreatDoor
