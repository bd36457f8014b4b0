import Derived.Test.YtchdplceopegoaaGreatDoorPi22
import Derived.Test.YtchdplceopegoaaGreatDoorPi17
import Derived.Deep.RegionWith
open Go.Proofs.Tryz
open List (getElem_mem length length_append length_cons length_nil replicate)
open Nat (le_of_lt le_refl lt_of_lt_of_le ne_of_gt zero_le)
namespace Go.Proofs.YtchdplceopegoaaGreatDoor
open Go Go.RowKit
set_option maxRecDepth 100000
set_option maxHeartbeats 1000000
def q6h(B b:Nat)(d:Value)(v:Value)(s:ByteArray)(e:Int)(w:World):Prop:=
 B<=b/\b<w.heap.size/\w.cell? ⟨b,0,none⟩=some d/\w.cell? ⟨b,1,none⟩=some v/\w.cell? ⟨b,2,none⟩=some (.string s)/\w.cell? ⟨b,3,none⟩=some (.int .i64 e)
  /\w.frozen? ⟨b,1,none⟩=false/\w.frozen? ⟨b,2,none⟩=false/\w.frozen? ⟨b,3,none⟩=false
theorem q6h.W{B b:Nat}{d v:Value}{s:ByteArray}{e:Int}{w w':World}(h:q6h B b d v s e w)(hb:Below w w w'):q6h B b d v s e w':=by
 obtain⟨M,A,E,G,H,I,J,K,L⟩:=h;obtain⟨C,D⟩:=q0s hb
 have:=hb.size
 exact⟨M,by omega,(C _ _ A).trans E,(C _ _ A).trans G,(C _ _ A).trans H,(C _ _ A).trans I,(D _ _ A).trans J,(D _ _ A).trans K,(D _ _ A).trans L⟩
theorem q6h.alloc{B b:Nat}{d v:Value}{s:ByteArray}{e:Int}{w:World}(h:q6h B b d v s e w)(O:Obj):q6h B b d v s e (w.alloc O):=h.W (Zb.alloc Zl _)
theorem q6h.drew{B b:Nat}{d v:Value}{s:ByteArray}{e:Int}{w:World}(h:q6h B b d v s e w):q6h B b d v s e w.drew:=h
theorem z1j(w:World)(p:Addr)(v:Value):(w.setCell p v).heap.size=w.heap.size:=by simp[World.setCell]
theorem q6h.text{B b:Nat}{d v:Value}{s:ByteArray}{e:Int}{w:World}(h:q6h B b d v s e w)(s':ByteArray):q6h B b d v s' e (w.setCell (b,2) (.string s')):=by
 obtain⟨J,K,A,C,D,E,G,H,I⟩:=h;exact⟨J,by rw[z1j];exact K,(cso (by omega)).trans A,(cso (by omega)).trans C,css D,(cso (by omega)).trans E,csf.trans G,csf.trans H,csf.trans I⟩
theorem q6h.ways{B b:Nat}{d v:Value}{s:ByteArray}{e:Int}{w:World}(h:q6h B b d v s e w)(v':Value):q6h B b d v' s e (w.setCell (b,1) v'):=by
 obtain⟨J,K,A,C,D,E,G,H,I⟩:=h;exact⟨J,by rw[z1j];exact K,(cso (by omega)).trans A,css C,(cso (by omega)).trans D,(cso (by omega)).trans E,csf.trans G,csf.trans H,csf.trans I⟩
theorem q6h.fault{B b:Nat}{d v:Value}{s:ByteArray}{e:Int}{w:World}(h:q6h B b d v s e w)(e':Int):q6h B b d v s e' (w.setCell (b,3) e'):=by
 obtain⟨J,K,A,C,D,E,G,H,I⟩:=h;exact⟨J,by rw[z1j];exact K,(cso (by omega)).trans A,(cso (by omega)).trans C,(cso (by omega)).trans D,css E,csf.trans G,csf.trans H,csf.trans I⟩
theorem j1a(n:Nat)(hn:n<=4000)(w:World):Cw 132 #[n] w (.string ⟨(replicate n 32).toArray⟩):=by
 unfold Cw;go_in;go_wp2
 go_loopw [3,4] (fun s i wr=>wr=w/\∃(k:Nat)(t:ByteArray),k<=n/\i=k/\s=.string t/\t.data.toList=replicate k 32) (fun _ i _=>n-(intOf i).toNat)
 case atStart=>exact⟨rfl,0,⟨#[]⟩,zero_le _,rfl,rfl,rfl⟩
 case round=>
  obtain⟨rfl,k,t,E,rfl,rfl,A⟩:=hrel;have D:t.size<=4000:=by rw[<-q1a,A,List.length_replicate];omega
  have B:Hid (t.data.toList=replicate k 32):=A;clear A;by_cases C:k<n
  ·go_wp2
   go_roundw
   case rel=>
    refine⟨by trivial,k+1,_,by omega,by go_num,rfl,?_⟩;simp[B.o,List.replicate_succ']
   case measure=>simp[intOf];omega
  ·obtain rfl:k=n:=by omega
   have e:t=⟨(replicate k 32).toArray⟩:=q6l (by rw[B.o]);go_wp2;go_ret;exact⟨by rw[<-e];rfl,rfl⟩
theorem z4o{B b:Nat}{d:Value}{wa:Option Addr}{wc:Nat}{s:ByteArray}{w:World}(h:q6h B b d (.slice wa 0 wc) s 0 w):
  Calls prog 133 #[.pointer b] w fun e w'=>e=.returned (.int .i64 0)/\q6h B b d (.slice wa 0 wc) s 2 w'/\Below B w w':=by
 have A:Hid (q6h B b d (.slice wa 0 wc) s 0 w):=h;obtain⟨C,L,D,E,G,H,I,J,K⟩:=h;go_in;go_wp2;go_ret;exact⟨rfl,A.o.fault 2,Zb.setCell (p:=(b,3)) C _⟩
theorem q5h{B b:Nat}{d:Value}{wa:Option Addr}{wc:Nat}{s:ByteArray}{w:World}(c:Int)(ws:List Int)(h:q6h B b d (.slice wa (ws.length+1) wc) s 0 w)(hI:q2s B w wa (c::ws))(hc:ws.length+1<=wc):
  Calls prog 133 #[.pointer b] w fun e w'=>e=.returned c/\(∃wa' wc',q6h B b d (.slice wa' ws.length wc') s 0 w'/\q2s B w' wa' ws/\ws.length<=wc')/\Below B w w':=by
 have I:Hid (q6h B b d (.slice wa (ws.length+1) wc) s 0 w):=h;obtain⟨D,G,M,O,L⟩:=hI 0 (by simp);subst M;have J:Hid (q2s B w (if wc=1 then some ↑(D,G)else some ↑(D,G+1)) ws):=hI.slid hc;obtain⟨K,f,S,U,V,X,Y,Z,a⟩:=h;simp only[Nat.add_zero,List.getElem_cons_zero]at L;have Q:(1:Int)<=(ws.length:Int)+1:=by omega
 have P:((ws.length:Int)+1==0)=false:=beq_eq_false_iff_ne.2 (by omega);have N:D≠b:=by omega
 clear hI;by_cases H:wc=1
 ·have R:Hid (wc=1):=H;have A:=J.o;rw[if_pos H]at A;have C:Hid (q2s B w (some ↑(D,G)) ws):=A;clear A;go_in;go_wp2;go_ret;have E:∀v,Below B w (w.setCell (b,1) v):=fun v=> Zb.setCell (p:=(b,1)) K _
  exact⟨rfl,⟨_,_,I.o.ways _,C.o.W (E _),by omega⟩,E _⟩
 ·have A:=J.o;rw[if_neg H]at A;have C:Hid (q2s B w (some ↑(D,G+1)) ws):=A;clear A;go_in;go_wp2;go_ret;have E:∀v,Below B w (w.setCell (b,1) v):=fun v=> Zb.setCell (p:=(b,1)) K _
  exact⟨rfl,⟨_,_,I.o.ways _,C.o.W (E _),by omega⟩,E _⟩
def Laid(B b:Nat)(dv:Value)(res:Except Int (List UInt8 × List Int))(s0:ByteArray)(w':World):Prop:=
 match res with
 | .ok (u,ws')=>∃wa' wc' s',s'.data.toList=s0.data.toList++u/\q6h B b dv (.slice wa' ws'.length wc') s' 0 w'/\q2s B w' wa' ws'/\ws'.length<=wc'
 | .error e=>e≠0/\∃v' s',q6h B b dv v' s' e w'
def q9t(B b:Nat)(ds:List Nd)(a:Option Addr)(cap:Nat)(A:List Nd)(f:Nat->List Int->Except Int (List UInt8 × List Int)):Prop:=
 ∀(i:Nat)(r:List Nd)(deep:Nat)(ws:List Int)(wa:Option Addr)(wc:Nat)(s:ByteArray)(w:World),ds.drop i=A++r->z3n B w a ds->q2s B w wa ws->ws.length<=wc->q6h B b (.slice a ds.length cap) (.slice wa ws.length wc) s 0 w->
  deep+8*A.length<=3300->s.size+4000*A.length<=1000000000->
  Calls prog 94 #[.pointer (some ⟨b,0,none⟩),.int .i64 i,.int .i64 deep] w fun e w'=>e=.returned (.tuple #[])/\Laid B b (.slice a ds.length cap) (f deep ws) s w'/\Below B w w'
theorem q6h.bsize{B b:Nat}{d v:Value}{s:ByteArray}{e:Int}{w:World}(h:q6h B b d v s e w):B<=w.heap.size:=by
 obtain⟨A,C,_⟩:=h;omega
theorem q6h.grown{B b:Nat}{d v:Value}{s:ByteArray}{e:Int}{w w':World}(_h:q6h B b d v s e w)(hb:Below w w w'):Below B w w':=by
 have:=_h.bsize
 exact hb.mono this
theorem j7y{B b:Nat}(ds:List Nd)(a:Option Addr)(cap:Nat){v:Value}{s:ByteArray}{e:Int}(i:Nat)(A:Int)(w:World)(hi:i<ds.length)(hN:z3n B w a ds)(h:q6h B b (.slice a ds.length cap) v s e w)(he:e≠0):
  Calls prog 94 #[.pointer (some ⟨b,0,none⟩),.int .i64 i,.int .i64 A] w fun r w'=>r=.returned (.tuple #[])/\q6h B b (.slice a ds.length cap) v s e w'/\Below B w w':=by
 have C:Hid (q6h B b (.slice a ds.length cap) v s e w):=h;obtain⟨D,W,E,I,N,O,P⟩:=hN i hi;subst E;obtain⟨U,V,J,K,L,M,Q,R,S⟩:=h;have H:(e != 0)=true:=by simp[he]
 have G:D<w.heap.size:=by omega
 clear hN he;go_in;go_wp2;exact bodyPost_ret (v:=.tuple #[]) (by simp[results,Tryz.results94,go_sem]) rfl ⟨rfl,C.o.alloc _,Zb.alloc C.o.bsize _⟩
set_option maxHeartbeats 4000000
theorem g2a(B b:Nat)(ds:List Nd)(a:Option Addr)(cap:Nat)(tx:ByteArray)(n:Int):q9t B b ds a cap (⟨5,tx,n⟩::[]) (fun _ ws=>.ok ([],ws)):=by
 intro i r P ws J wc s w U E S I D A H;obtain⟨d,Q,R⟩:=q0u (x:=⟨5,tx,n⟩) (r:=[]++r) U;obtain⟨C,V,Z,e,L,M,N⟩:=E i d;subst Z;rw[Q]at L M N;dsimp only at L M N;simp only[length_cons,length_nil]at A H;have f:Hid (ds.drop (i+1)=[]++r):=R;have g:Hid (z3n B w (some ⟨C,V,none⟩) ds):=E;have X:Hid (q2s B w J ws):=S;have Y:Hid (q6h B b (.slice (some ⟨C,V,none⟩) ds.length cap) (.slice J ws.length wc) s 0 w):=D;have G:=D.bsize;obtain⟨q,t,h,j,k,l,m,o,p⟩:=D;have c:C<w.heap.size:=by omega
 have K:Hid (∀O:Obj,Below B w (w.alloc O)):=fun O=>(Below.refl _ w).alloc G O
 clear U Q R E S;go_in;go_wp2
 go_end0
 exact⟨rfl,⟨J,wc,s,by simp,Y.o.alloc _,X.o.W (K.o _),I⟩,K.o _⟩
theorem g1z(B b:Nat)(ds:List Nd)(a:Option Addr)(cap:Nat)(tx:ByteArray)(n:Int)(ht:tx.size<=20):q9t B b ds a cap (⟨1,tx,n⟩::[]) (fun _ ws=>.ok (tx.data.toList,ws)):=by
 intro i r P ws K wc s w U H S J G A I;obtain⟨e,Q,R⟩:=q0u (x:=⟨1,tx,n⟩) (r:=[]++r) U;obtain⟨E,V,Z,f,L,M,N⟩:=H i e;subst Z;rw[Q]at L M N;dsimp only at L M N;simp only[length_cons,length_nil]at A I;have h:Hid (ds.drop (i+1)=[]++r):=R;have j:Hid (z3n B w (some ⟨E,V,none⟩) ds):=H;have X:Hid (q2s B w K ws):=S;have Y:Hid (q6h B b (.slice (some ⟨E,V,none⟩) ds.length cap) (.slice K ws.length wc) s 0 w):=G;have D:=G.bsize;obtain⟨c,y,k,l,m,o,q,t,u⟩:=G;have d:E<w.heap.size:=by omega
 have g:Hid (∀O:Obj,Below B w (w.alloc O)):=fun O=>(Below.refl _ w).alloc D O
 clear U Q R H S;go_in;go_wp2_with fail
 go_region
 all_goals
  go_wp2
  go_end0
  have C:∀(O:Obj)(v:Value),Below B w ((w.setCell ⟨b,2,none⟩ v).alloc O).drew:=fun O v=>Below.drew (((Below.refl B w).setCell (p:=⟨b,2,none⟩) c _).alloc (by rw[z1j];exact D) O)
  exact⟨rfl,⟨K,wc,s++tx,by simp,q6h.drew ((Y.o.text _).alloc _),X.o.W (C _ _),J⟩,C _ _⟩
set_option maxHeartbeats 12000000
theorem k6d(oq:Int)(ho:oq=2\/oq=3\/oq=4)(B b:Nat)(ds:List Nd)(a:Option Addr)(cap:Nat)(tx:ByteArray)(n:Int):q9t B b ds a cap (⟨oq,tx,n⟩::[]) (fun deep ws=>.ok (10::replicate deep 32,ws)):=by
 have q:y6k oq:=.mk;rcases ho with rfl|rfl|rfl
 all_goals
  intro i r deep ws P wc s w Z K X N J C M;obtain⟨m,U,V⟩:=q0u (x:=⟨↑q,tx,n⟩) (r:=[]++r) Z;obtain⟨I,c,j,o,Q,R,S⟩:=K i m;subst j;rw[U]at Q R S;dsimp only at Q R S;simp only[length_cons,length_nil]at C M;have u:Hid (ds.drop (i+1)=[]++r):=V;have y:Hid (z3n B w (some ⟨I,c,none⟩) ds):=K;have f:Hid (q2s B w P ws):=X;have h:Hid (q6h B b (.slice (some ⟨I,c,none⟩) ds.length cap) (.slice P ws.length wc) s 0 w):=J;have E:=J.bsize;obtain⟨k,h1,z,c1,c2,c3,f1,f2,f3⟩:=J;have l:I<w.heap.size:=by omega
  have t:Hid (∀O:Obj,Below B w (w.alloc O)):=fun O=>(Below.refl _ w).alloc E O
  clear Z U V K X;have L:deep<=4000:=by omega
  have G:((⟨(replicate deep 32).toArray⟩:ByteArray)).size=deep:=by rw[<-q1a];simp
  generalize A:(⟨(replicate deep 32).toArray⟩:ByteArray)=bk at G;have H:Hid (bk.data.toList=replicate deep 32):=(show _=_ by rw[<-A]);have g:Hid (∀W:World,Cp 132 #[.int .i64 deep] W fun e d=>e=.returned (.string bk)/\W=d):=fun W=>by rw[<-A];exact j1a deep L W
  have Y:bk.size<=4000:=by omega
  clear A G;go_in;go_wp2_with fail
  go_region_with (go_at_call 132;refine(g.o _).mono ?_;rintro e d⟨rfl,rfl⟩)
  all_goals
   go_wp2
   go_end0
   have D:∀(O:Obj)(v:Value),Below B w ((w.setCell ⟨b,2,none⟩ v).alloc O).drew:=fun O v=>Below.drew (((Below.refl B w).setCell (p:=⟨b,2,none⟩) k _).alloc (by rw[z1j];exact E) O)
   refine⟨rfl,?_,D _ _⟩;refine⟨P,wc,_,?_,q6h.drew ((h.o.text _).alloc _),f.o.W (D _ _),N⟩;simp[H.o]
theorem g2b(B b:Nat)(ds:List Nd)(a:Option Addr)(cap:Nat)(hl:ds.length<=400)(tx:ByteArray)(n:Int)(A C:List Nd)(f g:Nat->List Int->Except Int (List UInt8 × List Int))(hA:q9t B b ds a cap A f)(hC:q9t B b ds a cap C g)(hE:∀i r,ds.drop i=A++r->q0v ds i 1=some (i+A.length))(Al:0<C.length)(z:∀deep ws u v,f deep ws=.ok (u,v)->deep+8*A.length<=3300->u.length<=4000*A.length):q9t B b ds a cap (⟨6,tx,n⟩::(A++C)) (q7a f g):=by
 intro i r deep ws wa wc s w hd hN hI V l M Ae;obtain⟨hi,e1,e2⟩:=q0u (x:=⟨6,tx,n⟩) (r:=(A++C)++r) hd;obtain⟨b0,o0,ea,An,d1,d2,d3⟩:=hN i hi;subst ea;rw[e1]at d1 d2 d3;dsimp only at d1 d2 d3;simp only[length_cons,length_append]at M Ae;have R:=hid e2;have Q:=hid hN;have HI:=hid hI;have HL:=hid l;have m:=l.bsize;obtain⟨h0,h1,c0,c1,c2,c3,f1,f2,f3⟩:=l;have Am:b0<w.heap.size:=by omega
 have P:Hid (∀O:Obj,Below B w (w.alloc O)):=fun O=>(Below.refl _ w).alloc m O
 have HA:=hid hA;have HC:=hid hC;have X:Hid (((i+1:Nat):Int)=(i:Int)+1):=(show _=_ by omega);rw[List.append_assoc]at R;have HE:=hid (hE (i+1) (C++r) R.o);have J:=hid (q7z R.o)
 have d:Hid (i+1+A.length<ds.length):=(show _<_ by
  have h1:=congrArg length J.o;simp at h1
  omega)
 cases y:f deep ws with
 | error e0=>
  have H:=hid y;go_in;go_wp2_with fail;rw[<-X.o];refine(HA.o (i+1) (C++r) deep ws wa wc s _ R.o (Q.o.W (P.o _)) (HI.o.W (P.o _)) V (HL.o.alloc _) (by omega) (by omega)).mono ?_;rintro e Y⟨rfl,D,K⟩;rw[H.o]at D;obtain⟨o,v',s',D⟩:=D;have I:=hid D;have E:=hid ((P.o _).trans K);have S:=hid o;obtain⟨_,k1,k0,_,_,_,_,_,_⟩:=D;go_wp2_with fail;rw[<-X.o];refine(q5c ds _ cap hl (ds.length+1) (i+1) Y ((Q.o.W E.o).nods I.o.bsize) (by omega) (by omega)).mono ?_;rintro e w3⟨rfl,rfl⟩;rw[HE.o];have hz:y0d (some (i+1+A.length))=((i+1+A.length:Nat):Int):=rfl;rw[hz];generalize hj:i+1+A.length=j at J d⊢;go_wp2_with fail;refine(j7y ds _ cap j deep Y d.o (Q.o.W E.o) I.o S.o).mono ?_;rintro e w4⟨rfl,G,L⟩;go_wp2
  go_end0
  refine⟨rfl,?_,E.o.trans L⟩;rw[q7a,H.o];exact⟨S.o,_,_,G⟩
 | ok p=>
  obtain⟨u,N⟩:=p;have H:=hid y;have Ao:=z deep ws u N y (by omega);go_in;go_wp2_with fail;rw[<-X.o];refine(HA.o (i+1) (C++r) deep ws wa wc s _ R.o (Q.o.W (P.o _)) (HI.o.W (P.o _)) V (HL.o.alloc _) (by omega) (by omega)).mono ?_;rintro e Y⟨rfl,D,K⟩;rw[H.o]at D;obtain⟨Ah,Aj,s1,U,D,Aa,Af⟩:=D;have Ad:s1.size=s.size+u.length:=by rw[<-q1a,<-q1a,U,length_append]
  have h:=hid Ad;have Z:=hid U;have I:=hid D;have c:=hid Aa;have E:=hid ((P.o _).trans K);obtain⟨_,k1,k0,_,_,_,_,_,_⟩:=D;go_wp2_with fail;rw[<-X.o];refine(q5c ds _ cap hl (ds.length+1) (i+1) Y ((Q.o.W E.o).nods I.o.bsize) (by omega) (by omega)).mono ?_;rintro e w3⟨rfl,rfl⟩;rw[HE.o];have hz:y0d (some (i+1+A.length))=((i+1+A.length:Nat):Int):=rfl;rw[hz];generalize hj:i+1+A.length=j at J d⊢;go_wp2_with fail;refine(HC.o j r deep N Ah Aj s1 _ J.o (Q.o.W E.o) c.o Af I.o (by omega) (by have:=h.o;omega)).mono ?_;rintro e w4⟨rfl,G,L⟩;go_wp2
  go_end0
  refine⟨rfl,?_,E.o.trans L⟩;rw[q7a,H.o];dsimp only;cases hg:g deep N with
  | error e1=>rw[hg]at G;exact G
  | ok q=>
   obtain⟨t,Ap⟩:=q;rw[hg]at G;obtain⟨Ai,Ak,s2,k,Ac,Ab,Ag⟩:=G;exact⟨Ai,Ak,s2,by rw[k,Z.o,List.append_assoc],Ac,Ab,Ag⟩
theorem g2c(B b:Nat)(ds:List Nd)(a:Option Addr)(cap:Nat)(hl:ds.length<=400)(tx:ByteArray)(n:Int)(q:0<=n)(t:n<=8)(A:List Nd)(f:Nat->List Int->Except Int (List UInt8 × List Int))(hA:q9t B b ds a cap A f):q9t B b ds a cap (⟨7,tx,n⟩::A) (fun deep ws=>f (deep+n.toNat) ws):=by
 intro i r deep ws P wc s w Y H X M G C L;obtain⟨o,U,V⟩:=q0u (x:=⟨7,tx,n⟩) (r:=A++r) Y;obtain⟨D,N,l,p,Q,R,S⟩:=H i o;subst l;rw[U]at Q R S;dsimp only at Q R S;simp only[length_cons]at C L;have c:Hid (ds.drop (i+1)=A++r):=V;have h:Hid (z3n B w (some ⟨D,N,none⟩) ds):=H;have d:Hid (q2s B w P ws):=X;have g:Hid (q6h B b (.slice (some ⟨D,N,none⟩) ds.length cap) (.slice P ws.length wc) s 0 w):=G;have J:=G.bsize;obtain⟨h0,h1,u,v,y,z,f1,f2,f3⟩:=G;have m:D<w.heap.size:=by omega
 have E:Hid (∀O:Obj,Below B w (w.alloc O)):=fun O=>(Below.refl _ w).alloc J O
 have Z:Hid (q9t B b ds (some ⟨D,N,none⟩) cap A f):=hA;have j:Hid (((i+1:Nat):Int)=(i:Int)+1):=(show _=_ by omega);have k:Hid (((deep+n.toNat:Nat):Int)=(deep:Int)+n):=(show _=_ by omega);clear Y U V H X hA;go_in;go_wp2_with fail;rw[<-j.o,<-k.o];refine(Z.o (i+1) r (deep+n.toNat) ws P wc s _ c.o (h.o.W (E.o _)) (d.o.W (E.o _)) M (g.o.alloc _) (by omega) (by omega)).mono ?_;rintro e w2⟨rfl,K,I⟩;go_wp2
 go_end0
 exact⟨rfl,K,(E.o _).trans I⟩
theorem g2d(B b:Nat)(ds:List Nd)(a:Option Addr)(cap:Nat)(hl:ds.length<=400)(tx:ByteArray)(n:Int)(A:List Nd)(f:Nat->List Int->Except Int (List UInt8 × List Int))(sA:ByteArray)(fl:Bool)(hA:q9t B b ds a cap A f)(hF:q2q ds a cap A sA fl)(Ad:sA.size<=8800):q9t B b ds a cap (⟨8,tx,n⟩::A) (q4u f sA fl):=by
 intro i r Z X wa wc s w hd hN hI I q U z;obtain⟨hi,e1,e2⟩:=q0u (x:=⟨8,tx,n⟩) (r:=A++r) hd;obtain⟨b0,o0,ea,Ac,d1,d2,d3⟩:=hN i hi;subst ea;rw[e1]at d1 d2 d3;dsimp only at d1 d2 d3;simp only[length_cons]at U z;have j:=hid e2;have l:=hid hN;have V:=hid hI;have K:=hid q;have t:=q.bsize;obtain⟨d,h1,c0,Y,c2,c3,f1,f2,f3⟩:=q;have Aa:b0<w.heap.size:=by omega
 have Q:Hid (∀O:Obj,Below B w (w.alloc O)):=fun O=>(Below.refl _ w).alloc t O
 have HA:=hid hA;have HF:=hid hF;have m:Hid (((i+1:Nat):Int)=(i:Int)+1):=(show _=_ by omega)
 match X,V,K,I,Y with
 | [],V,K,I,Y=>
  simp only[length_nil]at K Y;go_in;go_wp2_with fail;refine(z4o (K.o.alloc _)).mono ?_;rintro e w2⟨rfl,D,H⟩;have C:=hid D;obtain⟨_,_,_,_,_,o,_,_,_⟩:=D;go_wp2;refine bodyPost_ret (results_none rfl _ _ _) rfl ?_;exact⟨rfl,⟨by decide,_,_,C.o⟩,(Q.o _).trans H⟩
 | c::X,V,K,I,Y=>
  simp only[length_cons]at K Y I;by_cases u:c=1
  ·subst u;go_in;go_wp2_with fail;refine(q5h 1 X (K.o.alloc _) (V.o.W (Q.o _)) I).mono ?_;rintro e w2⟨rfl,⟨N,P,D,L,M⟩,H⟩;have C:=hid D;have S:=hid L;have E:=hid ((Q.o _).trans H);obtain⟨_,_,_,_,_,o,_,_,_⟩:=D;go_wp2_with fail;rw[<-m.o];refine(HA.o (i+1) r Z X N P s _ j.o (l.o.W E.o) S.o M C.o (by omega) (by omega)).mono ?_;rintro e g⟨rfl,y,G⟩;go_wp2;refine bodyPost_ret (results_none rfl _ _ _) rfl ?_;refine⟨rfl,?_,E.o.trans G⟩;rw[q4u,if_pos rfl];exact y
  ·have Ab:(c==1)=false:=by simp[u]
   have HC:=hid u;cases fl with
   | true=>
    go_in;go_wp2_with fail;refine(q5h c X (K.o.alloc _) (V.o.W (Q.o _)) I).mono ?_;rintro e w2⟨rfl,⟨N,P,D,L,M⟩,H⟩;have C:=hid D;have S:=hid L;have E:=hid ((Q.o _).trans H);obtain⟨_,k1,k0,_,_,k3,_,_,_⟩:=D;go_wp2_with fail;rw[<-m.o];refine(HF.o (i+1) r _ j.o ((l.o.W E.o).nods C.o.bsize)).mono ?_;rintro e g⟨rfl,G⟩;have J:=hid (C.o.W G);have R:=hid (E.o.trans (C.o.grown G));have k:=hid (S.o.W (C.o.grown G));obtain⟨_,m1,m0,_,m2,m3,_,g2,o⟩:=J.o;go_wp2
    go_end0
    have h:∀v,Below B w (g.setCell ⟨b,2,none⟩ v):=fun v=>R.o.setCell (p:=⟨b,2,none⟩) d _
    refine⟨rfl,?_,h _⟩;rw[q4u,if_neg HC.o,if_pos rfl];exact⟨N,P,s++sA,by simp,J.o.text _,k.o.W ((Below.refl B g).setCell (p:=⟨b,2,none⟩) d _),M⟩
   | false=>
    go_in;go_wp2_with fail;refine(q5h c X (K.o.alloc _) (V.o.W (Q.o _)) I).mono ?_;rintro e w2⟨rfl,⟨N,P,D,L,M⟩,H⟩;have C:=hid D;have E:=hid ((Q.o _).trans H);obtain⟨_,k1,k0,_,_,k3,_,_,_⟩:=D;go_wp2_with fail;rw[<-m.o];refine(HF.o (i+1) r _ j.o ((l.o.W E.o).nods C.o.bsize)).mono ?_;rintro e g⟨rfl,G⟩;have J:=hid (C.o.W G);have R:=hid (E.o.trans (C.o.grown G));obtain⟨_,m1,m0,_,m2,m3,_,g2,o⟩:=J.o;go_wp2
    go_end0
    refine⟨rfl,?_,(R.o.setCell (p:=⟨b,3,none⟩) d _).setCell (p:=⟨b,2,none⟩) d _⟩;rw[q4u,if_neg HC.o,if_neg (by decide)];exact⟨by decide,_,_,(J.o.fault 4).text _⟩
theorem g2e(B b:Nat)(ds:List Nd)(a:Option Addr)(cap:Nat)(hl:ds.length<=400)(tx:ByteArray)(n:Int)(A C:List Nd)(f g:Nat->List Int->Except Int (List UInt8 × List Int))(hA:q9t B b ds a cap A f)(hC:q9t B b ds a cap C g)(hE:∀i r,ds.drop i=A++r->q0v ds i 1=some (i+A.length))(Aa:0<C.length):q9t B b ds a cap (⟨9,tx,n⟩::(A++C)) (q4i f g):=by
 intro i r K U wa wc s w hd hN hI H k N u;obtain⟨hi,e1,e2⟩:=q0u (x:=⟨9,tx,n⟩) (r:=(A++C)++r) hd;obtain⟨b0,o0,ea,Ad,z,d2,d3⟩:=hN i hi;subst ea;rw[e1]at z d2 d3;dsimp only at z d2 d3;simp only[length_cons,length_append]at N u;have Z:=hid e2;have h:=hid hN;have X:=hid hI;have J:=hid k;have o:=k.bsize;obtain⟨h0,h1,c0,Y,c2,c3,f1,f2,f3⟩:=k;have Ab:b0<w.heap.size:=by omega
 have V:Hid (∀O:Obj,Below B w (w.alloc O)):=fun O=>(Below.refl _ w).alloc o O
 have HA:=hid hA;have HC:=hid hC;have y:Hid (((i+1:Nat):Int)=(i:Int)+1):=(show _=_ by omega);rw[List.append_assoc]at Z;have HE:=hid (hE (i+1) (C++r) Z.o);have L:=hid (q7z Z.o)
 have HJ:Hid (i+1+A.length<ds.length):=(show _<_ by
  have h1:=congrArg length L.o;simp at h1
  omega)
 match U,X,J,H,Y with
 | [],X,J,H,Y=>
  simp only[length_nil]at J Y;go_in;go_wp2_with fail;refine(z4o (J.o.alloc _)).mono ?_;rintro e v⟨rfl,D,I⟩;have G:=hid D;obtain⟨_,_,_,_,_,g3,_,_,_⟩:=D;go_wp2;refine bodyPost_ret (results_none rfl _ _ _) rfl ?_;exact⟨rfl,⟨by decide,_,_,G.o⟩,(V.o _).trans I⟩
 | c::U,X,J,H,Y=>
  simp only[length_cons]at J Y H;by_cases p:c=0
  ·subst p;go_in;go_wp2_with fail;refine(q5h 0 U (J.o.alloc _) (X.o.W (V.o _)) H).mono ?_;rintro e v⟨rfl,⟨R,S,D,P,Q⟩,I⟩;have G:=hid D;have M:=hid P;have E:=hid ((V.o _).trans I);obtain⟨_,_,_,_,_,g3,_,_,_⟩:=D;go_wp2_with fail;rw[<-y.o];refine(HA.o (i+1) (C++r) K U R S s _ Z.o (h.o.W E.o) M.o Q G.o (by omega) (by omega)).mono ?_;rintro e w3⟨rfl,q,l⟩;go_wp2
   go_end0
   refine⟨rfl,?_,E.o.trans l⟩;rw[q4i,if_pos rfl];exact q
  ·have Ac:(c==0)=false:=by simp[p]
   have d:=hid p;go_in;go_wp2_with fail;refine(q5h c U (J.o.alloc _) (X.o.W (V.o _)) H).mono ?_;rintro e v⟨rfl,⟨R,S,D,P,Q⟩,I⟩;have G:=hid D;have M:=hid P;have E:=hid ((V.o _).trans I);obtain⟨_,k1,k0,_,_,g3,_,_,_⟩:=D;go_wp2_with fail;rw[<-y.o];refine(q5c ds _ cap hl (ds.length+1) (i+1) v ((h.o.W E.o).nods G.o.bsize) (by omega) (by omega)).mono ?_;rintro e w3⟨rfl,rfl⟩;rw[HE.o];have hz:y0d (some (i+1+A.length))=((i+1+A.length:Nat):Int):=rfl;rw[hz];generalize hj:i+1+A.length=j at L HJ⊢;go_wp2_with fail;refine(HC.o j r K U R S s _ L.o (h.o.W E.o) M.o Q G.o (by omega) (by omega)).mono ?_;rintro e w4⟨rfl,t,m⟩;go_wp2
   go_end0
   refine⟨rfl,?_,E.o.trans m⟩;rw[q4i,if_neg d.o];exact t
theorem q9y(B b:Nat)(ds:List Nd)(a:Option Addr)(cap:Nat)(hl:ds.length<=400):∀t:Tr,t.Wf->t.N.length<=400->q9t B b ds a cap t.N t.lay
 | .leaf ⟨op,tx,n⟩,h,hn=>by
  obtain⟨_,_,_,_,h5,_⟩:=q2d h.1;rcases q4a h.1 h.2 with e|e|e|e|e
  all_goals (simp only at e;subst e)
  ·exact g1z B b ds a cap tx n (q4c (h5 rfl)).2
  ·exact k6d 2 (.inl rfl) B b ds a cap tx n
  ·exact k6d 3 (.inr (.inl rfl)) B b ds a cap tx n
  ·exact k6d 4 (.inr (.inr rfl)) B b ds a cap tx n
  ·exact g2a B b ds a cap tx n
 | .one ⟨op,tx,n⟩ a',h,hn=>by
  obtain⟨_,_,_,_,_,h6⟩:=q2d h.1;have hn':a'.N.length<=400:=by simp[Tr.N]at hn;omega
  rcases q8h h.2.1 with e|e
  all_goals (simp only at e;subst e)
  ·exact g2c B b ds a cap hl tx n (h6 rfl).1 (h6 rfl).2 _ _ (q9y B b ds a cap hl a' h.2.2 hn')
  ·rw[k2n (x:=⟨8,tx,n⟩) rfl];exact g2d B b ds a cap hl tx n _ _ _ _ (q9y B b ds a cap hl a' h.2.2 hn') (q3y ds a cap hl a' h.2.2 hn') (by have:=q8b a' h.2.2;rw[q8f];omega)
 | .two ⟨op,tx,n⟩ a' c,h,hn=>by
  have A:a'.N.length<=400:=by simp[Tr.N]at hn;omega
  have C:c.N.length<=400:=by simp[Tr.N]at hn;omega
  rcases q7t h.2.1 with e|e
  all_goals (simp only at e;subst e)
  ·rw[j8b (x:=⟨6,tx,n⟩) rfl];exact g2b B b ds a cap hl tx n _ _ _ _ (q9y B b ds a cap hl a' h.2.2.1 A) (q9y B b ds a cap hl c h.2.2.2 C) (fun i r hd=>q5a h.2.2.1 hd) c.pos (fun deep ws u v he hd=>q6c a' deep ws u v h.2.2.1 he hd)
  ·rw[z7i (x:=⟨9,tx,n⟩) rfl];exact g2e B b ds a cap hl tx n _ _ _ _ (q9y B b ds a cap hl a' h.2.2.1 A) (q9y B b ds a cap hl c h.2.2.2 C) (fun i r hd=>q5a h.2.2.1 hd) c.pos
theorem j2z(t:Tr)(ht:t.Wf)(ds:List Nd)(hd:ds=t.N)(hl:ds.length<=400)(a wa:Option Addr)(cap wc:Nat)(ws:List Int)(hw:ws.length<=wc)(Ac:ws.length<=9223372036854775807)(w:World)(hN:q2b w a ds)(hI:q9s w wa ws):
  Cb 67 #[.slice a ds.length cap,.slice wa ws.length wc] w (.tuple #[.string (shS (t.show ws)),.int .i64 (shE (t.show ws))]):=by
 unfold Cb;have HN:Hid (q2b w a ds):=hN;have n:Hid (q9s w wa ws):=hI;have X:Hid (ds=t.N):=hd;clear hN hI hd;go_in;go_wp2
 go_loopw [6] (fun i wr=>wr=w/\∃k:Nat,k<=ws.length/\i=.int .i64 k/\∀j(h:j<ws.length),j<k->ws[j]=0\/ws[j]=1) (fun i _=>ws.length-(intOf i).toNat)
 case atStart=>exact⟨rfl,0,zero_le _,rfl,fun j _ g=>by omega⟩
 case round=>
  obtain⟨rfl,k,hk,rfl,J⟩:=hrel;have m:Hid (∀j(h:j<ws.length),j<k->ws[j]=0\/ws[j]=1):=J;clear J;by_cases S:k<ws.length
  ·obtain⟨b0,o0,ea,Aa,o⟩:=n.o k S;subst ea;by_cases B:ws[k]=0\/ws[k]=1
   ·have Z:Hid (∀j(h:j<ws.length),j<k+1->ws[j]=0\/ws[j]=1):=fun j h g=>by
     by_cases l:j=k
     ·subst l;exact B
     ·exact m.o j h (by omega)
    rcases B with B|B
    all_goals
     rw[B]at o;clear B;go_wp2
     go_roundw
     case rel=>exact⟨by trivial,k+1,by omega,by go_num,Z.o⟩
     case measure=>simp[intOf];omega
   ·have H:ws[k]≠0:=fun h=>B (.inl h)
    have I:ws[k]≠1:=fun h=>B (.inr h)
    have Y:Hid (t.show ws=.error 1):=j3a S H I;generalize ws[k]=c at o H I;have y:(c != 0)=true:=by simp[H]
    have g1:(c != 1)=true:=by simp[I]
    clear H I B;go_wp2;go_ret2;exact⟨by rw[Y.o];rfl,Below.refl _ _⟩
  ·have U:q3n ws:=fun c hc=>by
    obtain⟨j,g,rfl⟩:=List.getElem_of_mem hc;exact m.o j g (by omega)
   have Y:Hid (t.show ws=match t.lay 0 ws with| .error e=>.error e| .ok (s,[])=>.ok s| .ok (_,_::_)=>.error 2):=j0a U;clear U;have Q:z3n wr.heap.size wr a ds:=HN.o
   have d:Hid (q6h wr.heap.size wr.heap.size (.slice a ds.length cap) (.slice wa ws.length wc) ⟨#[]⟩ 0 (wr.alloc (.cells #[.slice a ds.length cap,.slice wa ws.length wc,.string ⟨#[]⟩,.int .i64 0] 188))):=
    ⟨le_refl _,by simp,by simp[go_sem],by simp[go_sem],by simp[go_sem],by simp[go_sem],by simp[go_sem],by simp[go_sem],by simp[go_sem]⟩
   have P:Hid (∀O:Obj,Below wr wr (wr.alloc O)):=fun O=> Zb.alloc Zl O
   have b:Hid (∀W:World,q6h wr.heap.size wr.heap.size (.slice a ds.length cap) (.slice wa ws.length wc) ⟨#[]⟩ 0 W->Below wr wr W->
     Calls prog 94 #[.pointer (some ⟨wr,0,none⟩),.int .i64 0,.int .i64 0] W fun e w'=>e=.returned (.tuple #[])/\Laid wr.heap.size wr.heap.size (.slice a ds.length cap) (t.lay 0 ws) ⟨#[]⟩ w'/\Below wr W w'):=fun W h1 h2=>
    q9y wr.heap.size wr.heap.size ds a cap hl t ht (by rw[<-X.o];exact hl) 0 [] 0 ws wa wc ⟨#[]⟩ W (by rw[X.o];simp) (Q.W h2) (q2s.W n.o h2) hw h1 (by rw[<-X.o];omega) (by rw[<-X.o];show 0+4000*ds.length<=1000000000;omega)
   clear Q;go_wp2_with fail;refine(b.o _ d.o (P.o _)).mono ?_;rintro e w2⟨rfl,G,R⟩;have K:Hid (Below wr wr w2):=(P.o _).trans R;clear R;cases A:t.lay 0 ws with
   | error e0=>
    rw[A]at G;have E:=Y.o;rw[A]at E;have D:Hid (t.show ws=.error e0):=E;obtain⟨M,v',s',C⟩:=G;obtain⟨_,k1,k0,k4,k2,k3,q,v,x⟩:=C;have y:(e0==0)=false:=by simp[M]
    have g1:(e0 != 0)=true:=by simp[M]
    clear M A E;go_wp2_with fail
    go_quiet (fail)
    go_wp2;go_ret2;exact⟨by rw[D.o];rfl,K.o.trans ⟨rfl,rfl,rfl,le_refl _,fun _ _=>rfl⟩⟩
   | ok p=>
    obtain⟨u,r⟩:=p;rw[A]at G;have E:=Y.o;rw[A]at E;obtain⟨Ad,Ae,s2,L,C,_,Ab⟩:=G;cases r with
    | nil=>
     have D:Hid (t.show ws=.ok u):=E;have V:s2=⟨u.toArray⟩:=q6l (by rw[L];simp);have f:Hid (s2=⟨u.toArray⟩):=V;simp only[length_nil]at C;obtain⟨_,k1,k0,k4,k2,k3,q,v,x⟩:=C;clear A E L V;go_wp2;go_ret2;exact⟨by rw[D.o];exact congrArg (fun z=>Ending.returned (.tuple #[.string z,.int .i64 0])) f.o,K.o⟩
    | cons c r=>
     have D:Hid (t.show ws=.error 2):=E;simp only[length_cons]at C;obtain⟨h0,k1,k0,k4,k2,k3,q,v,x⟩:=C;have y:(0:Int)<(r.length:Int)+1:=by omega
     clear A E L;go_wp2_with fail
     go_quiet (fail)
     go_wp2;go_ret2;exact⟨by rw[D.o];rfl,(K.o.setCell (p:=⟨wr,3,none⟩) Zl _).trans ⟨rfl,rfl,rfl,le_refl _,fun _ _=>rfl⟩⟩
def q6a(G:Nat)(w:World)(a:Option Addr)(ws:List Int):Prop:=
 ∀i(h:i<ws.length),∃b o,a=some ⟨b,o,none⟩/\b<w.heap.size/\G<=b/\w.cell? ⟨b,o+i,none⟩=some (.int .i64 ws[i])
theorem q6a.ints{G:Nat}{w:World}{a:Option Addr}{ws:List Int}(h:q6a G w a ws):q9s w a ws:=by
 intro i B;obtain⟨b,o,e,A,_,c⟩:=h i B;exact⟨b,o,e,A,c⟩
theorem q6a.W{G:Nat}{w w':World}{a:Option Addr}{ws:List Int}(h:q6a G w a ws)(hb:Below w w w'):q6a G w' a ws:=by
 intro i C;obtain⟨b,o,e,A,B,c⟩:=h i C;exact⟨b,o,e,lt_of_lt_of_le A hb.size,B,(hb.cell (p:=(b,o+i)) A).trans c⟩
theorem q6a.far2{G g:Nat}{w:World}{a:Option Addr}{ws:List Int}{v v':Value}(h:q6a G w a ws)(hg:g<G):q6a G ((w.setCell g v).setCell (g,1) v') a ws:=by
 intro i D;obtain⟨b,o,e,B,C,c⟩:=h i D;have E:=(((Below.refl 0 w).setCell (p:=g) (zero_le _) v).setCell (p:=(g,1)) (zero_le _) v').size;have A:g≠b:=by omega
 exact⟨b,o,e,lt_of_lt_of_le B E,C,(cso (.inl A)).trans ((cso (.inl A)).trans c)⟩
theorem q6a.drew{G:Nat}{w:World}{a:Option Addr}{ws:List Int}(h:q6a G w a ws):q6a G w.drew a ws:=h
theorem q6a.down{G G':Nat}{w:World}{a:Option Addr}{ws:List Int}(h:q6a G w a ws)(hg:G'<=G):q6a G' w a ws:=by
 intro i C;obtain⟨b,o,e,A,B,c⟩:=h i C;exact⟨b,o,e,A,Nat.le_trans hg B,c⟩
def j4m(G:Nat)(w:World)(a:Option Addr)(ls:List (List Int)):Prop:=
 ∀i(h:i<ls.length),∃b o a' c',a=some ⟨b,o,none⟩/\b<w.heap.size/\w.cell? ⟨b,o+i,none⟩=some (.slice a' ls[i].length c')/\ls[i].length<=c'/\q6a G w a' ls[i]
theorem j3r{G:Nat}{w:World}{a:Option Addr}{ls:List (List Int)}(h:∀g,(∀k,g=some k->k<G)->q5f g w a ls):j4m G w a ls:=by
 intro i J;obtain⟨b,o,K,L,e,P,_,c,Q,R,_⟩:=h none (fun _ q=>by cases q) i J;refine⟨b,o,K,L,e,P,c,Q,fun j hj=>?_⟩;obtain⟨H,U,I,O,_,M⟩:=R j hj;refine⟨H,U,I,O,?_,M⟩;apply Nat.le_of_not_lt;intro E;obtain⟨W,Y,V,N,B,_,_,A,_,D,_⟩:=h (some H) (fun k q=>by cases q;exact E) i J;rw[e]at B;simp only[Option.some.injEq,Addr.mk.injEq,and_true]at B;obtain⟨rfl,rfl⟩:=B;rw[c]at A;simp only[Option.some.injEq,Value.slice.injEq,true_and]at A;obtain⟨X,Z,C,_,S,_⟩:=D j hj;rw[<-A.1,I]at C;simp only[Option.some.injEq,Addr.mk.injEq,and_true]at C;exact S (by rw[C.1])
def BOk(g:Nat)(t:Tr)(wd k b:Nat)(tx wy:Value)(w:World):Prop:=
 (k=0/\tx=.string ⟨#[]⟩/\wy=.slice none 0 0/\Bx w b 0 0)\/(∃u wa wc,fm ((t.ways.take k).map fun u=>(t.cst wd u,u))=some (t.cst wd u,u)/\tx=.string (shS (t.show u))/\wy=.slice wa u.length wc/\q6a (g+1) w wa u/\Bx w b (t.cst wd u).1 (t.cst wd u).2)
theorem j4s(t:Tr)(ht:t.Wf)(ds:List Nd)(hd:ds=t.N)(hl:ds.length<=400)(a:Option Addr)(cap:Nat)(w:World)(hN:q2b w a ds):
  Calls prog 66 #[.slice a ds.length cap] w fun e w'=>((t.ways.length<=300/\∃a' c',e=.returned (.tuple #[.slice a' t.ways.length c',.bool true])/\j4m w.heap.size w' a' t.ways)\/(300<t.ways.length/\e=.returned (.tuple #[.slice none 0 0,.bool false])))/\Below w w w':=by
 have I:∀O:Obj,Below w w (w.alloc O):=fun O=>(Below.refl _ w).alloc Zl O
 have G:Hid (Cp 93 #[.slice a ds.length cap,.int .i64 0,.slice w.heap.size 1 1,.int .i64 300] (w.alloc (.cells #[.slice none 0 0] 63)) fun e w'=>∃a' c',e=.returned (.slice a' (t.tl [[]]).length c')/\j4m w.heap.size w' a' (t.tl [[]])/\Below w w w'):=by
  have M:∀H,(∀k,H=some k->k<w.heap.size)->q5f H (w.alloc (.cells #[.slice none 0 0] 63)) w.heap.size [[]]:=by
   intro H J i X;obtain rfl:i=0:=by simp at X;omega
   exact⟨w.heap.size,0,none,0,rfl,by simp,fun q=>by have:=J _ q.symm;omega,by simp[go_sem],by simp,fun j hj=>by simp at hj,fun _=>⟨rfl,rfl⟩⟩
  refine(z1o ds a cap hl t ht (by rw[<-hd];exact hl) 0 [] [[]] w.heap.size 1 0 _ (by rw[<-hd];simp) (hN.W (I _)) (M none (fun _ h=>by cases h)) (by simp) (by simp) (by simp) (by rw[<-hd];omega)).mono ?_;rintro e w'⟨a',c',rfl,_,B,C⟩;exact⟨a',c',rfl,j3r fun g hg=>B g (fun k q=>by have:=hg k q;simp;omega) (M g hg),(I _).trans (C.mono (by simp))⟩
 have A:=y9s t;generalize V:t.tl [[]]=L at G A;clear V hd hN I;rcases A with⟨D,K⟩|⟨D,K⟩
 ·subst K;have S:¬(300:Int)<(t.ways.length:Int):=by omega
  have E:=hid D;go_in;go_wp2_with fail;refine G.o.mono ?_;rintro e Y⟨Q,R,rfl,B,C⟩;have P:=hid B;clear B;go_wp2;go_ret2;exact⟨.inl ⟨E.o,_,_,rfl,P.o⟩,C⟩
 ·have U:(300:Int)<(L.length:Int):=by omega
  have E:=hid D;clear D;go_in;go_wp2_with fail;refine G.o.mono ?_;rintro e Y⟨Q,R,rfl,B,C⟩;clear B;go_wp2;go_ret2;exact⟨.inr ⟨E.o,rfl⟩,C⟩
def BOR(t:Tr)(wd:Nat)(w:World)(e:Ending)(w':World):Prop:=
 ((t.ways.length<=300/\∃u wa wc,t.best wd=some (t.cst wd u,u)/\e=.returned (.tuple #[.string (shS (t.show u)),.slice wa u.length wc,.agg #[.int .i64 (t.cst wd u).1,.int .i64 (t.cst wd u).2],.bool true])/\q6a w.heap.size w' wa u)\/(300<t.ways.length/\e=.returned (.tuple #[.string ⟨#[]⟩,.slice none 0 0,.agg #[.int .i64 0,.int .i64 0],.bool false])))/\Below w w w'
theorem v8z{t:Tr}(ht:t.Wf){ds:List Nd}(hd:ds=t.N)(hl:ds.length<=400)(wd:Nat){u:List Int}(hu:u∈t.ways):
  shE (t.show u)=0/\u.length<=400/\∀W:World,Cb 68 #[.string (shS (t.show u)),wd] W (.agg #[(t.cst wd u).1,(t.cst wd u).2]):=by
 unfold Cb;obtain⟨s,A⟩:=(z5p t u).2 hu;have D:q7j ds u=.ok s:=by rw[z2w ht hd hl,A]
 obtain⟨G,C⟩:=v1q D;have E:t.txt u=s:=by rw[Tr.txt,A]
 refine⟨by rw[A];rfl,C,fun W=>?_⟩;have B:(shS (t.show u)).data.toList=s:=by rw[A];simp[shS]
 have:=v1k (shS (t.show u)) wd W (by rw[Lib.size_eq,B];omega)
 rw[B,y3b]at this;rw[Tr.cst,E];exact this
theorem j0x(t:Tr)(ht:t.Wf)(ds:List Nd)(hd:ds=t.N)(hl:ds.length<=400)(wd:Nat)(a:Option Addr)(cap:Nat)(w:World)(hN:q2b w a ds):
  Calls prog 38 #[.slice a ds.length cap,wd] w fun e w'=>BOR t wd w e w':=by
 have HN:Hid (q2b w a ds):=hN;have HO:Hid (∀(W:World),q2b W a ds->Cp 66 #[.slice a ds.length cap] W _):=fun W h1=>j4s t ht ds hd hl a cap W h1
 have HV:Hid (∀k(h:k<t.ways.length),(∀(W:World)I M,t.ways[k].length<=M->q2b W a ds->q9s W I t.ways[k]->Cb 67 #[.slice a ds.length cap,.slice I t.ways[k].length M] W (.tuple #[.string (shS (t.show t.ways[k])),.int .i64 0]))
   /\∀W:World,Calls prog 68 #[.string (shS (t.show t.ways[k])),wd] W fun e w'=>e=.returned (.agg #[(t.cst wd t.ways[k]).1,(t.cst wd t.ways[k]).2])/\Below W W w'):=fun k h=>by
  obtain⟨h1,h2,Y⟩:=v8z ht hd hl wd (getElem_mem h);refine⟨fun W I M k1 k2 k3=>?_,Y⟩
  have:=j2z t ht ds hd hl a I cap M t.ways[k] k1 (by omega) W k2 k3
  rw[h1]at this;exact this
 have A1:Hid (0<t.ways.length):=by
  obtain⟨b,hb⟩:=k1r t wd;exact List.length_pos_of_mem (q6k hb).1
 clear hN ht hd hl;go_in;have m:=Bx.new w 0 0 94;have hf:q7w (w.alloc (.cells #[.int .i64 0,.int .i64 0] 94)) w.heap.size:=⟨_,_,heap_alloc_new w _⟩;go_wp2_with fail;refine(HO.o _ (HN.o.W (k1q Zb _))).mono ?_;rintro e A⟨h1,b1⟩;have B1:Below w w A:=q7x Zb Zl b1;have Ac:=m.W b1;have O:q7w A w.heap.size:=hf.kept (b1.block _ (by simp));have C:w.heap.size<A.heap.size:=O.lt;clear m hf b1;rcases h1 with⟨Ag,a1,c1,rfl,Au⟩|⟨Ag,rfl⟩
 ·have n:j4m (w.heap.size+1) A a1 t.ways:=by simpa using Au
  have A2:Hid (j4m (w.heap.size+1) A a1 t.ways):=n;have Am:Hid (Bx A w.heap.size 0 0/\q7w A w.heap.size):=⟨Ac,O⟩;have x:Hid (t.ways.length<=300):=Ag;clear Au n Ac O;have Av:=Bx.new A 0 0 94;have Ar:q7w (A.alloc (.cells #[.int .i64 0,.int .i64 0] 94)) A.heap.size:=⟨_,_,heap_alloc_new A _⟩;go_wp2
  go_loopw [10,11,13] (fun tx wy i wr=>Below w w wr/\Below A A wr/\q7w wr A.heap.size/\∃k:Nat,k<=t.ways.length/\i=k/\BOk w.heap.size t wd k A.heap.size tx wy wr) (fun _ _ i _=>t.ways.length-(intOf i).toNat)
  case atStart=>exact⟨k1q B1 _,(Below.refl _ A).alloc Zl _,Ar,0,zero_le _,rfl,.inl ⟨rfl,rfl,rfl,Av⟩⟩
  case round=>
   clear Av Ar;obtain⟨Z,B,hF,k,hk,rfl,Aq⟩:=hrel;have R:Hid (BOk w.heap.size t wd k A.heap.size _ _ wr):=Aq;clear Aq;by_cases Ai:k<t.ways.length
   ·obtain⟨hS,hC⟩:=HV.o k Ai;obtain⟨z,o0,y,M,ea,Ap,cw,Ae,Ab⟩:=A2.o k Ai;subst ea;have cr:wr.cell? ↑(z,o0+k)=some (.slice y t.ways[k].length M):=(B.cell (p:=↑(z,o0+k)) Ap).trans cw;have HI:Hid (q9s wr y t.ways[k]):=Ab.ints.W B;have r:Hid (q6a (w.heap.size+1) A y t.ways[k]):=Ab;have Af:=y3p (f:=fun u=>(t.cst wd u,u)) Ai;clear cw Ab;generalize t.ways[k]=u at cr hS hC HI r Af Ae;generalize hs:shS (t.show u)=s at hS hC;have o:Hid (fm ((t.ways.take (k+1)).map fun u=>(t.cst wd u,u))=q6m (fm ((t.ways.take k).map fun u=>(t.cst wd u,u))) (some (t.cst wd u,u))):=Af;clear Af;generalize hK:t.cst wd u=K at hC;have D:Hid (shS (t.show u)=s/\t.cst wd u=K):=⟨hs,hK⟩;have An:Hid (∀(W:World)I M,u.length<=M->q2b W a ds->q9s W I u->Cb 67 #[.slice a ds.length cap,.slice I u.length M] W (.tuple #[.string s,.int .i64 0])):=hS;have Aj:Hid (∀W:World,Cb 68 #[.string s,wd] W (.agg #[K.1,K.2])):=hC;have hi:(k:Int)<(t.ways.length:Int):=by omega
    have j:Hid (q7w wr A.heap.size):=hF;have l:z<wr.heap.size:=lt_of_lt_of_le Ap B.size;clear hs hK hS hC hF;rcases R.o with⟨G,rfl,rfl,Q⟩|⟨u0,I,wc,H,rfl,rfl,U,Q⟩
    ·have Az:Hid (k=0):=G;have A5:((k:Int)==0)=true:=by simp[G]
     have HX:Hid (Bx wr A.heap.size 0 0):=Q;clear Q R G;go_wp2_with fail;refine(An.o _ _ _ Ae (HN.o.W Z) HI.o).mono ?_;rintro e w2⟨rfl,b2⟩;have H2:Hid (Below wr wr w2):=b2;clear b2;go_wp2_with fail;refine(Aj.o _).mono ?_;rintro e E⟨rfl,b3⟩;have Y:=q0e H2.o Zl b3;have X:Below wr wr (E.alloc (.cells #[K.1,K.2] 94)):=k1q Y _;have P:q7w (E.alloc (.cells #[K.1,K.2] 94)) A.heap.size:=j.o.kept (X.block _ j.o.lt);have V:A.heap.size<E.heap.size:=lt_of_lt_of_le j.o.lt Y.size;have Ad:=HX.o.W X;have Aa:=Bx.new E K.1 K.2 94;have L:Hid (Below wr wr (E.alloc (.cells #[K.1,K.2] 94))):=X;clear b3 Y H2;obtain⟨y0,y1⟩:=Ad;obtain⟨e0,e1⟩:=Aa;have f0:(E.alloc (.cells #[K.1,K.2] 94)).frozen? A.heap.size=false:=P.frozen;have f1:(E.alloc (.cells #[K.1,K.2] 94)).frozen? (A.heap.size,1)=false:=P.frozen;have d4:(E.alloc (.cells #[K.1,K.2] 94)).cell? (z,o0+k)=some (.slice y u.length M):=(X.cell (p:=(z,o0+k)) l).trans cr;have Ax:Hid (q7w (E.alloc (.cells #[K.1,K.2] 94)) A.heap.size):=P;have As:E.heap.size≠A.heap.size:=ne_of_gt V;clear X P cr
     go_upto_region 12 with fail
     generalize E.alloc (.cells #[K.1,K.2] 94)=w4 at *;go_wp2
     go_roundw
     case rel=>
      refine⟨((Z.trans (L.o.mono Z.size)).setCell (p:=A.heap.size) (le_of_lt C) _).setCell (p:=(A.heap.size,1)) (le_of_lt C) _,((B.trans (L.o.mono B.size)).setCell (p:=A.heap.size) Zl _).setCell (p:=(A.heap.size,1)) Zl _,Ax.o.set.set,k+1,by omega,by go_num,.inr ⟨u,y,M,?_,by rw[D.o.1],rfl,?_,?_⟩⟩
      ·rw[o.o,Az.o];rfl
      ·exact r.o.W (((B.trans (L.o.mono B.size)).setCell (p:=A.heap.size) Zl _).setCell (p:=(A.heap.size,1)) Zl _)
      ·rw[D.o.2];exact⟨(cso (.inr (by omega))).trans (css y0),css ((cso (.inr (by omega))).trans y1)⟩
     case measure=>simp[intOf];omega
    ·have G:k≠0:=by rintro rfl;simp[fm]at H
     have A5:((k:Int)==0)=false:=by simp[G]
     have Ak:Hid (fm ((t.ways.take k).map fun u=>(t.cst wd u,u))=some (t.cst wd u0,u0)):=H;have q:Hid (q6a (w.heap.size+1) wr I u0):=U;generalize At:shS (t.show u0)=s0;generalize Ao:t.cst wd u0=K0 at Q;have J:Hid (shS (t.show u0)=s0/\t.cst wd u0=K0):=⟨At,Ao⟩;have HX:Hid (Bx wr A.heap.size K0.1 K0.2):=Q;clear Q R H U At Ao G;cases Ah:decide (q2x K K0)
     all_goals
      have Al:=(show Hid (decide (q2x K K0)=_)from Ah)
      have A0:Hid (∀W,Cb 69 #[.agg #[↑(K.1:Int),↑(K.2:Int)],.agg #[↑(K0.1:Int),↑(K0.2:Int)]] W (.bool _)):=fun W=>by
       have:=v1o K K0 W
       rw[Ah]at this;exact this
      clear Ah;go_wp2_with fail;refine(An.o _ _ _ Ae (HN.o.W Z) HI.o).mono ?_;rintro e w2⟨rfl,b2⟩;have H2:Hid (Below wr wr w2):=b2;clear b2;go_wp2_with fail;refine(Aj.o _).mono ?_;rintro e E⟨rfl,b3⟩;have Y:=q0e H2.o Zl b3;have X:Below wr wr (E.alloc (.cells #[K.1,K.2] 94)):=k1q Y _;have P:q7w (E.alloc (.cells #[K.1,K.2] 94)) A.heap.size:=j.o.kept (X.block _ j.o.lt);have V:A.heap.size<E.heap.size:=lt_of_lt_of_le j.o.lt Y.size;have Ad:=HX.o.W X;have Aa:=Bx.new E K.1 K.2 94;have L:Hid (Below wr wr (E.alloc (.cells #[K.1,K.2] 94))):=X;clear b3 Y H2;obtain⟨x0,x1⟩:=Ad;obtain⟨e0,e1⟩:=Aa;go_wp2_with fail;refine(A0.o _).mono ?_;rintro e w5⟨rfl,b5⟩;have h5:=q0e L.o Zl b5;have A4:=HX.o.W h5;have A3:=(Bx.new E K.1 K.2 94).W b5;have c:q7w w5 A.heap.size:=j.o.kept (h5.block _ j.o.lt);have d5:w5.cell? ↑(z,o0+k)=some (.slice y u.length M):=(h5.cell (p:=↑(z,o0+k)) l).trans cr;obtain⟨y0,y1⟩:=A4;obtain⟨g0,g1⟩:=A3;have f0:w5.frozen? ↑A.heap.size=false:=c.frozen;have f1:w5.frozen? ↑(A.heap.size,1)=false:=c.frozen;have As:E.heap.size≠A.heap.size:=ne_of_gt V;have g:Hid (Below wr wr w5/\q7w w5 A.heap.size):=⟨h5,c⟩;clear X P cr x0 x1 e0 e1 b5 h5 c L;go_wp2
      go_roundw
     ·case rel=>
       refine⟨Z.trans (g.o.1.mono Z.size),B.trans (g.o.1.mono B.size),g.o.2,k+1,by omega,by go_num,.inr ⟨u0,I,wc,?_,by rw[J.o.1],rfl,q.o.W g.o.1,by rw[J.o.2];exact⟨y0,y1⟩⟩⟩;rw[o.o,Ak.o];show some (k1k _ _)=_;rw[k1k,if_neg (by rw[D.o.2,J.o.2];exact of_decide_eq_false Al.o)]
     ·case measure=>simp[intOf];omega
     ·case rel=>
       refine⟨((Z.trans (g.o.1.mono Z.size)).setCell (p:=↑A.heap.size) (le_of_lt C) _).setCell (p:=↑(A.heap.size,1)) (le_of_lt C) _,((B.trans (g.o.1.mono B.size)).setCell (p:=↑A.heap.size) Zl _).setCell (p:=↑(A.heap.size,1)) Zl _,g.o.2.set.set,k+1,by omega,by go_num,.inr ⟨u,y,M,?_,by rw[D.o.1],rfl,?_,?_⟩⟩
       ·rw[o.o,Ak.o];show some (k1k _ _)=_;rw[k1k,if_pos (by rw[D.o.2,J.o.2];exact of_decide_eq_true Al.o)]
       ·exact r.o.W (((B.trans (g.o.1.mono B.size)).setCell (p:=↑A.heap.size) Zl _).setCell (p:=↑(A.heap.size,1)) Zl _)
       ·rw[D.o.2];exact⟨(cso (.inr (by omega))).trans (css y0),css ((cso (.inr (by omega))).trans y1)⟩
     ·case measure=>simp[intOf];omega
   ·have A6:k=t.ways.length:=by omega
    subst A6;have A9:Hid (Below A A wr):=B;have m:=Am.o.1.W B;have S:q7w wr w.heap.size:=Am.o.2.kept (B.block _ C);have r0:wr.drew.cell? ↑w.heap.size=some (.int .i64 0):=m.1;have r1:wr.drew.cell? ↑(w.heap.size,1)=some (.int .i64 0):=m.2;have f0:wr.drew.frozen? ↑w.heap.size=false:=S.frozen;have f1:wr.drew.frozen? ↑(w.heap.size,1)=false:=S.frozen;have A7:wr.cell? ↑w.heap.size=some (.int .i64 0):=m.1;have A8:wr.cell? ↑(w.heap.size,1)=some (.int .i64 0):=m.2;have Ba:wr.frozen? ↑w.heap.size=false:=S.frozen;have Bb:wr.frozen? (w.heap.size,1)=false:=S.frozen;have d:w.heap.size≠A.heap.size:=Nat.ne_of_lt C;clear S B hF m;rcases R.o with⟨G,_⟩|⟨u0,I,wc,H,rfl,rfl,U,Q⟩
    ·exact absurd G (ne_of_gt A1.o)
    ·have HU:Hid (t.best wd=some (t.cst wd u0,u0)):=by rw[List.take_length]at H;exact H
     have q:Hid (q6a (w.heap.size+1) wr I u0):=U;clear H U R;generalize hs:shS (t.show u0)=s;generalize hK:t.cst wd u0=K at Q;have D:Hid (shS (t.show u0)=s/\t.cst wd u0=K):=⟨hs,hK⟩;have x0:wr.drew.cell? A.heap.size=some ↑K.1:=Q.1;have x1:wr.drew.cell? (A.heap.size,1)=some ↑K.2:=Q.2;have p0:((wr.setCell w.heap.size K.1).setCell (w.heap.size,1) K.2).drew.cell? A.heap.size=some ↑K.1:=(cso (.inl d)).trans ((cso (.inl d)).trans Q.1);have p1:((wr.setCell w.heap.size K.1).setCell (w.heap.size,1) K.2).drew.cell? (A.heap.size,1)=some ↑K.2:=(cso (.inl d)).trans ((cso (.inl d)).trans Q.2);have Aw:Hid (Below w w ((wr.setCell ⟨w,0,none⟩ (.int .i64 K.1)).setCell ⟨w,1,none⟩ (.int .i64 K.2)).drew):=((Z.setCell (p:=⟨w,0,none⟩) Zl _).setCell (p:=⟨w,1,none⟩) Zl _).drew;have Ay:Hid (q6a w.heap.size ((wr.setCell w.heap.size K.1).setCell (w.heap.size,1) K.2).drew I u0):=((q.o.far2 (Nat.lt_succ_self _)).drew).down (Nat.le_succ _);clear hs hK Q;go_wp2_with fail
     go_region_held3 (fun w'=>w'.cell? A.heap.size=some ↑K.1/\w'.cell? (A.heap.size,1)=some ↑K.2)
      (first|with_reducible exact⟨x0,x1⟩|with_reducible exact⟨p0,p1⟩) (fail)
     all_goals
      go_wp2;refine bodyPost_ret (v:=.tuple #[.string s,.slice I u0.length wc,.agg #[K.1,K.2],.bool true]) (by simp[results,Tryz.results38,go_sem,A7,A8]) rfl ?_;refine⟨.inl ⟨x.o,u0,I,wc,HU.o,by rw[D.o.1,D.o.2],?_⟩,Aw.o⟩;exact Ay.o
 ·have x:Hid (300<t.ways.length):=Ag;obtain⟨r0,r1⟩:=Ac;have f0:A.frozen? w.heap.size=false:=O.frozen;have f1:A.frozen? (w.heap.size,1)=false:=O.frozen;clear O;go_wp2;exact bodyPost_ret (v:=.tuple #[.string ⟨#[]⟩,.slice none 0 0,.agg #[.int .i64 0,.int .i64 0],.bool false]) (by simp[results,Tryz.results38,go_sem,r0,r1]) rfl ⟨.inr ⟨x.o,rfl⟩,(B1.setCell (p:=w.heap.size) Zl _).setCell (p:=(w.heap.size,1)) Zl _⟩
theorem k3y(wd:Int)(w:World):Cw 6 #[wd] w (.bool (decide (¬(wd<10\/100<wd)))):=by
 unfold Cw;by_cases B:wd<10
 ·rw[show decide (¬(wd<10\/100<wd))=false by simp;omega];have A:¬10<=wd:=by omega
  go_in;go_wp2;go_ret;exact⟨rfl,rfl⟩
 ·have A:10<=wd:=by omega
  by_cases C:wd<=100
  ·rw[show decide (¬(wd<10\/100<wd))=true by simp;omega];go_in;go_wp2;go_ret;exact⟨rfl,rfl⟩
  ·rw[show decide (¬(wd<10\/100<wd))=false by simp;omega];go_in;go_wp2;go_ret;exact⟨rfl,rfl⟩
def fwW(t:List Td):Prop:=opT t=9\/(q0w t).ways.length<=300
inductive j4j (t:List Td) (wd:Nat):Ending->Prop where
 | ok (h:pgE t=0) (hf:fwW t):j4j t wd (.returned (.tuple #[.string (wbS (q7c wd t)),.int .i64 0,.bool true]))
 | full (h:pgE t≠0):j4j t wd (.returned (.tuple #[.string ⟨#[]⟩,.int .i64 (pgE t),.bool true]))
 | many (s:ByteArray) (hm:¬fwW t):j4j t wd (.returned (.tuple #[.string s,.int .i64 0,.bool false]))
theorem y4w(A:List UInt8)(l:ByteArray):wbS A++(⟨#[35,32]⟩:ByteArray)++l++(⟨#[10]⟩:ByteArray)=wbS (A++ntF l):=by
 have B:wbS A++wbS [35,32]=wbS (A++[35,32]):=q0l _ _;have C:wbS (A++[35,32])++wbS (btL l)=wbS (A++[35,32]++btL l):=q0l _ _;have D:wbS (A++[35,32]++btL l)++wbS [10]=wbS (A++[35,32]++btL l++[10]):=q0l _ _;have E:A++ntF l=A++[35,32]++btL l++[10]:=by simp[ntF]
 rw[E,<-D,<-C,<-B,z1x];rfl
theorem v5y{ls:List ByteArray}{i:Nat}(h:i<ls.length):(ls.take (i+1)).flatMap ntF=(ls.take i).flatMap ntF++ntF ls[i]:=by
 rw[List.take_succ_eq_append_getElem h,List.flatMap_append];simp
theorem j2m{t:List Td}(h:q0b t=0)(h9:opT t=9)(wd:Nat)(Af:10<=wd)(Ag:wd<=100)(a:Option Addr)(cap:Nat)(w:World)(hN:Tds w a t):
  Cb 19 #[.slice a t.length cap,↑(wd:Int)] w (.tuple #[.string (wbS (q7c wd t)),.int .i64 0,.bool true]):=by
 unfold Cb;obtain⟨Aa,b,o,rfl,hb,c1,c2⟩:=z5k h hN;have Ad:(0:Int)<(t.length:Int):=by omega
 have O:=k6r h h9;have j:=z9y O;rw[z5i h h9];rw[h9]at c1;have Ae:(txT t).size<=2000:=by rw[<-q0c];exact(z9z O).2.1
 have G:=hid (q4d (txT t) w (by omega));have D:Hid (ntL wd (txT t)=if q0d (btL (txT t))=[]then [35,10]else(q1v (wd-2) ((q0d (btL (txT t))).map wbS)).flatMap ntF):=rfl;generalize ntL wd (txT t)=L at D⊢
 have C:Hid (∀(A:Option Addr)(c:Nat)(W:World),q2i w (.slice A (q0d (btL (txT t))).length c) ((q0d (btL (txT t))).map wbS) W->Cp 36 #[.slice A (q0d (btL (txT t))).length c,↑((wd:Int)-2)] W fun e w'=>(∃L c,e=.returned (.slice L (q1v (wd-2) ((q0d (btL (txT t))).map wbS)).length c)/\Wds w' L (q1v (wd-2) ((q0d (btL (txT t))).map wbS)))/\Below W W w'):=fun A c W hS=>by
  obtain⟨q1,q2,_⟩:=z5s hS;have e:((wd:Int)-2)=((wd-2:Nat):Int):=by omega
  rw[e];have h3:=j1q ((q0d (btL (txT t))).map wbS) A c (wd-2) W (by omega) j (by omega) (q3t hS);rw[List.length_map]at h3;refine h3.mono ?_;rintro e w'⟨⟨L,c,rfl,hL⟩,hb⟩;exact⟨⟨L,c,rfl,q3t hL⟩,hb⟩
 have Q:q0d (btL (txT t))=[]->(q1v (wd-2) ((q0d (btL (txT t))).map wbS))=[]:=fun e=>by rw[e];exact q4h _
 have R:q0d (btL (txT t))≠[]->(q1v (wd-2) ((q0d (btL (txT t))).map wbS))≠[]:=fun e=>by
  rw[q3x _ (by simpa using e)];simp
 have P:=z9i (wd-2) _ _ Zl j;have N:=q8a (wd-2) _ ((q0d (btL (txT t))).map wbS) Zl;have p:=j.1;generalize q1v (wd-2) ((q0d (btL (txT t))).map wbS)=ls at D C Q R P N;have u:ls.length<=60:=by omega
 have I:Hid (ls=[]->L=[35,10]):=fun e=>by
  have:q0d (btL (txT t))=[]:=by
   rcases Classical.em (q0d (btL (txT t))=[])with h|h
   ·exact h
   ·exact absurd e (R h)
  rw[D.o,if_pos this]
 have J:Hid (ls≠[]->L=ls.flatMap ntF):=fun e=>by
  have:q0d (btL (txT t))≠[]:=fun h=>e (Q h)
  rw[D.o,if_neg this]
 generalize(q0d (btL (txT t))).length=nw at G C
 generalize(q0d (btL (txT t))).map wbS=ws at G C p j N
 generalize txT t=tx at *;have g:=hid P;clear h h9 hN O j Q R P N D;go_in;go_wp2_with fail;refine G.o.mono ?_;rintro e w1⟨⟨A1,k1,rfl,k⟩,z⟩;have Z:=hid (C.o A1 k1 w1 k);have V:=hid z;clear k z G C c1 c2;go_wp2_with fail;refine Z.o.mono ?_;rintro e w2⟨⟨A2,k2,rfl,m⟩,b2⟩;have Y:=hid (q0e V.o Zl b2);have q:=hid m;clear m b2 Z V;generalize hn:ls.length=n at u⊢;have K:=hid hn;clear hn;go_wp2_with fail
 go_loopw [8,9] (fun s x wr=>w2=wr/\∃i:Nat,i<=n/\x=(i:Int)/\s=.string (wbS ((ls.take i).flatMap ntF))) (fun _ x _=>n-(intOf x).toNat)
 case atStart=>exact⟨rfl,0,zero_le _,rfl,rfl⟩
 case round=>
  obtain⟨rfl,i,hi,rfl,rfl⟩:=hrel;have H:=K.o;by_cases v:i<n
  ·have r:(i:Int)<(n:Int):=by omega
   obtain⟨b0,o0,rfl,Ab,d0⟩:=q.o i (by omega);have y:ls[i].size<=1260:=g.o _ (getElem_mem _)
   have h1:=k5v (f:=ntF) (b:=1300) (ls.take i) fun l hl=>by
    have:=g.o l (List.mem_of_mem_take hl)
    simp only[ntF,length_cons,length_append,length_nil,q0c];omega
   have h2:(ls.take i).length*1300<=60*1300:=Nat.mul_le_mul_right _ (by rw[List.length_take];omega);have d:=(show Hid (_=_)from v5y (ls:=ls) (i:=i) (by omega));have U:Hid (∀l:ByteArray,wbS ((ls.take i).flatMap ntF)++(⟨#[35,32]⟩:ByteArray)++l++(⟨#[10]⟩:ByteArray)=wbS ((ls.take i).flatMap ntF++ntF l)):=fun l=>y4w _ l
   have hq:(wbS ((ls.take i).flatMap ntF)).size<=100000:=by rw[z3l];omega
   generalize ls[i]=l at d0 y d;generalize wbS ((ls.take i).flatMap ntF)=S at U hq⊢;have g1:¬9223372036854775807<S.size+2:=by omega
   have g2:¬9223372036854775807<S.size+2+l.size:=by omega
   have g3:¬9223372036854775807<S.size+2+l.size+1:=by omega
   clear h1 h2 H;go_wp2;refine⟨⟨trivial,i+1,v,by go_num,?_⟩,?_⟩
   ·rw[d.o,<-U.o l]
   ·simp[intOf];omega
  ·have r:¬(i:Int)<(n:Int):=by omega
   have M:ls.take i=ls:=List.take_of_length_le (by omega);rw[M];by_cases h0:n=0
   ·have B:ls=[]:=List.eq_nil_of_length_eq_zero (by omega);have E:=(show Hid (_=_)from I.o B);subst h0;clear H M I J K B;generalize ls.flatMap ntF=X;go_wp2;go_ret3;exact⟨by rw[E.o];rfl,Y.o⟩
   ·have B:ls≠[]:=fun e=>h0 (by rw[<-H,e];rfl)
    have E:Hid (wbS L=wbS (ls.flatMap ntF)):=(show _=_ by rw[J.o B]);have Ac:((n:Int)==0)=false:=by simp;omega
    clear H M I J K B;generalize wbS (ls.flatMap ntF)=X at E⊢;go_wp2;go_ret3;exact⟨by rw[E.o];rfl,Y.o⟩
theorem y7o{t:List Td}{wd:Nat}{u:List Int}(h:(q0w t).best wd=some ((q0w t).cst wd u,u))(hl:q9m t=0):∃s,shS ((q0w t).show u)=wbS s/\dcL wd t=s++[10]/\s.length<=2000000:=by
 have B:(q0w t).best wd=some (bs wd 0 [(0,q0w t)]):=by rw[z0m,q3q]
 obtain⟨_,A,_⟩:=q6k B;rw[B]at h
 have e:(bs wd 0 [(0,q0w t)]).2=u:=by
  have:=congrArg Prod.snd (Option.some.inj h)
  exact this
 rw[e]at A;refine⟨(q0w t).txt u,?_,?_,j7z hl A⟩
 ·rw[A];rfl
 ·rw[dcL,e]
theorem v0o{t:List Td}(h:q0b t=0)(h9:opT t≠9)(wd:Nat)(a:Option Addr)(cap:Nat)(w:World)(hN:Tds w a t):
  Calls prog 19 #[.slice a t.length cap,(wd:Int)] w fun e w'=>j4j t wd e/\Below w w w':=by
 obtain⟨v,b,o,rfl,hb,g,m⟩:=z5k h hN;have Aa:(0:Int)<(t.length:Int):=by omega
 have L:(opT t==9)=false:=by simp[h9]
 have H:Hid (Cp 37 #[.slice (some ↑(b,o)) t.length cap,.int .i64 0] w fun e w'=>NdR w (q0w t).N e w'):=y9l h h9 w hN;have U:=(z6x h h9).n;by_cases Q:400<(q0w t).N.length
 ·have j:pgE t=3:=by rw[pgE,if_neg h9,if_pos Q]
  have X:Hid (j4j t wd (.returned (.tuple #[.string ⟨#[]⟩,.int .i64 3,.bool true]))):=by
   have:=j4j.full (t:=t) (wd:=wd) (by rw[j];decide)
   rw[j]at this;exact this
  generalize(q0w t).N=xs at H Q U
  generalize opT t=op0 at g L;have R:(400:Int)<(xs.length:Int):=by omega
  clear h h9 hN m j;go_in;go_wp2_with fail;refine H.o.mono ?_;rintro e y⟨l,x,rfl,_,Y⟩;go_wp2;go_ret3;exact⟨X.o,Y⟩
 ·have i:pgE t=0:=by rw[pgE,if_neg h9,if_neg Q]
  have P:q9m t=0:=by rw[<-k6z h h9];exact i
  have D:Hid (∀(A:Option Addr)(c:Nat)(W:World),q2b W A (q0w t).N->Cp 38 #[.slice A (q0w t).N.length c,(wd:Int)] W fun e w'=>BOR (q0w t) wd W e w'):=fun A c W d=>j0x (q0w t) (z6x h h9).w (q0w t).N rfl (by omega) wd A c W d
  have I:Hid (∀u,(q0w t).best wd=some ((q0w t).cst wd u,u)->∃s,shS ((q0w t).show u)=wbS s/\dcL wd t=s++[10]/\s.length<=2000000):=fun u hu=>y7o hu P
  have X:Hid (∀s,(q0w t).ways.length<=300->dcL wd t=s++[10]->j4j t wd (.returned (.tuple #[.string (wbS s++(⟨#[10]⟩:ByteArray)),.int .i64 0,.bool true]))):=fun s hfw hs=>by
   have d:=j4j.ok (t:=t) (wd:=wd) i (.inr hfw);rw[k0c h h9,hs,<-q0l]at d;exact d
  have f:Hid (∀s,300<(q0w t).ways.length->j4j t wd (.returned (.tuple #[.string s,.int .i64 0,.bool false]))):=fun s hfw=>.many s fun q=>q.elim h9 fun q=>by omega
  generalize(q0w t).N=xs at H Q U D
  generalize opT t=op0 at g L;have R:¬(400:Int)<(xs.length:Int):=by omega
  clear h h9 hN m i P;go_in;go_wp2_with fail;refine H.o.mono ?_;rintro e y⟨l,x,rfl,M,Y⟩;have E:=hid Y;have G:=hid (D.o l x y M.nods);clear M Y D H g;generalize xs.length=nx at G Q R⊢;go_wp2_with fail;refine G.o.mono ?_;rintro e z⟨⟨B,u,wa,wc,O,rfl,_⟩|⟨B,rfl⟩,Z⟩
  ·obtain⟨s,p,r,V⟩:=I.o u O;rw[p];have J:=hid (X.o s B r);have C:=hid (q0e E.o Zl Z);have k:(wbS s).size<=2000000:=by rw[z3l];exact V
   clear p r V Z O I X B;generalize wbS s=S at J k
   generalize((q0w t).cst wd u).1=q1
   generalize((q0w t).cst wd u).2=q2
   generalize u.length=ul;have g1:¬9223372036854775807<S.size+1:=by omega
   go_wp2;go_ret3;exact⟨J.o,q0e C.o Zl (q1w z _)⟩
  ·have C:=hid (q0e E.o Zl Z);have K:=hid (fun s=>f.o s B);clear Z B;go_wp2;go_ret3;exact⟨K.o _,q0e C.o Zl (q1w z _)⟩
theorem j2t{t:List Td}(h:q0b t=0)(wd:Nat)(B:10<=wd)(C:wd<=100)(a:Option Addr)(cap:Nat)(w:World)(hN:Tds w a t):
  Calls prog 19 #[.slice a t.length cap,(wd:Int)] w fun e w'=>j4j t wd e/\Below w w w':=by
 by_cases A:opT t=9
 ·refine(j2m h A wd B C a cap w hN).mono ?_;rintro e w'⟨rfl,D⟩;exact⟨.ok (k0g A) (.inl A),D⟩
 ·exact v0o h A wd a cap w hN
inductive j4i (ps:List (List Td)) (wd:Nat):Ending->Prop where
 | ok (h:fmE ps=0) (hf:∀t∈ps,fwW t):j4i ps wd (.returned (.tuple #[.string (wbS (q9j wd ps)),.int .i64 0,.bool true]))
 | full (h:fmE ps≠0):j4i ps wd (.returned (.tuple #[.string ⟨#[]⟩,.int .i64 (fmE ps),.bool true]))
 | many (hm:¬∀t∈ps,fwW t):j4i ps wd (.returned (.tuple #[.string ⟨#[]⟩,.int .i64 0,.bool false]))
theorem k3t{t:List Td}(h:pgE t≠0):pgE t=3:=by
 unfold pgE at h⊢
 split
 ·rename_i h9;rw[if_pos h9]at h;exact absurd rfl h
 ·rename_i h9;rw[if_neg h9]at h
  split
  ·rfl
  ·rename_i hm;rw[if_neg hm]at h;exact absurd rfl h
structure y2f(ps:List (List Td))(wd:Nat)(w:World)(i:Nat)(wr:World):Prop where
 le:i<=ps.length
 z:fmE (ps.drop i)=fmE ps
 b:Below w w wr
 ln:(q9j wd (ps.take i)).length<=i*2000001
 fw:∀t∈ps.take i,fwW t
theorem y3l{ps:List (List Td)}{i:Nat}(h:i<ps.length):ps.drop i=ps[i]::ps.drop (i+1):=List.drop_eq_getElem_cons h
theorem y3q{ps:List (List Td)}{i:Nat}(wd:Nat)(h:i<ps.length):q9j wd (ps.take (i+1))=q9j wd (ps.take i)++q7c wd ps[i]:=by
 rw[q9j,List.take_succ_eq_append_getElem h,List.flatMap_append];simp[q9j]
theorem z0b{ps:List (List Td)}(G:∀t∈ps,q0b t=0)(Y:ps.length<=20)(wd:Nat)(o:10<=wd)(p:wd<=100)(a:Option Addr)(cap:Nat)(w:World)(hP:Prg w a ps):
  Calls prog 9 #[.slice a ps.length cap,(wd:Int)] w fun e w'=>j4i ps wd e/\Below w w w':=by
 have HP:Hid (Prg w a ps):=hP;have HA:Hid (∀t∈ps,q0b t=0):=G;clear hP G;generalize hn:ps.length=n at Y⊢;have HN:Hid (ps.length=n):=hn;clear hn;have d:Hid (y2f ps wd w 0 w):=⟨zero_le _,rfl,Below.refl _ _,by simp[q9j],fun t h=>by simp at h⟩;go_in;go_wp2_with fail
 go_loopw [7,8] (fun s x wr=>∃i:Nat,x=(i:Int)/\s=.string (wbS (q9j wd (ps.take i)))/\y2f ps wd w i wr) (fun _ x _=>n-(intOf x).toNat)
 case atStart=>exact⟨0,rfl,rfl,d.o⟩
 case round=>
  obtain⟨i,rfl,rfl,E⟩:=hrel;have Ac:=HN.o;have Ab:=E.le;by_cases Ad:i<n
  ·have g:(i:Int)<(n:Int):=by omega
   have D:i<ps.length:=by omega
   obtain⟨b0,o0,r,y,rfl,Aa,d0,U,R⟩:=(HP.o.W E.b) i D;have L:=HA.o ps[i] (getElem_mem _);have B:Hid (Cp 19 #[.slice r ps[i].length y,(wd:Int)] wr fun e w'=>j4j ps[i] wd e/\Below wr wr w'):=j2t L wd o p r y wr R;have v:=hid E;have V:=y3l D;have M:=E.z;rw[V]at M;have O:=(show Hid (_=_)from M);have A:=(show Hid (_=_)from y3q (ps:=ps) wd D);have C:Hid (q0b ps[i]=0):=L;have k:=E.ln;clear E V M L R;have I:Hid (∀t,t∈ps.take (i+1)↔t∈ps.take i\/t=ps[i]):=fun t=>by rw[List.take_succ_eq_append_getElem D,List.mem_append,List.mem_singleton]
   have J:Hid (ps[i]∈ps):=getElem_mem D;generalize j:ps[i]=t at I J B O A C d0 U;generalize t.length=tn at B d0;clear j U;go_wp2_with fail;refine B.o.mono ?_;rintro e w1⟨hR,c⟩;have H:Hid (Below w w w1):=q0e v.o.b Zl c;cases hR with
   | ok hz hfw=>
    have Z:=v0s C.o hz wd
    have HX:Hid (y2f ps wd w (i+1) w1):=by
     refine⟨by omega,?_,H.o,?_,fun u hu=>?_⟩
     ·have:=O.o
      rw[z0v hz]at this;exact this
     ·rw[A.o,length_append];omega
     ·rcases(I.o u).1 hu with q|rfl
      ·exact v.o.fw u q
      ·exact hfw
    have f:Hid (wbS (q9j wd (ps.take (i+1)))=wbS (q9j wd (ps.take i))++wbS (q7c wd t)):=by
     show _=_;rw[A.o,q0l]
    have l:(wbS (q9j wd (ps.take i))).size<=50000000:=by rw[z3l];omega
    have m:(wbS (q7c wd t)).size<=2000001:=by rw[z3l];exact Z
    clear hz Z c B k O A C hfw I J;generalize wbS (q9j wd (ps.take i))=S at f l⊢;generalize wbS (q7c wd t)=T at f m⊢;have g1:¬9223372036854775807<S.size+T.size:=by omega
    go_wp2;refine⟨⟨i+1,by go_num,?_,HX.o⟩,?_⟩
    ·rw[f.o]
    ·simp[intOf];omega
   | full hz=>
    have N:Hid (j4i ps wd (.returned (.tuple #[.string ⟨#[]⟩,.int .i64 3,.bool true]))):=by
     have P:=O.o;rw[j7e hz,k3t hz]at P;have Q:=j4i.full (ps:=ps) (wd:=wd) (by rw[<-P];decide);rw[<-P]at Q;exact Q
    rw[k3t hz];clear hz c B k O A C;go_wp2;go_ret3;exact⟨N.o,H.o⟩
   | many s hm=>
    have N:Hid (j4i ps wd (.returned (.tuple #[.string ⟨#[]⟩,.int .i64 0,.bool false]))):=.many fun h=>hm (h t J.o)
    clear c B k O A C hm;go_wp2;go_ret3;exact⟨N.o,H.o⟩
  ·have g:¬(i:Int)<(n:Int):=by omega
   have K:ps.take i=ps:=List.take_of_length_le (by omega);have X:ps.drop i=[]:=List.drop_eq_nil_of_le (by omega);rw[K]
   have N:Hid (j4i ps wd (.returned (.tuple #[.string (wbS (q9j wd ps)),.int .i64 0,.bool true]))):=by
    have P:=E.z;have Q:=E.fw;rw[X]at P;rw[K]at Q;exact .ok P.symm Q
   have HB:Hid (Below w w wr):=E.b;clear E K X;generalize wbS (q9j wd ps)=S at N⊢;go_wp2;go_ret3;exact⟨N.o,HB.o⟩
def Md(w:World)(M:Nat)(qs:List (List Td))(n:Nat):Prop:=∃A c,w.heap[M]?=some (.cells #[.int .i64 (n:Int),.slice A qs.length c] 33 (0,0))/\Prg w A qs
section
variable {w w':World} {M n:Nat} {qs:List (List Td)}
theorem Md.lt(h:Md w M qs n):M<w.heap.size:=by
 obtain⟨A,c,B,_⟩:=h;exact(Array.getElem?_eq_some_iff.1 B).1
theorem Md.W(h:Md w M qs n)(hb:Below w w w'):Md w' M qs n:=by
 have D:=h.lt;obtain⟨A,c,B,C⟩:=h;exact⟨A,c,(hb.block M D).trans B,C.W hb⟩
theorem j0o{T:TypeId}{d:Nat}{a b:Value}{o:Nat}{v:Value}{f:Nat × Nat}(h:w.heap[d]?=some (.cells #[a,b] T f))(hv:w.cell? (d,o)=some v):v=a\/v=b:=by
 simp only[World.cell?,h]at hv;rcases o with _|_|o<;>simp at hv
 ·exact .inl hv.symm
 ·exact .inr hv.symm
theorem Md.blk(h:Md w M qs n):Blk w M:=by
 obtain⟨A,c,B,C⟩:=h;refine⟨⟨_,_,_,B⟩,fun o s hs=>?_⟩;rcases j0o B hs with e|e<;>cases e
theorem Md.noTr(h:Md w M qs n):g0u w M:=by
 obtain⟨A,c,D,E⟩:=h;intro o b N k K z G H;rcases j0o D G with e|e
 ·cases e
 ·simp only[Value.slice.injEq]at e;obtain⟨rfl,rfl,rfl⟩:=e;rcases Nat.eq_zero_or_pos qs.length with B|B
  ·exact B
  ·obtain⟨J,O,I,L,C,_,q,_⟩:=E 0 B;simp only[Option.some.injEq,Addr.mk.injEq,and_true]at C;obtain⟨rfl,rfl⟩:=C;rw[Nat.add_zero,H]at q;cases q
theorem Md.apart{x:Nat}(h:Md w M qs n)(C:∀t∈qs,q0b t=0)(hx:q0n w x w w')(hn:Blk w x)(ht:g0u w x)(B:M≠x):Md w' M qs n:=by
 have G:=h.lt;obtain⟨A,c,D,E⟩:=h;exact⟨A,c,(hx.block M G B).trans D,E.apart C hx hn ht⟩
theorem Md.cell(h:Md w M qs n):∃A c,w.cell? ⟨M,0,none⟩=some (.int .i64 (n:Int))/\w.cell? ⟨M,1,none⟩=some (.slice A qs.length c)/\(∀o,w.frozen? ⟨M,o,none⟩=false)/\Prg w A qs:=by
 obtain⟨A,c,B,C⟩:=h;exact⟨A,c,by simp[World.cell?,B],by simp[World.cell?,B],fun o=>by simp[World.frozen?,B],C⟩
theorem Md.wide(h:Md w M qs n)(B:∀t∈qs,q0b t=0)(m:Nat):Md (w.setCell M (m:Int)) M qs m:=by
 have E:=h.blk;have G:=h.noTr;obtain⟨A,c,C,D⟩:=h;exact⟨A,c,by simp[World.setCell,Array.getElem?_modify,C],D.apart B k9z E G⟩
theorem Md.set{ps:List (List Td)}{A:Option Addr}{c:Nat}(h:Md w M qs n)(B:∀t∈ps,q0b t=0)(hP:Prg w A ps):Md (w.setCell (M,1) (.slice A ps.length c)) M ps n:=by
 have D:=h.blk;have E:=h.noTr;obtain⟨G,H,C,_⟩:=h;exact⟨A,c,by simp[World.setCell,Array.getElem?_modify,C],hP.apart B k9z D E⟩
end
structure y2b(w:World)(d M:Nat)(wr:World)(qs:List (List Td))(n:Nat):Prop where
 sh:q4p 56 wr d qs n
 md:Md wr M qs n
 fw:∀t∈qs,fwW t
 bl:Below w w wr
theorem q4p.ok{T:TypeId}{w:World}{d n:Nat}{qs:List (List Td)}(h:q4p T w d qs n):(∀t∈qs,q0b t=0)/\fmE qs=0/\qs.length<=20/\10<=n/\n<=100:=by
 obtain⟨_,_,_,h⟩:=h;exact⟨h.ok,z9l _ h.pg,h.len,h.w1,h.w2⟩
structure StC(w:World)(b:Nat)(op:Int)(tx:ByteArray)(n:Int):Prop where
 lt:b<w.heap.size
 c0:w.cell? ⟨b,0,none⟩=some (.int .i64 op)
 c1:w.cell? ⟨b,1,none⟩=some (.string tx)
 c2:w.cell? ⟨b,2,none⟩=some (.int .i64 n)
theorem StC.W{w w':World}{b:Nat}{op n:Int}{tx:ByteArray}(h:StC w b op tx n)(hb:Below w w w'):StC w' b op tx n:=
 ⟨lt_of_lt_of_le h.lt hb.size,((q0s hb).1 _ _ h.lt).trans h.c0,((q0s hb).1 _ _ h.lt).trans h.c1,((q0s hb).1 _ _ h.lt).trans h.c2⟩
theorem StC.apart{w w':World}{b x:Nat}{op n:Int}{tx:ByteArray}(h:StC w b op tx n)(hx:q0n w x w w')(hne:b≠x):StC w' b op tx n:=
 ⟨lt_of_lt_of_le h.lt hx.size,(hx.cell (p:=⟨b,0,none⟩) h.lt hne).trans h.c0,(hx.cell (p:=⟨b,1,none⟩) h.lt hne).trans h.c1,(hx.cell (p:=⟨b,2,none⟩) h.lt hne).trans h.c2⟩
structure j0t(w:World)(d M b:Nat)(op:Int)(tx:ByteArray)(N:Int)(wr:World)(qs qs':List (List Td))(n n':Nat):Prop where
 sh:q4p 56 wr d qs n
 md:Md wr M qs' n'
 st:StC wr b op tx N
 bl:Below w w wr
 n1:d<M
 n2:M<b
 n3:w.heap.size<=d
theorem j0t.W{w:World}{d M b:Nat}{op N:Int}{tx:ByteArray}{wr w':World}{qs qs':List (List Td)}{n n':Nat}(h:j0t w d M b op tx N wr qs qs' n n')(hb:Below wr wr w'):j0t w d M b op tx N w' qs qs' n n':=
 ⟨h.sh.W hb,h.md.W hb,h.st.W hb,q0e h.bl Zl hb,h.n1,h.n2,h.n3⟩
theorem j0t.desk{w:World}{d M b:Nat}{op N:Int}{tx:ByteArray}{wr w':World}{qs A ps:List (List Td)}{n n' m:Nat}(h:j0t w d M b op tx N wr qs A n n')(B:∀t∈A,q0b t=0)(hs:q4p 56 w' d ps m)(hx:q0n wr d wr w'):j0t w d M b op tx N w' ps A m n':=by
 have C:=h.n1;have D:=h.n2;exact⟨hs,h.md.apart B hx h.sh.blk h.sh.noTr (by omega),h.st.apart hx (by omega),z8s h.bl hx h.n3,h.n1,h.n2,h.n3⟩
theorem j0t.wide{w:World}{d M b:Nat}{op N:Int}{tx:ByteArray}{wr:World}{qs A:List (List Td)}{n n':Nat}(h:j0t w d M b op tx N wr qs A n n')(B:∀t∈A,q0b t=0)(m:Nat):j0t w d M b op tx N (wr.setCell M (m:Int)) qs A n m:=by
 have C:=h.n1;have D:=h.n2;have E:=h.n3;exact⟨h.sh.apart k9z h.md.blk (by omega),h.md.wide B m,h.st.apart (k9z (w:=wr)) (by omega),z8s h.bl (k9z (w:=wr)) (by omega),h.n1,h.n2,h.n3⟩
theorem j0t.prog{w:World}{d M b:Nat}{op N:Int}{tx:ByteArray}{wr:World}{qs C ps:List (List Td)}{n n':Nat}{A:Option Addr}{c:Nat}(h:j0t w d M b op tx N wr qs C n n')(B:∀t∈ps,q0b t=0)(hP:Prg wr A ps):j0t w d M b op tx N (wr.setCell (M,1) (.slice A ps.length c)) qs ps n n':=by
 have D:=h.n1;have E:=h.n2;have G:=h.n3;exact⟨h.sh.apart k9z h.md.blk (by omega),h.md.set B hP,h.st.apart (k9z (w:=wr)) (by omega),z8s h.bl (k9z (w:=wr)) (by omega),h.n1,h.n2,h.n3⟩
theorem y9w{t u:List Td}(ht:q0b t=0)(hu:q0b u=0):((wbS (q2p t)).toList==(wbS (q2p u)).toList)=true↔t=u:=by
 rw[v2x];constructor
 ·intro h;exact k0o ht hu (by simpa using h)
 ·rintro rfl;simp
theorem q4v{α:Type}{l:List α}{k:Nat}(h:k<l.length){x:α}:x∈l.take (k+1)↔x∈l.take k\/l[k]=x:=by
 rw[List.take_succ_eq_append_getElem h,List.mem_append,List.mem_singleton];exact or_congr_right eq_comm
theorem j7j(ps C:List (List Td))(A B:Option Addr)(c c':Nat)(w:World)(hP:Prg w A ps)(hO:Prg w B C)(Ar:∀t∈ps,q0b t=0)(p:∀t∈C,q0b t=0)(hl:ps.length<=20)(An:C.length<=20):
  Cb 12 #[.slice A ps.length c,.slice B C.length c'] w (.int .i64 (frP ps C:Nat)):=by
 unfold Cb;have HP:Hid (Prg w A ps):=hP;have HO:Hid (Prg w B C):=hO;have P:Hid (∀t∈ps,q0b t=0):=Ar;have f:Hid (∀t∈C,q0b t=0):=p
 have Ad:Hid (0+frs (C.map q2p++(ps.map q2p).take 0) ((ps.map q2p).drop 0)=frP ps C):=by
  show _=_;simp[frP]
 have R:Hid (∀(t:List Td)(W:World)(a:Option Addr)(cp:Nat),q0b t=0->Tds W a t->Below w w W->Cp 29 #[.slice a t.length cp,.int .i64 0] W fun e w'=>e=.returned (.string (wbS (q2p t)))/\Below w w w'):=fun t W a cp h0 hT hb=>by
  have s:z8m t a cp 0 (q2p t) W:=y5n h0 W hT;exact s.mono fun _ _ hh=>⟨hh.1,hb.trans (hh.2.mono hb.size)⟩
 generalize Aq:ps.length=np at hl⊢;have Ac:Hid (ps.length=np):=Aq;generalize Ap:C.length=no at An⊢;have Ab:Hid (C.length=no):=Ap;go_in;go_wp2_with fail
 go_loopw [5,6] (fun q x wr=>∃i k:Nat,q=.int .i64 (k:Int)/\x=.int .i64 (i:Int)/\i<=np/\k+frs (C.map q2p++(ps.map q2p).take i) ((ps.map q2p).drop i)=frP ps C/\Below w w wr) (fun _ x _=>np-(intOf x).toNat)
 case atStart=>exact⟨0,0,rfl,rfl,zero_le _,Ad.o,Below.refl _ _⟩
 case round=>
  obtain⟨i,k,rfl,rfl,Av,l,M⟩:=hrel;have Aw:=Ac.o;have z:Hid (Below w w wr):=M;have O:=(show Hid (_=_)from l);by_cases Ax:i<np
  ·have Ak:(i:Int)<(np:Int):=by omega
   have o:i<ps.length:=by omega
   obtain⟨b0,o0,A0,c0,rfl,Ag,Ae,_,Af⟩:=HP.o i o;have d0:=((q0s M).1 _ _ Ag).trans Ae;have Q:Hid (q0b ps[i]=0):=P.o ps[i] (getElem_mem _);have H:Hid (Cp 29 #[.slice A0 ps[i].length c0,.int .i64 0] wr fun e w'=>e=.returned (.string (wbS (q2p ps[i])))/\Below w w w'):=R.o _ wr A0 c0 Q.o (Af.W M) M
   have At:k<=20:=by
    have s:=O.o;have h2:=y0h ps C;omega
   go_wp2_with fail;refine H.o.mono ?_;rintro e w2⟨rfl,Ah⟩;have u:Hid (Below w w w2):=Ah;go_wp2_with fail
   go_loopw [8,9] (fun v y wx=>∃(L:Bool)(j:Nat),v=.bool L/\y=.int .i64 (j:Int)/\j<=i/\(L=true↔ps[i]∈ps.take j)/\Below w w wx) (fun _ y _=>i-(intOf y).toNat)
   case atStart=>exact⟨false,0,rfl,rfl,zero_le _,by simp,u.o⟩
   case round=>
    obtain⟨L,j,rfl,rfl,hj,I,E⟩:=hrel;have J:Hid (Below w w wr):=E;by_cases Au:j<i
    ·have Am:(j:Int)<(i:Int):=by omega
     have Y:j<ps.length:=by omega
     have G:Hid (L=true↔ps[i]∈ps.take j):=I;cases L with
     | true=>
      have D:Hid (true=true↔ps[i]∈ps.take (j+1)):=⟨fun _=>(q4v Y).2 (.inl (G.o.1 rfl)),fun _=>rfl⟩;go_wp2;refine⟨⟨true,j+1,rfl,by go_num,by omega,D.o,J.o⟩,?_⟩;simp[intOf];omega
     | false=>
      obtain⟨b1,o1,d,g,e1,V,S,_,U⟩:=HP.o j Y;simp only[Option.some.injEq,Addr.mk.injEq,and_true]at e1;obtain⟨rfl,rfl⟩:=e1;have d1:=((q0s E).1 _ _ V).trans S;have K:=P.o ps[j] (getElem_mem _);have H:Hid (Cp 29 #[.slice d ps[j].length g,.int .i64 0] wr fun e w'=>e=.returned (.string (wbS (q2p ps[j])))/\Below w w w'):=R.o _ wr d g K (U.W E) E
      have D:Hid ((((wbS (q2p ps[j])).toList==(wbS (q2p ps[i])).toList)=true)↔ps[i]∈ps.take (j+1)):=by
       have r:ps[i]∉ps.take j:=fun q=>by have:=G.o.2 q;cases this
       rw[show Hid _↔_ from⟨fun h=>h.o,fun h=>h⟩,y9w K Q.o,q4v Y];exact⟨fun h=>.inr h,fun h=>h.elim (fun q=>absurd q r) id⟩
      generalize wbS (q2p ps[j])=S1 at H D;go_wp2_with fail;refine H.o.mono ?_;rintro e w3⟨rfl,X⟩;have N:Hid (Below w w w3):=X;go_wp2;refine⟨⟨_,j+1,rfl,by go_num,by omega,D.o,N.o⟩,?_⟩;simp[intOf];omega
    ·have Am:¬(j:Int)<(i:Int):=by omega
     have Al:j=i:=by omega
     subst Al;have G:Hid (L=true↔ps[j]∈ps.take j):=I;go_wp2_with fail
     go_loopw [8,10] (fun v y wx=>∃(L:Bool)(m:Nat),v=.bool L/\y=.int .i64 (m:Int)/\m<=no/\(L=true↔ps[j]∈C.take m\/ps[j]∈ps.take j)/\Below w w wx) (fun _ y _=>no-(intOf y).toNat)
     case atStart=>exact⟨L,0,rfl,rfl,zero_le _,by rw[G.o];simp,J.o⟩
     case round=>
      obtain⟨b,m,rfl,rfl,hm,I,E⟩:=hrel;have p:=Ab.o;have J:Hid (Below w w wr):=E;by_cases Ay:m<no
      ·have Ao:(m:Int)<(no:Int):=by omega
       have Z:m<C.length:=by omega
       have G:Hid (b=true↔ps[j]∈C.take m\/ps[j]∈ps.take j):=I;obtain⟨b1,o1,d,g,rfl,V,S,_,U⟩:=HO.o m Z;cases b with
       | true=>
        have D:Hid (true=true↔ps[j]∈C.take (m+1)\/ps[j]∈ps.take j):=⟨fun _=>(G.o.1 rfl).imp (fun q=>(q4v Z).2 (.inl q)) id,fun _=>rfl⟩;go_wp2;refine⟨⟨true,m+1,rfl,by go_num,by omega,D.o,J.o⟩,?_⟩;simp[intOf];omega
       | false=>
        have d1:=((q0s E).1 _ _ V).trans S;have K:=f.o C[m] (getElem_mem _);have H:Hid (Cp 29 #[.slice d C[m].length g,.int .i64 0] wr fun e w'=>e=.returned (.string (wbS (q2p C[m])))/\Below w w w'):=R.o _ wr d g K (U.W E) E
        have D:Hid ((((wbS (q2p C[m])).toList==(wbS (q2p ps[j])).toList)=true)↔ps[j]∈C.take (m+1)\/ps[j]∈ps.take j):=by
         have r:¬(ps[j]∈C.take m\/ps[j]∈ps.take j):=fun q=>by have:=G.o.2 q;cases this
         rw[show Hid _↔_ from⟨fun h=>h.o,fun h=>h⟩,y9w K Q.o,q4v Z];exact⟨fun h=>.inl (.inr h),fun h=>h.elim (fun q=>q.elim (fun q=>absurd (.inl q) r) id) (fun q=>absurd (.inr q) r)⟩
        generalize wbS (q2p C[m])=S1 at H D;go_wp2_with fail;refine H.o.mono ?_;rintro e w3⟨rfl,X⟩;have N:Hid (Below w w w3):=X;go_wp2;refine⟨⟨_,m+1,rfl,by go_num,by omega,D.o,N.o⟩,?_⟩;simp[intOf];omega
      ·have Ao:¬(m:Int)<(no:Int):=by omega
       have As:C.take m=C:=List.take_of_length_le (by omega);rw[As]at I;obtain⟨Ai,Aj⟩:=z9a o P.o f.o O.o;cases b with
       | true=>
        have HN:=(show Hid (_=_)from Ai (I.1 rfl));go_wp2;refine⟨⟨j+1,k,rfl,by go_num,by omega,HN.o,J.o⟩,?_⟩;simp[intOf];omega
       | false=>
        have HN:=(show Hid (_=_)from Aj (fun q=>by have:=I.2 q;cases this));go_wp2;refine⟨⟨j+1,k+1,by go_num,by go_num,by omega,HN.o,J.o⟩,?_⟩;simp[intOf];omega
  ·have Ak:¬(i:Int)<(np:Int):=by omega
   have n:k=frP ps C:=by
    have s:=O.o;rw[List.drop_eq_nil_of_le (by simp;omega),frs]at s;omega
   have Aa:Hid (k=frP ps C):=n;go_wp2;go_ret;exact⟨by rw[<-Aa.o];rfl,z.o⟩
abbrev PaC:Prop:=∀(s:ByteArray)(W:World),Calls prog 11 #[.string s] W fun e w'=>∃ps k f A c,e=.returned (.tuple #[.slice A ps.length c,.int .i64 k,.int .i64 f])/\z0i s ps k f/\Prg w' A ps/\Below W W w'
theorem k3z{n:Nat}(h1:10<=n)(h2:n<=100)(w:World):Cw 6 #[(n:Int)] w (.bool true):=by
 unfold Cw;have h:=k3y (n:Int) w;rw[show decide (¬((n:Int)<10\/100<(n:Int)))=true by simp;omega]at h;exact h
theorem k9x{wd:Int}(h1:wd<10\/100<wd)(w:World):Cw 6 #[wd] w (.bool false):=by
 unfold Cw;have h:=k3y wd w;rw[show decide (¬(wd<10\/100<wd))=false by simp;omega]at h;exact h
theorem j1k(A8:PaC)(wd:Int)(l:List Td)(a:Option Addr)(cap:Nat)(w:World)(hN:Tds w a l)(hg:Hnd w)(ht:z2c w):
  Cb 3 #[wd,.slice a l.length cap] w (.bool true):=by
 unfold Cb;have HT:Hid (∀W,Below w w W->z2c W):=fun W h=>ht.W h
 have HG:Hid (∀W,Below w w W->Hnd W):=fun W h=>hg.W h
 have Ay:Hid (Tds w a l):=hN;have A3:Hid PaC:=A8;generalize Bg:l.length=nl;have Ax:Hid (l.length=nl):=Bg;by_cases hw:wd<10\/100<wd
 ·have HW:Hid (Cw 6 #[wd] w (.bool false)):=k9x hw w;have HN:Hid (Cw 7 #[wd] w (.tuple #[.pointer none,.iface 24 (.int .i64 1)])):=y3h hw w;go_in;go_wp2_with fail;refine HW.o.mono ?_;rintro e w1⟨rfl,rfl⟩;go_wp2_with fail;refine HN.o.mono ?_;rintro e s⟨rfl,rfl⟩;go_wp2_with fail;refine(q7i 1 1 _ (HG.o _ Zb)).mono ?_;rintro e w3⟨rfl,b3⟩;go_wp2;go_ret;exact⟨rfl,b3⟩
 ·obtain⟨n0,rfl⟩:∃n:Nat,wd=(n:Int):=⟨wd.toNat,by omega⟩;have Ar:10<=n0:=by omega
  have As:n0<=100:=by omega
  have HW:Hid (Cw 6 #[(n0:Int)] w (.bool true)):=k3z Ar As w;go_in;go_wp2_with fail;refine HW.o.mono ?_;rintro e w1⟨rfl,rfl⟩;go_wp2_with fail;refine(y3i Ar As w).mono ?_;rintro e w1⟨rfl,A9,b1⟩;have Am:Hid (q4p 56 w1 w.heap.size [] n0):=A9;have Aa:Hid (Below w w w1):=b1;go_wp2_with fail;refine(q7i 0 0 _ (HG.o _ Aa.o)).mono ?_;rintro e s⟨rfl,b2⟩;have Ae:Hid (y2b w w.heap.size s.heap.size (s.alloc (.cells #[(n0:Int),.slice none 0 0] 33)) [] n0):=⟨(Am.o.W b2).W (q1w s _),⟨none,0,by show(s.heap.push _)[s.heap.size]?=_;simp,Prg.nil _ _⟩,fun t h=>by simp at h,(q0e Aa.o Zl b2).trans ((q1w s _).mono (Nat.le_trans Aa.o.size b2.size))⟩;have Ad:Hid (w.heap.size<s.heap.size):=(show w.heap.size<s.heap.size from(Am.o.W b2).lt);go_wp2_with fail;generalize hM:s.heap.size=M at Ae Ad⊢
  go_loopw [11] (fun x wr=>∃(i:Nat)(B:List (List Td))(n:Nat),x=(i:Int)/\i<=12/\y2b w w.heap.size M wr B n) (fun x _=>12-(intOf x).toNat)
  case atStart=>exact⟨0,[],n0,rfl,by omega,Ae.o⟩
  case round=>
   obtain⟨i,B,n,rfl,Bm,Q⟩:=hrel;have HI:Hid (y2b w w.heap.size M wr B n):=Q;have Bs:=Ax.o;by_cases Bq:i<nl/\i<12
   ·have Ap:(i:Int)<(nl:Int):=by omega
    have Be:(i:Int)<12:=by omega
    have Bf:i<l.length:=by omega
    obtain⟨b0,o0,rfl,Bo,d0,d1,d2⟩:=Ay.o.W Q.bl i Bf;have Bu:w.heap.size<wr.heap.size:=Q.sh.lt;have D:Hid (j0t w w.heap.size M wr.heap.size l[i].op l[i].tx l[i].n (wr.alloc (.cells #[.int .i64 l[i].op,.string l[i].tx,.int .i64 l[i].n] 35)) B B n n):=⟨Q.sh.W (q1w wr _),Q.md.W (q1w wr _),⟨by simp,by simp[go_sem],by simp[go_sem],by simp[go_sem]⟩,Q.bl.trans ((q1w wr _).mono Q.bl.size),Ad.o,Q.md.lt,le_refl _⟩;have b:Hid (∀t∈B,fwW t):=Q.fw;have H:Hid ((∀t∈B,q0b t=0)/\fmE B=0/\B.length<=20/\10<=n/\n<=100):=Q.sh.ok
    go_upto_if 68 with fail
    generalize(wr.alloc (.cells #[.int .i64 l[i].op,.string l[i].tx,.int .i64 l[i].n] 35))=w5 at D⊢
    generalize l[i].tx=TX at D;generalize l[i].n=N at D;generalize l[i].op=OP at D⊢
    go_cut [9] (fun _ wx=>∃(A:List (List Td))(m:Nat),y2b w w.heap.size M wx A m)
    case first=>
     obtain⟨r,mc,m0,m1,mf,mP⟩:=D.o.md.cell;have e1:=D.o.st.c1;have e2:=D.o.st.c2;have Ah:Hid (Prg w5 r B):=mP;by_cases h0:OP=0
     ·subst h0;by_cases At:N<10\/100<N
      ·have Ab:Hid (Cw 6 #[.int .i64 N] w5 (.bool false)):=k9x At w5;have A7:Hid (N<10\/100<N):=At;go_wp2_with fail;refine Ab.o.mono ?_;rintro e I⟨rfl,rfl⟩;go_wp2_with fail;refine(k2a N B n _ w5 D.o.sh (HT.o _ D.o.bl)).mono ?_;rintro e I⟨m,g,rfl,Ac,Ba,Y⟩
       obtain⟨rfl,rfl⟩:m=n/\g=1:=by
        cases Ac with
        | no=>exact⟨rfl,rfl⟩
        | ok h _ _=>
         have:=A7.o
         omega
       have G:=hid (D.o.desk H.o.1 Ba Y);go_wp2_with fail;refine(q7i 1 1 _ (HG.o _ G.o.bl)).mono ?_;rintro e z⟨rfl,X⟩;have C:=hid (G.o.W X);go_wp2
       go_meet
       exact⟨B,m,C.o.sh,C.o.md,b.o,C.o.bl⟩
      ·obtain⟨m,rfl⟩:∃m:Nat,N=(m:Int):=⟨N.toNat,by omega⟩;have v:10<=m:=by omega
       have y:m<=100:=by omega
       have Ab:Hid (Cw 6 #[.int .i64 (m:Int)] w5 (.bool true)):=k3z v y w5;have Af:Hid (Cp 9 #[.slice r B.length mc,.int .i64 (m:Int)] w5 fun e w'=>j4i B m e/\Below w5 w5 w'):=z0b H.o.1 H.o.2.2.1 m v y r mc w5 Ah.o;generalize B.length=nq at m1 Af;go_wp2_with fail;refine Ab.o.mono ?_;rintro e I⟨rfl,rfl⟩;go_wp2_with fail;refine Af.o.mono ?_;rintro e I⟨hL,Y⟩;have G:=hid (D.o.W Y);obtain⟨_,_,k0,k1,kf,_⟩:=G.o.md.cell;have By:=kf 0;have r2:=G.o.st.c2;have C:=hid (G.o.wide H.o.1 m);have q2:=C.o.st.c2;cases hL with
       | ok _ _=>
        generalize wbS (q9j m B)=U;go_wp2_with fail;refine(k2a (m:Int) B n _ _ C.o.sh (HT.o _ C.o.bl)).mono ?_;rintro e w8⟨m2,g,rfl,Ac,Bb,b8⟩
        obtain⟨rfl,rfl⟩:m2=m/\g=0:=by
         cases Ac with
         | no h=>omega
         | ok h _ _=>exact⟨by omega,rfl⟩
        have d:=hid (C.o.desk H.o.1 Bb b8);go_wp2_with fail;refine(q7i 0 0 _ (HG.o _ d.o.bl)).mono ?_;rintro e w9⟨rfl,b9⟩;have K:=hid (d.o.W b9);go_wp2
        go_meet
        exact⟨B,m2,K.o.sh,K.o.md,b.o,K.o.bl⟩
       | full h=>exact absurd H.o.2.1 h
       | many h=>exact absurd b.o h
     ·have Bn:(OP==0)=false:=by simp[h0]
      go_wp2_with fail;refine(A3.o TX w5).mono ?_;rintro e I⟨A,k,f,A6,c6,rfl,hR,Ao,Y⟩;have G:=hid (D.o.W Y);have Ai:Hid (Prg I r B):=Ah.o.W Y;have k0:=((q0s Y).1 _ _ D.o.md.lt).trans m0;have k1:=((q0s Y).1 _ _ D.o.md.lt).trans m1;have r1:=G.o.st.c1;by_cases hf:f=0
      ·subst hf;obtain⟨rfl,_,S,V⟩:=k0f hR;have Ag:Hid (Cp 9 #[.slice A6 A.length c6,.int .i64 (n:Int)] I fun e w'=>j4i A n e/\Below I I w'):=z0b V S n H.o.2.2.2.1 H.o.2.2.2.2 A6 c6 I Ao;have p:Hid (z0i TX A 0 0):=hR;have A1:Hid (Prg I A6 A):=Ao;have u:Hid ((∀t∈A,q0b t=0)/\A.length<=20):=⟨V,S⟩;generalize Bi:B.length=nq at k1;have Az:Hid (B.length=nq):=Bi;generalize Bh:A.length=np at Ag⊢;have Ak:Hid (A.length=np):=Bh;go_wp2_with fail;refine Ag.o.mono ?_;rintro e z⟨hL,X⟩;have C:=hid (G.o.W X);have Aj:Hid (Prg z r B):=Ai.o.W X;have Al:Hid (Prg z A6 A):=A1.o.W X;have j0:=((q0s X).1 _ _ G.o.md.lt).trans k0;have j1:=((q0s X).1 _ _ G.o.md.lt).trans k1;have t1:=C.o.st.c1;cases hL with
       | ok hz hfw=>
        have Av:Hid (Cb 12 #[.slice A6 np c6,.slice r nq mc] z (.int .i64 (frP A B:Nat))):=by
         have R:=j7j A B A6 r c6 mc z Al.o Aj.o u.o.1 H.o.1 u.o.2 H.o.2.2.1;rw[Ak.o,Az.o]at R;exact R
        have HZ:Hid (fmE A=0/\∀t∈A,fwW t):=⟨hz,hfw⟩;generalize wbS (q9j n A)=U;go_wp2_with fail;refine Av.o.mono ?_;rintro e w8⟨rfl,b8⟩;have d:=hid (C.o.W b8);have A2:Hid (Prg w8 A6 A):=Al.o.W b8;have Aq:=d.o.prog (c:=c6) u.o.1 A2.o;rw[Ak.o]at Aq;have K:=hid Aq;obtain⟨_,_,i0,i1,Bl,_⟩:=d.o.md.cell;have Bx:=Bl 1;have s1:=K.o.st.c1;go_wp2_with fail;refine(z9f TX B n _ _ K.o.sh (HT.o _ K.o.bl)).mono ?_;rintro e wa⟨O,x,k2,Z,rfl,j,o,ba⟩;obtain⟨rfl,rfl,rfl,rfl⟩:=y5k p.o HZ.o.1 j;have L:=hid (K.o.desk u.o.1 o ba);generalize hx:(frP O B:Nat)=x;have Bw:((x:Int) != (x:Int))=false:=by simp
        go_wp2_with fail;refine(q7i 0 0 _ (HG.o _ L.o.bl)).mono ?_;rintro e wb⟨rfl,bb⟩;have J:=hid (L.o.W bb);go_wp2
        go_meet
        exact⟨O,n,J.o.sh,J.o.md,HZ.o.2,J.o.bl⟩
       | full hz=>
        have HZ:Hid (fmE A≠0):=hz;have Bk:(fmE A==0)=false:=by simp[hz]
        generalize hE:fmE A=E at Bk⊢;have HE:Hid (fmE A=E):=hE;go_wp2_with fail;refine(z9f TX B n _ _ C.o.sh (HT.o _ C.o.bl)).mono ?_;rintro e wa⟨O,x,k2,Z,rfl,j,o,ba⟩
        obtain⟨rfl,rfl,rfl,rfl⟩:O=B/\x=0/\k2=0/\Z=E:=by
         rw[<-HE.o];cases j with
         | bad R h2=>exact absurd (q4w R p.o).2.2 h2
         | full R h2=>
          obtain⟨rfl,_⟩:=q4w R p.o;exact⟨rfl,rfl,rfl,rfl⟩
         | ok R h2=>
          obtain⟨rfl,_⟩:=q4w R p.o;exact absurd h2 HZ.o
        have L:=hid (C.o.desk H.o.1 o ba);have Bd:(Z==Z)=true:=by simp
        go_wp2_with fail;refine(q7i Z Z _ (HG.o _ L.o.bl)).mono ?_;rintro e wb⟨rfl,bb⟩;have J:=hid (L.o.W bb);go_wp2
        go_meet
        exact⟨O,n,J.o.sh,J.o.md,b.o,J.o.bl⟩
       | many h=>
        go_wp2;go_ret;exact⟨rfl,C.o.bl⟩
      ·have p:Hid (z0i TX A k f/\f≠0):=⟨hR,hf⟩;have Bp:(f==0)=false:=by simp[hf]
       generalize A.length=np;go_wp2_with fail;refine(z9f TX B n _ _ G.o.sh (HT.o _ G.o.bl)).mono ?_;rintro e wa⟨O,x,k2,Z,rfl,j,o,ba⟩
       obtain⟨rfl,rfl,rfl,rfl⟩:O=B/\x=0/\k2=k/\Z=f:=by
        cases j with
        | bad R h2=>
         obtain⟨_,rfl,rfl⟩:=q4w R p.o.1;exact⟨rfl,rfl,rfl,rfl⟩
        | full R h2=>exact absurd (q4w p.o.1 R).2.2 p.o.2
        | ok R h2=>exact absurd (q4w p.o.1 R).2.2 p.o.2
       have L:=hid (G.o.desk H.o.1 o ba);have Bd:(Z==Z)=true:=by simp
       have Br:(k2 != k2)=false:=by simp
       go_wp2_with fail;refine(q7i Z Z _ (HG.o _ L.o.bl)).mono ?_;rintro e wb⟨rfl,bb⟩;have J:=hid (L.o.W bb);go_wp2
       go_meet
       exact⟨O,n,J.o.sh,J.o.md,b.o,J.o.bl⟩
    case rest=>
     obtain⟨A,m,Q⟩:=hcut;obtain⟨V,Bj,S,v,y⟩:=Q.sh.ok;obtain⟨r,mc,m0,m1,mf,mP⟩:=Q.md.cell;have HL:Hid (Cp 9 #[.slice r A.length mc,.int .i64 (m:Int)] wc fun e w'=>j4i A m e/\Below wc wc w'):=z0b V S m v y r mc wc mP;have HI:Hid (y2b w w.heap.size M wc A m):=Q;have A4:Hid (fmE A=0):=Bj;generalize A.length=np at m1 HL;go_wp2_with fail;refine HL.o.mono ?_;rintro e I⟨hL,Y⟩;have P:Hid (y2b w w.heap.size M I A m):=⟨HI.o.sh.W Y,HI.o.md.W Y,HI.o.fw,q0e HI.o.bl Zl Y⟩;cases hL with
     | ok _ _=>
      have An:Hid (∀W,Below I I W->Cp 14 #[.pointer (some ⟨w,0,none⟩)] W fun e w'=>e=.returned (.string (wbS (q9j m A)))/\Below I I w'):=fun W h=>(j6f W (P.o.sh.W h)).mono fun e w' hh=>⟨hh.1,q0e h Zl hh.2⟩
      have A5:Hid (∀W,Below I I W->Cw 15 #[.pointer (some ⟨w,0,none⟩)] W (.int .i64 (m:Int))):=fun W h=>j1i W (P.o.sh.W h)
      have Aw:Hid (∀W,Below I I W->W.cell? ⟨M,0,none⟩=some (.int .i64 (m:Int))):=fun W h=>by
       obtain⟨_,_,q,_⟩:=(P.o.md.W h).cell;exact q
      have Au:Hid (Below I I I.drew):= Zb.drew;generalize wbS (q9j m A)=U at An⊢;have Bv:(U.toList != U.toList)=false:=by simp
      have Bt:((m:Int) != (m:Int))=false:=by simp
      have A0:Hid (∀W,Below I I W->∃(i':Nat)(B:List (List Td))(n:Nat),Value.int .i64 ((i:Int)+1)=.int .i64 (i':Int)/\i'<=12/\y2b w w.heap.size M W B n):=fun W h=>⟨i+1,A,m,by go_num,by omega,P.o.sh.W h,P.o.md.W h,P.o.fw,q0e P.o.bl Zl h⟩
      go_wp2_with fail
      go_region_with (first
       | (go_at_call 14;refine(An.o _ Au.o).mono ?_;rintro e z⟨rfl,X⟩;have m0:=Aw.o _ X)
       | (go_at_call 15;refine(A5.o _ (by first|exact X|exact X.drew|exact X.drew.drew)).mono ?_;rintro e w8⟨rfl,rfl⟩))
      all_goals
       go_wp2;refine⟨A0.o _ X,?_⟩;simp[intOf];omega
     | full h=>exact absurd A4.o h
     | many h=>exact absurd HI.o.fw h
   ·have HB:Hid (Below w w wr):=Q.bl;have Bc:¬(i:Int)<(nl:Int)\/((i:Int)<(nl:Int)/\¬(i:Int)<12):=by omega
    rcases Bc with Ap|⟨Ap,Be⟩
    all_goals
     go_wp2;go_ret;exact⟨rfl,HB.o⟩
end Go.Proofs.YtchdplceopegoaaGreatDoor
