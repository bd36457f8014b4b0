import Derived.Test.YthcpdohdppkmkaaGreatDoorPl40
open Go.Proofs.Tryz
namespace Go.Proofs.YthcpdohdppkmkaaGreatDoor
open Go Go.RowKit
set_option maxRecDepth 100000
set_option maxHeartbeats 4000000
abbrev v9p(ds:List Td)(a:Option Addr)(cap i:Nat)(D:Tr)(W:World):Prop:=
 Calls prog 79 #[.slice a ds.length cap,.int .i64 (i:Int)] W fun e w'=>NdR W D.N e w'
theorem y5d{l:Nat}{x:Td}{D:Tr}(h:prc x<l):(inD l x D).N=⟨6,⟨#[]⟩,0⟩::([⟨1,⟨#[40]⟩,0⟩]++(⟨6,⟨#[]⟩,0⟩::(D.N++[⟨1,⟨#[41]⟩,0⟩]))):=by
 rw[inD,if_pos h];rfl
theorem y8n{l:Nat}{x:Td}{D:Tr}(h:¬prc x<l):(inD l x D).N=D.N:=by rw[inD,if_neg h]
theorem z6h{ds:List Td}{a:Option Addr}{cap p i:Nat}(W:World)(hN:Tds W a ds)(hp:p<ds.length)(hi:i<ds.length)(Af:ds[p].op=5\/ds[p].op=6)(G:Bool)(D:Tr)(hz:D.N.length<=10000)(hT:v9p ds a cap i D W):
  Calls prog 127 #[.slice a ds.length cap,.int .i64 (p:Int),.int .i64 (i:Int),.bool G] W fun e w'=>NdR W (inD (lvl ds[p].op G) ds[i] D).N e w':=by
 have HN:Hid (Tds W a ds):=hN;have k:Hid (v9p ds a cap i D W):=hT
 have I:Hid (∀W':World,Calls prog 187 #[tdV ds[p],tdV ds[i],.bool G] W' fun e w'=>e=.returned (.bool (decide (prc ds[i]<lvl ds[p].op G)))/\Below W' W' w'):=fun W'=>by
  have:=j0f ds[p] ds[i] G W'
  rw[y0a _ _ _ Af]at this;exact this
 have Ap:(p:Int)<(ds.length:Int):=by omega
 have Ao:(i:Int)<(ds.length:Int):=by omega
 have Z:Hid (prc ds[i]<lvl ds[p].op G->(inD (lvl ds[p].op G) ds[i] D).N=⟨6,⟨#[]⟩,0⟩::([⟨1,⟨#[40]⟩,0⟩]++(⟨6,⟨#[]⟩,0⟩::(D.N++[⟨1,⟨#[41]⟩,0⟩])))):=y5d;have J:Hid (¬prc ds[i]<lvl ds[p].op G->(inD (lvl ds[p].op G) ds[i] D).N=D.N):=y8n
 have j:Hid (∀W',Below W W W'->∃b o,a=some ⟨b,o,none⟩/\b<W'.heap.size/\(W'.cell? ⟨b,o+p*3,none⟩=some (.int .i64 ds[p].op)/\W'.cell? ⟨b,o+p*3+1,none⟩=some (.string ds[p].tx)/\W'.cell? ⟨b,o+p*3+2,none⟩=some (.int .i64 ds[p].n))/\(W'.cell? ⟨b,o+i*3,none⟩=some (.int .i64 ds[i].op)/\W'.cell? ⟨b,o+i*3+1,none⟩=some (.string ds[i].tx)/\W'.cell? ⟨b,o+i*3+2,none⟩=some (.int .i64 ds[i].n))):=fun W' O=>by
  obtain⟨A,op,e1,Al,U,V,X⟩:=(HN.o.W O) p hp;obtain⟨bi,oi,e2,An,P,Q,S⟩:=(HN.o.W O) i hi;rw[e1]at e2;simp only[Option.some.injEq,Addr.mk.injEq,and_true]at e2;obtain⟨rfl,rfl⟩:=e2;exact⟨A,op,e1,Al,⟨U,V,X⟩,⟨P,Q,S⟩⟩
 generalize(inD (lvl ds[p].op G) ds[i] D).N=R at Z J⊢
 generalize Am:lvl ds[p].op G=l at Z J I;unfold v9p at k;generalize D.N=xs at Z J k hz;clear hN hT Af Am HN;generalize ds[p]=xp at j I;generalize ds[i]=xi at j I Z J;generalize prc xi=pr at Z J I;obtain⟨s,t,r⟩:=xp;obtain⟨m,q,K⟩:=xi;by_cases O:pr<l
 ·have HR:=(show Hid (_=_)from Z.o O);have c:Hid (decide (pr<l)=true):=decide_eq_true O;clear O Z J;go_in;go_wp2_with fail;refine k.o.mono ?_;rintro e C H;obtain⟨f,rfl,M,d⟩:=H.val;have Ab:Hid (NdV C f xs):=M;obtain⟨A,op,rfl,E,⟨U,V,X⟩,P,Q,S⟩:=j.o C d;have L:Hid (Calls prog 187 #[tdV ⟨s,t,r⟩,tdV ⟨m,q,K⟩,.bool G] C.drew fun e w'=>e=.returned (.bool (decide (pr<l)))/\Below C C w'):=(I.o C.drew).mono fun _ _ h=>⟨h.1,(Below.refl C.heap.size C).drew.trans h.2⟩
  have d1:C.drew.cell? ⟨A,op+p*3,none⟩=some (.int .i64 s):=U;have d2:C.drew.cell? ⟨A,op+p*3+1,none⟩=some (.string t):=V;have d3:C.drew.cell? ⟨A,op+p*3+2,none⟩=some (.int .i64 r):=X;have d4:C.drew.cell? ⟨A,op+i*3,none⟩=some (.int .i64 m):=P;have d5:C.drew.cell? ⟨A,op+i*3+1,none⟩=some (.string q):=Q;have d6:C.drew.cell? ⟨A,op+i*3+2,none⟩=some (.int .i64 K):=S;have Y:=hid d;clear j I k d M H;go_wp2_with fail
  go_region_held3 (fun w'=>w'.cell? ⟨A,op+p*3,none⟩=some (.int .i64 s)/\w'.cell? ⟨A,op+p*3+1,none⟩=some (.string t)/\w'.cell? ⟨A,op+p*3+2,none⟩=some (.int .i64 r)/\w'.cell? ⟨A,op+i*3,none⟩=some (.int .i64 m)/\w'.cell? ⟨A,op+i*3+1,none⟩=some (.string q)/\w'.cell? ⟨A,op+i*3+2,none⟩=some (.int .i64 K))
   (first|with_reducible exact⟨d1,d2,d3,d4,d5,d6⟩|with_reducible exact⟨U,V,X,P,Q,S⟩|with_reducible exact⟨(B.cell (p:=⟨A,_,none⟩) E).trans U,(B.cell (p:=⟨A,_,none⟩) E).trans V,(B.cell (p:=⟨A,_,none⟩) E).trans X,(B.cell (p:=⟨A,_,none⟩) E).trans P,(B.cell (p:=⟨A,_,none⟩) E).trans Q,(B.cell (p:=⟨A,_,none⟩) E).trans S⟩)
   ((go_at_call 187;refine L.o.mono ?_;rintro e w2⟨rfl,B⟩;rw[c.o]))
  all_goals
   have Ac:Hid (NdV w2 f xs):=Ab.o.W B;have u:Hid (Below W W w2):=q0e Y.o Zl B;clear B;go_wp2_with fail;refine(q1q _ _).mono ?_;rintro e w3 h3;obtain⟨v3,rfl,n3,b3⟩:=h3.val;have v:Hid (Below W W w3):=q0e u.o Zl b3;have Ad:Hid (NdV w3 v3 [⟨1,⟨#[40]⟩,0⟩]):=n3;have x:Hid (NdV w3 f xs):=Ac.o.W b3;clear h3 n3 b3 u Ac;go_wp2_with fail;refine(q1q _ _).mono ?_;rintro e w4 h4;obtain⟨v4,rfl,n4,b4⟩:=h4.val;have w:Hid (Below W W w4):=q0e v.o Zl b4;have Ae:Hid (NdV w4 v4 [⟨1,⟨#[41]⟩,0⟩]):=n4;have y:Hid (NdV w4 f xs):=x.o.W b4;have z:Hid (NdV w4 v3 [⟨1,⟨#[40]⟩,0⟩]):=Ad.o.W b4;clear h4 n4 b4 v Ad x;go_wp2_with fail;refine(q1a _ y.o Ae.o (by simp;omega)).mono ?_;rintro e w5 h5;obtain⟨v5,rfl,n5,b5⟩:=h5.val;have Ag:Hid (Below W W w5):=q0e w.o Zl b5;have Ak:Hid (NdV w5 v5 (⟨6,⟨#[]⟩,0⟩::(xs++[⟨1,⟨#[41]⟩,0⟩]))):=n5;have Ah:Hid (NdV w5 v3 [⟨1,⟨#[40]⟩,0⟩]):=z.o.W b5;clear h5 n5 b5 w Ae y z;go_wp2_with fail;refine(q1a _ Ah.o Ak.o (by simp;omega)).mono ?_;rintro e w6 h6
   have Ai:Hid (NdR W R e w6):=by
    show NdR W R e w6;rw[HR.o];exact h6.from Ag.o
   obtain⟨v6,rfl,_,_⟩:=h6.val;clear h6;go_wp2;go_ret;exact Ai.o
 ·have HR:=(show Hid (_=_)from J.o O);have c:Hid (decide (pr<l)=false):=decide_eq_false O;clear O Z J;go_in;go_wp2_with fail;refine k.o.mono ?_;rintro e C H;have Aa:Hid (NdR W xs e C):=H;obtain⟨f,rfl,M,d⟩:=H.val;have Ab:Hid (NdV C f xs):=M;obtain⟨A,op,rfl,E,⟨U,V,X⟩,P,Q,S⟩:=j.o C d;have L:Hid (Calls prog 187 #[tdV ⟨s,t,r⟩,tdV ⟨m,q,K⟩,.bool G] C.drew fun e w'=>e=.returned (.bool (decide (pr<l)))/\Below C C w'):=(I.o C.drew).mono fun _ _ h=>⟨h.1,(Below.refl C.heap.size C).drew.trans h.2⟩
  have d1:C.drew.cell? ⟨A,op+p*3,none⟩=some (.int .i64 s):=U;have d2:C.drew.cell? ⟨A,op+p*3+1,none⟩=some (.string t):=V;have d3:C.drew.cell? ⟨A,op+p*3+2,none⟩=some (.int .i64 r):=X;have d4:C.drew.cell? ⟨A,op+i*3,none⟩=some (.int .i64 m):=P;have d5:C.drew.cell? ⟨A,op+i*3+1,none⟩=some (.string q):=Q;have d6:C.drew.cell? ⟨A,op+i*3+2,none⟩=some (.int .i64 K):=S;have Y:=hid d;clear j I k d M H;go_wp2_with fail
  go_region_held3 (fun w'=>w'.cell? ⟨A,op+p*3,none⟩=some (.int .i64 s)/\w'.cell? ⟨A,op+p*3+1,none⟩=some (.string t)/\w'.cell? ⟨A,op+p*3+2,none⟩=some (.int .i64 r)/\w'.cell? ⟨A,op+i*3,none⟩=some (.int .i64 m)/\w'.cell? ⟨A,op+i*3+1,none⟩=some (.string q)/\w'.cell? ⟨A,op+i*3+2,none⟩=some (.int .i64 K))
   (first|with_reducible exact⟨d1,d2,d3,d4,d5,d6⟩|with_reducible exact⟨U,V,X,P,Q,S⟩|with_reducible exact⟨(B.cell (p:=⟨A,_,none⟩) E).trans U,(B.cell (p:=⟨A,_,none⟩) E).trans V,(B.cell (p:=⟨A,_,none⟩) E).trans X,(B.cell (p:=⟨A,_,none⟩) E).trans P,(B.cell (p:=⟨A,_,none⟩) E).trans Q,(B.cell (p:=⟨A,_,none⟩) E).trans S⟩)
   ((go_at_call 187;refine L.o.mono ?_;rintro e w2⟨rfl,B⟩;rw[c.o]))
  all_goals
   obtain⟨A9,c9,e9,o9,b9⟩:=Aa.o;have Aj:Hid (NdR W R (.returned f) w2):=⟨A9,c9,by rw[HR.o];exact e9,by rw[HR.o];exact o9.kept fun g _ h=>B.block g h,q0e b9 Zl B⟩;clear B o9 b9;go_wp2;go_ret;exact Aj.o
def DcH(ds:List Td)(a:Option Addr)(cap:Nat)(F:Fo)(D:Tr):Prop:=∀i r,ds.drop i=F.N++r->∀W:World,Tds W a ds->v9p ds a cap i D W
def DcA(ds:List Td)(a:Option Addr)(cap:Nat):Fo->Prop
 | .nil=>True
 | .cons x k n=>DcH ds a cap (.cons x k n) (q0m x k.D)/\DcA ds a cap n
def j1p(w:World)(b:Nat)(o:Int)(t:ByteArray)(n:Int):Prop:=b<w.heap.size/\w.cell? ⟨b,0,none⟩=some (.int .i64 o)/\w.cell? ⟨b,1,none⟩=some (.string t)/\w.cell? ⟨b,2,none⟩=some (.int .i64 n)
theorem j1p.W{w w':World}{b:Nat}{o:Int}{t:ByteArray}{n:Int}(h:j1p w b o t n)(hb:Below w w w'):j1p w' b o t n:=by
 obtain⟨A,B,C,D⟩:=h
 have:=hb.size
 exact⟨by omega,((q1z hb).1 _ _ A).trans B,((q1z hb).1 _ _ A).trans C,((q1z hb).1 _ _ A).trans D⟩
theorem j1p.new(w:World)(o:Int)(t:ByteArray)(n:Int)(ty:TypeId):j1p (w.alloc (.cells #[.int .i64 o,.string t,.int .i64 n] ty)) w.heap.size o t n:=by
 have A:(w.alloc (.cells #[.int .i64 o,.string t,.int .i64 n] ty)).heap[w.heap.size]?=some (.cells #[.int .i64 o,.string t,.int .i64 n] ty (0,0)):=by
  show(w.heap.push _)[w.heap.size]?=_
  simp
 have B:∀k,(w.alloc (.cells #[.int .i64 o,.string t,.int .i64 n] ty)).cell? ⟨w,k,none⟩=(match (w.alloc (.cells #[.int .i64 o,.string t,.int .i64 n] ty)).heap[w.heap.size]? with
  | some (.cells c _ _)=>c[k]?
  | _=>none):=fun _=>rfl
 exact⟨by rw[World.size_alloc];omega,by rw[B,A];rfl,by rw[B,A];rfl,by rw[B,A];rfl⟩
structure q1f(W:World)(x:Td)(w:World):Prop where
 b:Below W W w
 n:j1p w W.heap.size x.op x.tx x.n
 bl:NdV w (.slice (some ⟨W.heap.size+1,0,none⟩) 1 1) [⟨2,⟨#[]⟩,0⟩]
 sf:NdV w (.slice (some ⟨W.heap.size+1+1,0,none⟩) 1 1) [⟨3,⟨#[]⟩,0⟩]
 gr:j1p w (W.heap.size+1+1+1) 8 ⟨#[]⟩ 0
 dp:j1p w (W.heap.size+1+1+1+1) 7 ⟨#[]⟩ 2
theorem q1f.W{W:World}{x:Td}{w w':World}(h:q1f W x w)(hb:Below w w w'):q1f W x w':=
 ⟨q0e h.b Zl hb,h.n.W hb,h.bl.W hb,h.sf.W hb,h.gr.W hb,h.dp.W hb⟩
abbrev dcW(W:World)(o:Int)(t:ByteArray)(n:Int):World:=((((W.alloc (.cells #[.int .i64 o,.string t,.int .i64 n] 71)).alloc (.cells #[.int .i64 2,.string ⟨#[]⟩,.int .i64 0] 177)).alloc (.cells #[.int .i64 3,.string ⟨#[]⟩,.int .i64 0] 177)).alloc (.cells #[.int .i64 8,.string ⟨#[]⟩,.int .i64 0] 177)).alloc (.cells #[.int .i64 7,.string ⟨#[]⟩,.int .i64 2] 177)
theorem k0o(W:World)(x:Td):q1f W x (dcW W x.op x.tx x.n):=by
 have s:∀(w:World)(O:Obj),Below w w (w.alloc O):=fun w O=>(Below.refl _ w).alloc Zl O
 have G:=((((j1p.new W x.op x.tx x.n 71).W (s _ (.cells #[.int .i64 2,.string ⟨#[]⟩,.int .i64 0] 177))).W (s _ (.cells #[.int .i64 3,.string ⟨#[]⟩,.int .i64 0] 177))).W (s _ (.cells #[.int .i64 8,.string ⟨#[]⟩,.int .i64 0] 177))).W (s _ (.cells #[.int .i64 7,.string ⟨#[]⟩,.int .i64 2] 177));generalize M:Obj.cells #[.int .i64 x.op,.string x.tx,.int .i64 x.n] 71=O at G;have I:(W.alloc O).heap.size=W.heap.size+1:=World.size_alloc _ _;have C:=(q5z.one (W.alloc O) ⟨2,⟨#[]⟩,0⟩).val;have J:((W.alloc O).alloc (.cells #[.int .i64 2,.string ⟨#[]⟩,.int .i64 0] 177)).heap.size=W.heap.size+1+1:=by rw[World.size_alloc,I]
 rw[I]at C;have A:=((C.W (s _ (.cells #[.int .i64 3,.string ⟨#[]⟩,.int .i64 0] 177))).W (s _ (.cells #[.int .i64 8,.string ⟨#[]⟩,.int .i64 0] 177))).W (s _ (.cells #[.int .i64 7,.string ⟨#[]⟩,.int .i64 2] 177));have H:=(q5z.one ((W.alloc O).alloc (.cells #[.int .i64 2,.string ⟨#[]⟩,.int .i64 0] 177)) ⟨3,⟨#[]⟩,0⟩).val;rw[J]at H;have K:(((W.alloc O).alloc (.cells #[.int .i64 2,.string ⟨#[]⟩,.int .i64 0] 177)).alloc (.cells #[.int .i64 3,.string ⟨#[]⟩,.int .i64 0] 177)).heap.size=W.heap.size+1+1+1:=by rw[World.size_alloc,J]
 have B:=(H.W (s _ (.cells #[.int .i64 8,.string ⟨#[]⟩,.int .i64 0] 177))).W (s _ (.cells #[.int .i64 7,.string ⟨#[]⟩,.int .i64 2] 177));have E:=j1p.new (((W.alloc O).alloc (.cells #[.int .i64 2,.string ⟨#[]⟩,.int .i64 0] 177)).alloc (.cells #[.int .i64 3,.string ⟨#[]⟩,.int .i64 0] 177)) 8 ⟨#[]⟩ 0 177;rw[K]at E;have N:((((W.alloc O).alloc (.cells #[.int .i64 2,.string ⟨#[]⟩,.int .i64 0] 177)).alloc (.cells #[.int .i64 3,.string ⟨#[]⟩,.int .i64 0] 177)).alloc (.cells #[.int .i64 8,.string ⟨#[]⟩,.int .i64 0] 177)).heap.size=W.heap.size+1+1+1+1:=by rw[World.size_alloc,K]
 have D:=j1p.new ((((W.alloc O).alloc (.cells #[.int .i64 2,.string ⟨#[]⟩,.int .i64 0] 177)).alloc (.cells #[.int .i64 3,.string ⟨#[]⟩,.int .i64 0] 177)).alloc (.cells #[.int .i64 8,.string ⟨#[]⟩,.int .i64 0] 177)) 7 ⟨#[]⟩ 2 177;rw[N]at D
 have L:Below W W (dcW W x.op x.tx x.n):=by
  refine(((((Below.refl _ W).alloc Zl _).alloc ?_ _).alloc ?_ _).alloc ?_ _).alloc ?_ _<;>simp only[World.size_alloc]<;>omega
 subst M;exact⟨L,G,A,B,E.W (s _ _),D⟩
theorem k6d{ds:List Td}{a:Option Addr}{cap:Nat}(hs:v9w ds){x:Td}{k n:Fo}(E:(Fo.cons x k n).ok)(hx:exN x)(h2:x.op=1\/x.op=2):DcH ds a cap (.cons x k n) (q0m x k.D):=by
 intro i r O W N;obtain⟨c,M,_,_,_⟩:=k9j O E;obtain⟨b,o,rfl,f,U,V,X⟩:=N i c;have g:=hs.l;have Z:(i:Int)<(ds.length:Int):=by omega
 rw[M]at U V X;have B:Hid (q1f W x (dcW W x.op x.tx x.n)):=k0o W x;obtain⟨j,J,Y⟩:=x;simp only at U V X B h2;rcases q6d hx with⟨A,Q,G,H,_⟩|⟨A,_,I,_⟩|⟨A,_⟩|⟨A,_⟩|⟨A,_⟩|⟨A,_⟩
 ·simp only at A G H;subst A;obtain⟨m,rfl⟩:∃m:Nat,Y=(m:Int):=⟨Y.toNat,by omega⟩;have L:Hid (q0m ⟨1,J,(m:Int)⟩ k.D=wdD (q7m m)):=by show _=_;simp[q0m]
  have P:m<=999999:=by omega
  clear M O E hx h2 Q G H N;unfold v9p;rw[L.o];have S:Hid (∀W:World,Calls prog 126 #[.int .i64 (m:Int)] W fun e w'=>e=.returned (.string (wbS (q7m m)))/\W=w'):=fun W=>v5n m P W
  show Calls _ _ _ _ fun e w'=>NdR W [⟨1,wbS (q7m m),0⟩] e w'
  generalize wbS (q7m m)=T at S⊢;go_in;go_wp2_with fail;refine(S.o _).mono ?_;rintro e h⟨rfl,rfl⟩;go_wp2_with fail;refine(q1q _ _).mono ?_;rintro e R C;have K:Hid (NdR W [⟨1,T,0⟩] e R):=C.from B.o.b;obtain⟨d,rfl,_,_⟩:=C.val;clear C;go_wp2;go_ret;exact K.o
 ·simp only at A I;subst A I;have L:Hid (q0m ⟨2,J,0⟩ k.D=wdD (btL J)):=by show _=_;simp[q0m]
  clear M O E hx h2 N;unfold v9p;rw[L.o];show Calls _ _ _ _ fun e w'=>NdR W [⟨1,J,0⟩] e w'
  go_in;go_wp2_with fail;refine(q1q _ _).mono ?_;rintro e R C;have K:Hid (NdR W [⟨1,J,0⟩] e R):=C.from B.o.b;obtain⟨d,rfl,_,_⟩:=C.val;clear C;go_wp2;go_ret;exact K.o
 ·simp only at A;omega
 ·simp only at A;omega
 ·simp only at A;omega
 ·simp only at A;omega
set_option maxHeartbeats 8000000
theorem z2y{ds:List Td}(hs:v9w ds){i:Nat}{F:Fo}{r:List Td}(h:ds.drop i=F.N++r):z3e F.D<=800:=by
 have B:=z5x F;have A:=congrArg List.length h;rw[List.length_drop,List.length_append]at A
 have:=hs.l
 omega
abbrev Six(W w:World):Prop:=w.cell? ⟨W.heap.size+1+1+1,0,none⟩=some (.int .i64 8)/\w.cell? ⟨W.heap.size+1+1+1,1,none⟩=some (.string ⟨#[]⟩)/\w.cell? ⟨W.heap.size+1+1+1,2,none⟩=some (.int .i64 0)/\w.cell? ⟨W.heap.size+1+1+1+1,0,none⟩=some (.int .i64 7)/\w.cell? ⟨W.heap.size+1+1+1+1,1,none⟩=some (.string ⟨#[]⟩)/\w.cell? ⟨W.heap.size+1+1+1+1,2,none⟩=some (.int .i64 2)
theorem q1f.six{W:World}{x:Td}{w:World}(h:q1f W x w):Six W w:=⟨h.gr.2.1,h.gr.2.2.1,h.gr.2.2.2,h.dp.2.1,h.dp.2.2.1,h.dp.2.2.2⟩
theorem j3r{ds:List Td}{a:Option Addr}{cap:Nat}(hs:v9w ds){x:Td}{k n:Fo}(c:(Fo.cons x k n).ok)(Ay:(Fo.cons x k n).exs)(h2:x.op=5\/x.op=6)(hk:DcA ds a cap k):DcH ds a cap (.cons x k n) (q0m x k.D):=by
 intro i r hi W v;obtain⟨hp,e1,e2,_,_⟩:=k9j hi c
 have Az:kdT x=2:=by
  unfold kdT;rcases h2 with h|h<;>rw[h]<;>rfl
 have A0:k.len=2:=c.1.trans Az
 obtain⟨C,M,E,O,rfl⟩:∃C M E O,k=.cons C M (.cons E O .nil):=by
  match k,A0 with
  | .cons C M (.cons E O .nil),_=>exact⟨C,M,E,O,rfl⟩
 have Aw:(Fo.cons C M (.cons E O .nil)).D=[(C,q0m C M.D),(E,q0m E O.D)]:=rfl;have hz:=z2y hs e2;rw[Aw,q2l,q2l]at hz;obtain⟨A3,ea,_,Av,q⟩:=k9j e2 c.2.1;obtain⟨A4,eb,_,_,_⟩:=k9j q c.2.1.2.2;generalize hj:i+1+1+M.N.length=j at Av q A4 eb;have HN:Hid (Tds W a ds):=v;have hl:=hs.l;have A7:(q0m C M.D).N.length<=800:=by simp only at hz;omega
 have A8:(q0m E O.D).N.length<=800:=by simp only at hz;omega
 have Q:Hid (∀W':World,Below W W W'->Calls prog 127 #[.slice a ds.length cap,.int .i64 (i:Int),.int .i64 ((i:Int)+1),.bool false] W' fun e w'=>NdR W' (inD (lvl x.op false) C (q0m C M.D)).N e w'):=fun W' w=>by
  have h:=z6h W' (v.W w) hp A3 (by rw[e1];exact h2) false (q0m C M.D) (by omega) (hk.1 (i+1) _ e2 W' (v.W w)) (cap:=cap);rw[e1,ea,show((i+1:Nat):Int)=(i:Int)+1 by omega]at h;exact h
 have m:Hid (∀W':World,Below W W W'->Calls prog 122 #[.slice a ds.length cap,.int .i64 ((i:Int)+1)] W' fun e w'=>e=.returned (.int .i64 (j:Int))/\Below W' W' w'):=fun W' w=>by
  have h:=k6i (cap:=cap) hs Av A3 W' (v.W w);rw[show((i+1:Nat):Int)=(i:Int)+1 by omega]at h;exact h
 have R:Hid (∀W':World,Below W W W'->Calls prog 127 #[.slice a ds.length cap,.int .i64 (i:Int),.int .i64 (j:Int),.bool true] W' fun e w'=>NdR W' (inD (lvl x.op true) E (q0m E O.D)).N e w'):=fun W' w=>by
  have h:=z6h W' (v.W w) hp A4 (by rw[e1];exact h2) true (q0m E O.D) (by omega) (hk.2.1 j _ q W' (v.W w)) (cap:=cap);rw[e1,eb]at h;exact h
 have A1:=k9v (lvl x.op false) C (q0m C M.D);have A2:=k9v (lvl x.op true) E (q0m E O.D)
 have Ax:Hid ((q0m x [(C,q0m C M.D),(E,q0m E O.D)]).N=⟨8,⟨#[]⟩,0⟩::(⟨6,⟨#[]⟩,0⟩::((inD (lvl x.op false) C (q0m C M.D)).N++(⟨7,⟨#[]⟩,2⟩::(⟨6,⟨#[]⟩,0⟩::([⟨2,⟨#[]⟩,0⟩]++(⟨6,⟨#[]⟩,0⟩::([⟨1,(if x.op=5 then⟨#[43,32]⟩else⟨#[42,32]⟩),0⟩]++(inD (lvl x.op true) E (q0m E O.D)).N)))))))):=by
  show _=_;rcases h2 with h|h
  ·rw[if_pos h];simp[q0m,h,tw2,lvl,Tr.N];rfl
  ·rw[if_neg (by omega)];simp[q0m,h,tw2,lvl,Tr.N];rfl
 obtain⟨b,o,rfl,w,c1,c2,c3⟩:=v i hp;have A6:(i:Int)<(ds.length:Int):=by omega
 rw[e1]at c1 c2 c3;have X:Hid (q1f W x (dcW W x.op x.tx x.n)):=k0o W x;unfold v9p;rw[Aw,Ax.o]
 generalize(inD (lvl x.op false) C (q0m C M.D)).N=ls at Q A1⊢
 generalize(inD (lvl x.op true) E (q0m E O.D)).N=rs at R A2⊢
 have hx:=q6d (Ay x (by simp[Fo.N]));clear v e1 e2 hi c Ay hk hj Aw hz Av q ea eb Ax Az A0;obtain⟨xo,xt,xn⟩:=x;simp only at c1 c2 c3 X h2 hx A1 A2⊢
 have A5:xt=⟨#[]⟩/\xn=0:=by
  rcases hx with⟨ho,_⟩|⟨ho,_⟩|⟨ho,_⟩|⟨ho,_⟩|⟨_,s,t,_⟩|⟨_,s,t,_⟩
  ·omega
  ·omega
  ·omega
  ·omega
  ·exact⟨s,t⟩
  ·exact⟨s,t⟩
 obtain⟨rfl,rfl⟩:=A5;clear hx;rcases h2 with rfl|rfl
 ·simp only[if_true];go_in;go_wp2_with fail;have A:=(show Hid (q1f W ⟨5,⟨#[]⟩,0⟩ (dcW W 5 ⟨#[]⟩ 0))from X.o);clear X;refine(Q.o _ A.o.b).mono ?_;rintro e w1 s;obtain⟨L,rfl,n1,b1⟩:=s.val;have G:Hid (q1f W ⟨5,⟨#[]⟩,0⟩ w1):=A.o.W b1;have Y:Hid (NdV w1 L ls):=n1;clear s n1 b1 A;go_wp2_with fail;refine(m.o _ G.o.b).mono ?_;rintro e w2⟨rfl,b2⟩;have H:Hid (q1f W ⟨5,⟨#[]⟩,0⟩ w2):=G.o.W b2;have Z:Hid (NdV w2 L ls):=Y.o.W b2;clear b2 G Y;go_wp2_with fail;refine(R.o _ H.o.b).mono ?_;rintro e B t;obtain⟨v3,rfl,n3,b3⟩:=t.val;have I:Hid (q1f W ⟨5,⟨#[]⟩,0⟩ B):=H.o.W b3;have y:Hid (NdV B L ls):=Z.o.W b3;have Ad:Hid (NdV B v3 rs):=n3;have An:Hid (Six W B):=I.o.six;have Au:Hid (Six W B.drew):=I.o.six;have Ag:Hid (Below B B B.drew):= Zb.drew;clear t n3 b3 H Z Q R m HN;go_wp2_with fail
  go_region_held3 (fun w'=>Six W w') (first|with_reducible exact Au.o|with_reducible exact An.o|with_reducible exact Ao.o|with_reducible exact Ap.o|with_reducible exact Aq.o|with_reducible exact Ar.o|with_reducible exact As.o|with_reducible exact At.o)
   (first
     | (go_at_call 128;refine((q3g ⟨8,⟨#[]⟩,0⟩ (u) Aj.o (by simp<;>omega))).mono ?_;rintro e w9 h9;have Al:Hid (NdR W (⟨8,⟨#[]⟩,0⟩::(⟨6,⟨#[]⟩,0⟩::(ls++(⟨7,⟨#[]⟩,2⟩::(⟨6,⟨#[]⟩,0⟩::([⟨2,⟨#[]⟩,0⟩]++(⟨6,⟨#[]⟩,0⟩::([⟨1,⟨#[43,32]⟩,0⟩]++rs)))))))) e w9):=h9.from K.o.b;obtain⟨v9,rfl,n9,b9⟩:=h9.val;have Ak:Hid (q1f W ⟨5,⟨#[]⟩,0⟩ w9):=K.o.W b9;have At:Hid (Six W w9):=Ak.o.six;clear h9 n9 b9)
     | (go_at_call 129;refine((q1a (g) Ac.o Ai.o (by simp<;>omega))).mono ?_;rintro e u h8;obtain⟨v8,rfl,n8,b8⟩:=h8.val;have K:Hid (q1f W ⟨5,⟨#[]⟩,0⟩ u):=V.o.W b8;have As:Hid (Six W u):=K.o.six;have Aj:Hid (NdV u v8 (⟨6,⟨#[]⟩,0⟩::(ls++(⟨7,⟨#[]⟩,2⟩::(⟨6,⟨#[]⟩,0⟩::([⟨2,⟨#[]⟩,0⟩]++(⟨6,⟨#[]⟩,0⟩::([⟨1,⟨#[43,32]⟩,0⟩]++rs)))))))):=n8;clear h8 n8 b8)
     | (go_at_call 128;refine((q3g ⟨7,⟨#[]⟩,2⟩ (f) Ah.o (by simp<;>omega))).mono ?_;rintro e g h7;obtain⟨v7,rfl,n7,b7⟩:=h7.val;have V:Hid (q1f W ⟨5,⟨#[]⟩,0⟩ g):=U.o.W b7;have Ar:Hid (Six W g):=V.o.six;have Ac:Hid (NdV g L (ls)):=Ab.o.W b7;have Ai:Hid (NdV g v7 (⟨7,⟨#[]⟩,2⟩::(⟨6,⟨#[]⟩,0⟩::([⟨2,⟨#[]⟩,0⟩]++(⟨6,⟨#[]⟩,0⟩::([⟨1,⟨#[43,32]⟩,0⟩]++rs)))))):=n7;clear h7 n7 b7)
     | (go_at_call 129;refine((q1a (d) J.o.bl Af.o (by simp<;>omega))).mono ?_;rintro e f h6;obtain⟨v6,rfl,n6,b6⟩:=h6.val;have U:Hid (q1f W ⟨5,⟨#[]⟩,0⟩ f):=J.o.W b6;have Aq:Hid (Six W f):=U.o.six;have Ab:Hid (NdV f L (ls)):=Aa.o.W b6;have Ah:Hid (NdV f v6 (⟨6,⟨#[]⟩,0⟩::([⟨2,⟨#[]⟩,0⟩]++(⟨6,⟨#[]⟩,0⟩::([⟨1,⟨#[43,32]⟩,0⟩]++rs))))):=n6;clear h6 n6 b6)
     | (go_at_call 129;refine((q1a (P) Am.o Ae.o (by simp<;>omega))).mono ?_;rintro e d h5;obtain⟨v5,rfl,n5,b5⟩:=h5.val;have J:Hid (q1f W ⟨5,⟨#[]⟩,0⟩ d):=S.o.W b5;have Ap:Hid (Six W d):=J.o.six;have Aa:Hid (NdV d L (ls)):=z.o.W b5;have Af:Hid (NdV d v5 (⟨6,⟨#[]⟩,0⟩::([⟨1,⟨#[43,32]⟩,0⟩]++rs))):=n5;clear h5 n5 b5)
     | (go_at_call 125;refine((q1q _ (B.drew)).mono fun _ _ h=>h.from Ag.o).mono ?_;rintro e P h4;obtain⟨v4,rfl,n4,p⟩:=h4.val;have S:Hid (q1f W ⟨5,⟨#[]⟩,0⟩ P):=I.o.W p;have Ao:Hid (Six W P):=S.o.six;have z:Hid (NdV P L (ls)):=y.o.W p;have Ae:Hid (NdV P v3 (rs)):=Ad.o.W p;have Am:Hid (NdV P v4 ([⟨1,⟨#[43,32]⟩,0⟩])):=n4;clear h4 n4 p))
  all_goals
   go_wp2;go_ret;exact Al.o
 ·simp only[show ¬(6:Int)=5 by decide,if_false];go_in;go_wp2_with fail;have A:=(show Hid (q1f W ⟨6,⟨#[]⟩,0⟩ (dcW W 6 ⟨#[]⟩ 0))from X.o);clear X;refine(Q.o _ A.o.b).mono ?_;rintro e w1 s;obtain⟨L,rfl,n1,b1⟩:=s.val;have G:Hid (q1f W ⟨6,⟨#[]⟩,0⟩ w1):=A.o.W b1;have Y:Hid (NdV w1 L ls):=n1;clear s n1 b1 A;go_wp2_with fail;refine(m.o _ G.o.b).mono ?_;rintro e w2⟨rfl,b2⟩;have H:Hid (q1f W ⟨6,⟨#[]⟩,0⟩ w2):=G.o.W b2;have Z:Hid (NdV w2 L ls):=Y.o.W b2;clear b2 G Y;go_wp2_with fail;refine(R.o _ H.o.b).mono ?_;rintro e B t;obtain⟨v3,rfl,n3,b3⟩:=t.val;have I:Hid (q1f W ⟨6,⟨#[]⟩,0⟩ B):=H.o.W b3;have y:Hid (NdV B L ls):=Z.o.W b3;have Ad:Hid (NdV B v3 rs):=n3;have An:Hid (Six W B):=I.o.six;have Au:Hid (Six W B.drew):=I.o.six;have Ag:Hid (Below B B B.drew):= Zb.drew;clear t n3 b3 H Z Q R m HN;go_wp2_with fail
  go_region_held3 (fun w'=>Six W w') (first|with_reducible exact Au.o|with_reducible exact An.o|with_reducible exact Ao.o|with_reducible exact Ap.o|with_reducible exact Aq.o|with_reducible exact Ar.o|with_reducible exact As.o|with_reducible exact At.o)
   (first
     | (go_at_call 128;refine((q3g ⟨8,⟨#[]⟩,0⟩ (u) Aj.o (by simp<;>omega))).mono ?_;rintro e w9 h9;have Al:Hid (NdR W (⟨8,⟨#[]⟩,0⟩::(⟨6,⟨#[]⟩,0⟩::(ls++(⟨7,⟨#[]⟩,2⟩::(⟨6,⟨#[]⟩,0⟩::([⟨2,⟨#[]⟩,0⟩]++(⟨6,⟨#[]⟩,0⟩::([⟨1,⟨#[42,32]⟩,0⟩]++rs)))))))) e w9):=h9.from K.o.b;obtain⟨v9,rfl,n9,b9⟩:=h9.val;have Ak:Hid (q1f W ⟨6,⟨#[]⟩,0⟩ w9):=K.o.W b9;have At:Hid (Six W w9):=Ak.o.six;clear h9 n9 b9)
     | (go_at_call 129;refine((q1a (g) Ac.o Ai.o (by simp<;>omega))).mono ?_;rintro e u h8;obtain⟨v8,rfl,n8,b8⟩:=h8.val;have K:Hid (q1f W ⟨6,⟨#[]⟩,0⟩ u):=V.o.W b8;have As:Hid (Six W u):=K.o.six;have Aj:Hid (NdV u v8 (⟨6,⟨#[]⟩,0⟩::(ls++(⟨7,⟨#[]⟩,2⟩::(⟨6,⟨#[]⟩,0⟩::([⟨2,⟨#[]⟩,0⟩]++(⟨6,⟨#[]⟩,0⟩::([⟨1,⟨#[42,32]⟩,0⟩]++rs)))))))):=n8;clear h8 n8 b8)
     | (go_at_call 128;refine((q3g ⟨7,⟨#[]⟩,2⟩ (f) Ah.o (by simp<;>omega))).mono ?_;rintro e g h7;obtain⟨v7,rfl,n7,b7⟩:=h7.val;have V:Hid (q1f W ⟨6,⟨#[]⟩,0⟩ g):=U.o.W b7;have Ar:Hid (Six W g):=V.o.six;have Ac:Hid (NdV g L (ls)):=Ab.o.W b7;have Ai:Hid (NdV g v7 (⟨7,⟨#[]⟩,2⟩::(⟨6,⟨#[]⟩,0⟩::([⟨2,⟨#[]⟩,0⟩]++(⟨6,⟨#[]⟩,0⟩::([⟨1,⟨#[42,32]⟩,0⟩]++rs)))))):=n7;clear h7 n7 b7)
     | (go_at_call 129;refine((q1a (d) J.o.bl Af.o (by simp<;>omega))).mono ?_;rintro e f h6;obtain⟨v6,rfl,n6,b6⟩:=h6.val;have U:Hid (q1f W ⟨6,⟨#[]⟩,0⟩ f):=J.o.W b6;have Aq:Hid (Six W f):=U.o.six;have Ab:Hid (NdV f L (ls)):=Aa.o.W b6;have Ah:Hid (NdV f v6 (⟨6,⟨#[]⟩,0⟩::([⟨2,⟨#[]⟩,0⟩]++(⟨6,⟨#[]⟩,0⟩::([⟨1,⟨#[42,32]⟩,0⟩]++rs))))):=n6;clear h6 n6 b6)
     | (go_at_call 129;refine((q1a (P) Am.o Ae.o (by simp<;>omega))).mono ?_;rintro e d h5;obtain⟨v5,rfl,n5,b5⟩:=h5.val;have J:Hid (q1f W ⟨6,⟨#[]⟩,0⟩ d):=S.o.W b5;have Ap:Hid (Six W d):=J.o.six;have Aa:Hid (NdV d L (ls)):=z.o.W b5;have Af:Hid (NdV d v5 (⟨6,⟨#[]⟩,0⟩::([⟨1,⟨#[42,32]⟩,0⟩]++rs))):=n5;clear h5 n5 b5)
     | (go_at_call 125;refine((q1q _ (B.drew)).mono fun _ _ h=>h.from Ag.o).mono ?_;rintro e P h4;obtain⟨v4,rfl,n4,p⟩:=h4.val;have S:Hid (q1f W ⟨6,⟨#[]⟩,0⟩ P):=I.o.W p;have Ao:Hid (Six W P):=S.o.six;have z:Hid (NdV P L (ls)):=y.o.W p;have Ae:Hid (NdV P v3 (rs)):=Ad.o.W p;have Am:Hid (NdV P v4 ([⟨1,⟨#[42,32]⟩,0⟩])):=n4;clear h4 n4 p))
  all_goals
   go_wp2;go_ret;exact Al.o
theorem k0v:∀n:Fo,n.len<=n.N.length
 | .nil=>Nat.le_refl _
 | .cons x k m=>by
  have:=k0v m
  simp only[Fo.len,Fo.N,List.length_cons,List.length_append];omega
theorem z4d{ds:List Td}{a:Option Addr}{cap:Nat}(hs:v9w ds):∀(K:Fo)(pos:Nat)(r:List Td),ds.drop pos=K.N++r->K.ok->DcA ds a cap K->K.len≠0->∀W:World,Tds W a ds->
  Calls prog 130 #[.slice a ds.length cap,.int .i64 (pos:Int),.int .i64 (K.len:Int)] W fun e w'=>NdR W (kdD K.D).N e w'
 | .nil,_,_,_,_,_,h0,_,_=>absurd rfl h0
 | .cons y ky .nil,pos,r,hd,hok,hk,_,W,hN=>by
  have HD:Hid (Calls prog 79 #[.slice a ds.length cap,.int .i64 (pos:Int)] W fun e w'=>NdR W (q0m y ky.D).N e w'):=hk.1 pos r hd W hN;show Calls prog 130 #[.slice a ds.length cap,.int .i64 (pos:Int),.int .i64 1] W fun e w'=>NdR W (q0m y ky.D).N e w'
  generalize(q0m y ky.D).N=xs at HD⊢
  clear hd hok hk hN;go_in;go_wp2_with fail;refine HD.o.mono ?_;rintro e w1 h1;have HR:Hid (NdR W xs e w1):=h1;obtain⟨v1,rfl,_,_⟩:=h1.val;clear h1;go_wp2;go_ret;exact HR.o
 | .cons y ky (.cons z kz n),pos,r,hd,hok,hk,_,W,hN=>by
  have hz:=z2y hs hd;obtain⟨hp,ey,_,ene,edn⟩:=k9j hd hok;generalize hj:pos+1+ky.N.length=j at ene edn;have HD:Hid (∀W':World,Below W W W'->Calls prog 79 #[.slice a ds.length cap,.int .i64 (pos:Int)] W' fun e w'=>NdR W' (q0m y ky.D).N e w'):=fun W' hb=>hk.1 pos r hd W' (hN.W hb)
  have HEN:Hid (∀W':World,Below W W W'->Calls prog 122 #[.slice a ds.length cap,.int .i64 (pos:Int)] W' fun e w'=>e=.returned (.int .i64 (j:Int))/\Below W' W' w'):=fun W' hb=>k6i (cap:=cap) hs ene hp W' (hN.W hb)
  have HKS:Hid (∀W':World,Below W W W'->Calls prog 130 #[.slice a ds.length cap,.int .i64 (j:Int),.int .i64 ((n.len:Int)+1)] W' fun e w'=>NdR W' (kdD (Fo.cons z kz n).D).N e w'):=fun W' hb=>by
   have h:=z4d hs (.cons z kz n) j r edn hok.2.2 hk.2 (by simp[Fo.len]) W' (hN.W hb);have e:(((Fo.cons z kz n).len:Nat):Int)=(n.len:Int)+1:=by simp[Fo.len]
   rw[e]at h;exact h
  have Aa:n.len<=100:=by
   have i:=congrArg List.length hd;rw[List.length_drop,List.length_append]at i;have h7:n.N.length<=(Fo.cons y ky (.cons z kz n)).N.length:=by simp only[Fo.N,List.length_cons,List.length_append];omega
   have k:=k0v n
   have:=hs.l
   omega
  have P:(q0m y ky.D).N.length<=800/\(kdD (Fo.cons z kz n).D).N.length<=801:=by
   have h1:=k9w (Fo.cons z kz n).D;have x:z3e (Fo.cons y ky (.cons z kz n)).D=(q0m y ky.D).N.length+5+z3e (Fo.cons z kz n).D:=by rw[Fo.D,q2l]
   omega
  have V:Hid ((kdD (Fo.cons y ky (.cons z kz n)).D).N=⟨6,⟨#[]⟩,0⟩::((⟨6,⟨#[]⟩,0⟩::((q0m y ky.D).N++[⟨1,⟨#[44]⟩,0⟩]))++(⟨6,⟨#[]⟩,0⟩::([⟨2,⟨#[]⟩,0⟩]++(kdD (Fo.cons z kz n).D).N)))):=rfl;have H:(((Fo.cons y ky (.cons z kz n)).len:Nat):Int)=(n.len:Int)+1+1:=by simp[Fo.len]
  rw[V.o,H]
  generalize(q0m y ky.D).N=xs at HD P⊢
  generalize(kdD (Fo.cons z kz n).D).N=ks at HKS P⊢
  generalize n.len=m at HKS Aa⊢;have Ac:((m:Int)+1+1==1)=false:=beq_false_of_ne (by omega);have Ad:¬(m:Int)+1+1=1:=by omega
  obtain⟨Ae,Ab⟩:=P;clear hd hok hk hN hz ey ene edn hj V H;go_in;go_wp2_with fail;refine(HD.o _ Zb).mono ?_;rintro e w1 h1;obtain⟨v1,rfl,n1,b1⟩:=h1.val;have c:NdV (w1.alloc (.cells #[.int .i64 2,.string ⟨#[]⟩,.int .i64 0] 177)) (.slice (some ⟨w1,0,none⟩) 1 1) [⟨2,⟨#[]⟩,0⟩]:=(q5z.one w1 ⟨2,⟨#[]⟩,0⟩).val;have O:Below w1 w1 (w1.alloc (.cells #[.int .i64 2,.string ⟨#[]⟩,.int .i64 0] 177)):= Zb.alloc Zl _;have A:=(show Hid (NdV (w1.alloc (.cells #[.int .i64 2,.string ⟨#[]⟩,.int .i64 0] 177)) (.slice (some ⟨w1,0,none⟩) 1 1) [⟨2,⟨#[]⟩,0⟩])from c);have M:Hid (NdV (w1.alloc (.cells #[.int .i64 2,.string ⟨#[]⟩,.int .i64 0] 177)) v1 xs):=n1.W O;have I:Hid (Below W W (w1.alloc (.cells #[.int .i64 2,.string ⟨#[]⟩,.int .i64 0] 177))):=q0e b1 Zl O;clear h1 n1 b1 c O;go_wp2_with fail;generalize w1.alloc (.cells #[.int .i64 2,.string ⟨#[]⟩,.int .i64 0] 177)=w2 at A M I⊢;refine(q1q _ _).mono ?_;rintro e p h3;obtain⟨v3,rfl,n3,d⟩:=h3.val;have Q:Hid (Below W W p):=q0e I.o Zl d;have X:Hid (NdV p v1 xs):=M.o.W d;have S:Hid (NdV p v3 [⟨1,⟨#[44]⟩,0⟩]):=n3;have B:Hid (NdV p (.slice (some ⟨w1,0,none⟩) 1 1) [⟨2,⟨#[]⟩,0⟩]):=A.o.W d;clear h3 n3 d I M A;go_wp2_with fail;refine(q1a _ X.o S.o (by simp;omega)).mono ?_;rintro e w4 x;obtain⟨o,rfl,n4,v⟩:=x.val;have J:Hid (Below W W w4):=q0e Q.o Zl v;have Y:Hid (NdV w4 o (⟨6,⟨#[]⟩,0⟩::(xs++[⟨1,⟨#[44]⟩,0⟩]))):=n4;have C:Hid (NdV w4 (.slice (some ⟨w1,0,none⟩) 1 1) [⟨2,⟨#[]⟩,0⟩]):=B.o.W v;clear x n4 v Q X S B;go_wp2_with fail;refine(HEN.o _ J.o).mono ?_;rintro e w5⟨rfl,f⟩;have L:Hid (Below W W w5):=q0e J.o Zl f;have Z:Hid (NdV w5 o (⟨6,⟨#[]⟩,0⟩::(xs++[⟨1,⟨#[44]⟩,0⟩]))):=Y.o.W f;have E:Hid (NdV w5 (.slice (some ⟨w1,0,none⟩) 1 1) [⟨2,⟨#[]⟩,0⟩]):=C.o.W f;clear f J Y C;go_wp2_with fail;refine(HKS.o _ L.o).mono ?_;rintro e q i;obtain⟨v6,rfl,n6,g⟩:=i.val;have R:Hid (Below W W q):=q0e L.o Zl g;have b:Hid (NdV q o (⟨6,⟨#[]⟩,0⟩::(xs++[⟨1,⟨#[44]⟩,0⟩]))):=Z.o.W g;have U:Hid (NdV q v6 ks):=n6;have G:Hid (NdV q (.slice (some ⟨w1,0,none⟩) 1 1) [⟨2,⟨#[]⟩,0⟩]):=E.o.W g;clear i n6 g L Z E;go_wp2_with fail;refine(q1a _ G.o U.o (by simp;omega)).mono ?_;rintro e w7 h7;obtain⟨v7,rfl,n7,w⟩:=h7.val;have s:Hid (Below W W w7):=q0e R.o Zl w;have u:Hid (NdV w7 o (⟨6,⟨#[]⟩,0⟩::(xs++[⟨1,⟨#[44]⟩,0⟩]))):=b.o.W w;have t:Hid (NdV w7 v7 (⟨6,⟨#[]⟩,0⟩::([⟨2,⟨#[]⟩,0⟩]++ks))):=n7;clear h7 n7 w R b U G;go_wp2_with fail;refine(q1a _ u.o t.o (by simp;omega)).mono ?_;rintro e w8 k;have HR:Hid (NdR W (⟨6,⟨#[]⟩,0⟩::((⟨6,⟨#[]⟩,0⟩::(xs++[⟨1,⟨#[44]⟩,0⟩]))++(⟨6,⟨#[]⟩,0⟩::([⟨2,⟨#[]⟩,0⟩]++ks)))) e w8):=k.from s.o;obtain⟨v8,rfl,_,_⟩:=k.val;clear k;go_wp2;go_ret;exact HR.o
end Go.Proofs.YthcpdohdppkmkaaGreatDoor
