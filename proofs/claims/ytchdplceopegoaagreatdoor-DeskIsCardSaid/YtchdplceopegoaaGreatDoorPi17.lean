import Derived.Test.YtchdplceopegoaaGreatDoorPi12
import Derived.Deep.RegionHeld3
open Go.Proofs.Tryz
open List (append_nil length length_append)
namespace Go.Proofs.YtchdplceopegoaaGreatDoor
open Go Go.RowKit
set_option maxRecDepth 100000
set_option maxHeartbeats 2000000
abbrev z8m(ds:List Td)(a:Option Addr)(cap i:Nat)(tx:List UInt8)(W:World):Prop:=
 Calls prog 29 #[.slice a ds.length cap,.int .i64 (i:Int)] W fun e w'=>e=.returned (.string (wbS tx))/\Below W W w'
theorem z5a{ds:List Td}{a:Option Addr}{cap p i:Nat}(W:World)(hN:Tds W a ds)(hp:p<ds.length)(hi:i<ds.length)(Aa:ds[p].op=5\/ds[p].op=6)(D:Bool)(t:Tn)(hx:t.x=ds[i])(hz:t.tx.length<=1000)(hT:z8m ds a cap i t.tx W):
  Cb 46 #[.slice a ds.length cap,.int .i64 (p:Int),.int .i64 (i:Int),.bool D] W (.string (wbS (brx (lvl ds[p].op D) t))):=by
 unfold Cb;have HN:Hid (Tds W a ds):=hN;have HT:Hid (z8m ds a cap i t.tx W):=hT
 have G:Hid (∀W':World,Cb 73 #[tdV ds[p],tdV ds[i],.bool D] W' (.bool (decide (prc t.x<lvl ds[p].op D)))):=fun W'=>by
  have:=z7t ds[p] ds[i] D W'
  rw[j5k _ _ _ Aa]at this;rw[hx];exact this
 have Af:(p:Int)<(ds.length:Int):=by omega
 have Ae:(i:Int)<(ds.length:Int):=by omega
 have Ab:(wbS t.tx).size<=1000:=by rw[q1m];exact hz
 have f:Hid (prc t.x<lvl ds[p].op D->(⟨#[40]⟩:ByteArray)++wbS t.tx++⟨#[41]⟩=wbS (brx (lvl ds[p].op D) t)):=fun h=>by
  rw[brx,if_pos h];have m:(⟨#[40]⟩:ByteArray)=wbS [40]:=rfl;have j:(⟨#[41]⟩:ByteArray)=wbS [41]:=rfl;rw[m,j,q0l,q0l];rfl
 have K:Hid (¬prc t.x<lvl ds[p].op D->wbS t.tx=wbS (brx (lvl ds[p].op D) t)):=fun h=>by rw[brx,if_neg h]
 have k:Hid (∀W',Below W W W'->∃b o,a=some ⟨b,o,none⟩/\b<W'.heap.size/\(W'.cell? ⟨b,o+p*3,none⟩=some (.int .i64 ds[p].op)/\W'.cell? ⟨b,o+p*3+1,none⟩=some (.string ds[p].tx)/\W'.cell? ⟨b,o+p*3+2,none⟩=some (.int .i64 ds[p].n))/\(W'.cell? ⟨b,o+i*3,none⟩=some (.int .i64 ds[i].op)/\W'.cell? ⟨b,o+i*3+1,none⟩=some (.string ds[i].tx)/\W'.cell? ⟨b,o+i*3+2,none⟩=some (.int .i64 ds[i].n))):=fun W' U=>by
  obtain⟨A,op,m,z,O,P,Q⟩:=(HN.o.W U) p hp;obtain⟨bi,oi,j,Ad,L,M,N⟩:=(HN.o.W U) i hi;rw[m]at j;simp only[Option.some.injEq,Addr.mk.injEq,and_true]at j;obtain⟨rfl,rfl⟩:=j;exact⟨A,op,m,z,⟨O,P,Q⟩,⟨L,M,N⟩⟩
 generalize wbS (brx (lvl ds[p].op D) t)=R at f K⊢;generalize Ag:lvl ds[p].op D=l at f K G;generalize Ac:wbS t.tx=T at f K Ab;have d:Hid (wbS t.tx=T):=Ac;generalize ds[p]=xp at k G;generalize ds[i]=xi at k G;generalize prc t.x=pr at f K G;obtain⟨Z,c,Y⟩:=xp;obtain⟨V,X,H⟩:=xi;by_cases U:pr<l
 ·have q:=(show Hid (_=_)from f.o U);have S:Hid (decide (pr<l)=true):=decide_eq_true U;go_in;go_wp2_with fail;refine HT.o.mono ?_;rintro e E⟨rfl,g⟩;rw[d.o];obtain⟨A,op,rfl,C,⟨O,P,Q⟩,L,M,N⟩:=k.o E g;have J:Hid (Cp 73 #[tdV ⟨Z,c,Y⟩,tdV ⟨V,X,H⟩,.bool D] E.drew fun e w'=>e=.returned (.bool (decide (pr<l)))/\Below E E w'):=(G.o E.drew).mono fun _ _ h=>⟨h.1,(Below.refl E.heap.size E).drew.trans h.2⟩
  have r:E.drew.cell? ⟨A,op+p*3,none⟩=some (.int .i64 Z):=O;have s:E.drew.cell? ⟨A,op+p*3+1,none⟩=some (.string c):=P;have u:E.drew.cell? ⟨A,op+p*3+2,none⟩=some (.int .i64 Y):=Q;have v:E.drew.cell? ⟨A,op+i*3,none⟩=some (.int .i64 V):=L;have w:E.drew.cell? ⟨A,op+i*3+1,none⟩=some (.string X):=M;have y:E.drew.cell? ⟨A,op+i*3+2,none⟩=some (.int .i64 H):=N;have I:=hid g;go_wp2_with fail
  go_region_held3 (fun w'=>w'.cell? ⟨A,op+p*3,none⟩=some (.int .i64 Z)/\w'.cell? ⟨A,op+p*3+1,none⟩=some (.string c)/\w'.cell? ⟨A,op+p*3+2,none⟩=some (.int .i64 Y)/\w'.cell? ⟨A,op+i*3,none⟩=some (.int .i64 V)/\w'.cell? ⟨A,op+i*3+1,none⟩=some (.string X)/\w'.cell? ⟨A,op+i*3+2,none⟩=some (.int .i64 H))
   (first|with_reducible exact⟨r,s,u,v,w,y⟩|with_reducible exact⟨O,P,Q,L,M,N⟩|with_reducible exact⟨(B.cell (p:=⟨A,_,none⟩) C).trans O,(B.cell (p:=⟨A,_,none⟩) C).trans P,(B.cell (p:=⟨A,_,none⟩) C).trans Q,(B.cell (p:=⟨A,_,none⟩) C).trans L,(B.cell (p:=⟨A,_,none⟩) C).trans M,(B.cell (p:=⟨A,_,none⟩) C).trans N⟩)
   ((go_at_call 73;refine J.o.mono ?_;rintro e w2⟨rfl,B⟩;rw[S.o]))
  all_goals
   go_wp2;go_ret;exact⟨by rw[<-q.o];rfl,q0e I.o Zl B⟩
 ·have q:=(show Hid (_=_)from K.o U);have S:Hid (decide (pr<l)=false):=decide_eq_false U;go_in;go_wp2_with fail;refine HT.o.mono ?_;rintro e E⟨rfl,g⟩;rw[d.o];obtain⟨A,op,rfl,C,⟨O,P,Q⟩,L,M,N⟩:=k.o E g;have J:Hid (Cp 73 #[tdV ⟨Z,c,Y⟩,tdV ⟨V,X,H⟩,.bool D] E.drew fun e w'=>e=.returned (.bool (decide (pr<l)))/\Below E E w'):=(G.o E.drew).mono fun _ _ h=>⟨h.1,(Below.refl E.heap.size E).drew.trans h.2⟩
  have r:E.drew.cell? ⟨A,op+p*3,none⟩=some (.int .i64 Z):=O;have s:E.drew.cell? ⟨A,op+p*3+1,none⟩=some (.string c):=P;have u:E.drew.cell? ⟨A,op+p*3+2,none⟩=some (.int .i64 Y):=Q;have v:E.drew.cell? ⟨A,op+i*3,none⟩=some (.int .i64 V):=L;have w:E.drew.cell? ⟨A,op+i*3+1,none⟩=some (.string X):=M;have y:E.drew.cell? ⟨A,op+i*3+2,none⟩=some (.int .i64 H):=N;have I:=hid g;go_wp2_with fail
  go_region_held3 (fun w'=>w'.cell? ⟨A,op+p*3,none⟩=some (.int .i64 Z)/\w'.cell? ⟨A,op+p*3+1,none⟩=some (.string c)/\w'.cell? ⟨A,op+p*3+2,none⟩=some (.int .i64 Y)/\w'.cell? ⟨A,op+i*3,none⟩=some (.int .i64 V)/\w'.cell? ⟨A,op+i*3+1,none⟩=some (.string X)/\w'.cell? ⟨A,op+i*3+2,none⟩=some (.int .i64 H))
   (first|with_reducible exact⟨r,s,u,v,w,y⟩|with_reducible exact⟨O,P,Q,L,M,N⟩|with_reducible exact⟨(B.cell (p:=⟨A,_,none⟩) C).trans O,(B.cell (p:=⟨A,_,none⟩) C).trans P,(B.cell (p:=⟨A,_,none⟩) C).trans Q,(B.cell (p:=⟨A,_,none⟩) C).trans L,(B.cell (p:=⟨A,_,none⟩) C).trans M,(B.cell (p:=⟨A,_,none⟩) C).trans N⟩)
   ((go_at_call 73;refine J.o.mono ?_;rintro e w2⟨rfl,B⟩;rw[S.o]))
  all_goals
   go_wp2;go_ret;exact⟨by rw[<-q.o];rfl,q0e I.o Zl B⟩
def TxH(ds:List Td)(a:Option Addr)(cap:Nat)(F:Fo)(tx:List UInt8):Prop:=∀i r,ds.drop i=F.N++r->∀W:World,Tds W a ds->z8m ds a cap i tx W
def TxA(ds:List Td)(a:Option Addr)(cap:Nat):Fo->Prop
 | .nil=>True
 | .cons x k n=>TxH ds a cap (.cons x k n) (q0k x k.R).tx/\TxA ds a cap n
theorem k4n{ds:List Td}{a:Option Addr}{cap:Nat}(hs:j0w ds){x:Td}{k n:Fo}(H:(Fo.cons x k n).ok)(hx:exN x)(h2:x.op=1\/x.op=2):TxH ds a cap (.cons x k n) (q0k x k.R).tx:=by
 intro i r N W M;obtain⟨U,L,_,_,_⟩:=z3t N H;obtain⟨b,o,rfl,X,D,K,J⟩:=M i U;have Y:=hs.l;have O:(i:Int)<(ds.length:Int):=by omega
 rw[L]at D K J;have E:∀o:Obj,Below W W (W.alloc o):=fun o=> Zb.alloc Zl _
 have B:=hid E;rcases q2c hx with⟨A,V,Q,S,_⟩|⟨A,_,_,_⟩|⟨A,_⟩|⟨A,_⟩|⟨A,_⟩|⟨A,_⟩
 ·have C:Hid ((q0k x k.R).tx=q3o x.n.toNat):=by show _=_;simp[q0k,q2z,A]
  obtain⟨m,P⟩:∃m:Nat,x.n=(m:Int):=⟨x.n.toNat,by omega⟩;rw[A]at D;rw[P]at J C;have G:m<=999999:=by omega
  rw[Int.toNat_natCast]at C;unfold z8m;rw[C.o];have I:Hid (∀W:World,Cw 45 #[.int .i64 (m:Int)] W (.string (wbS (q3o m)))):=fun W=>k9w m G W
  generalize wbS (q3o m)=T at I⊢;go_in;go_wp2_with fail;refine(I.o _).mono ?_;rintro e Z⟨rfl,rfl⟩;go_wp2;go_ret;exact⟨rfl,B.o _⟩
 ·have C:Hid (wbS (q0k x k.R).tx=x.tx):=by
   show _=_
   have:(q0k x k.R).tx=btL x.tx:=by simp[q0k,q2z,A]
   rw[this];rfl
  rw[A]at D;unfold z8m;rw[C.o];go_in;go_wp2;go_ret;exact⟨rfl,B.o _⟩
 all_goals (exfalso;omega)
set_option maxHeartbeats 4000000
theorem y8p:∀(F:Fo)(t:Tn),t∈F.R->t.ns.length<=F.N.length
 | .nil,t,h=>by cases h
 | .cons x k n,t,h=>by
  rw[Fo.R]at h;rcases List.mem_cons.1 h with rfl|h
  ·rw[q0k,q8m];simp[Fo.N]
  ·have:=y8p n t h
   simp[Fo.N];omega
theorem y4g{ds:List Td}{i:Nat}{F:Fo}{r:List Td}(h:ds.drop i=F.N++r):F.N.length<=ds.length:=by
 have:=congrArg length h
 rw[List.length_drop,length_append]at this;omega
theorem z1v{ds:List Td}(hs:j0w ds){i:Nat}{F:Fo}{r:List Td}(h:ds.drop i=F.N++r)(B:F.ok)(A:F.exs)(t:Tn)(ht:t∈F.R):t.tx.length<=640:=by
 have C:=j0p F B A t ht;have D:=y8p F t ht;have E:=y4g h
 have:=hs.l
 omega
theorem j0i{ds:List Td}{a:Option Addr}{cap:Nat}(hs:j0w ds){x:Td}{k n:Fo}(H:(Fo.cons x k n).ok)(s:(Fo.cons x k n).exs)(h2:x.op=5\/x.op=6)(hk:TxA ds a cap k):TxH ds a cap (.cons x k n) (q0k x k.R).tx:=by
 intro i r hi W S;obtain⟨v,X,d,_,_⟩:=z3t hi H
 have t:kdT x=2:=by
  unfold kdT;rcases h2 with h|h<;>rw[h]<;>rfl
 have u:k.len=2:=H.1.trans t;have L:k.exs:=fun y hy=>s y (by simp[Fo.N,hy])
 obtain⟨E,C,G,D,rfl⟩:∃E C G D,k=.cons E C (.cons G D .nil):=by
  match k,u with
  | .cons E C (.cons G D .nil),_=>exact⟨E,C,G,D,rfl⟩
 have U:(Fo.cons E C (.cons G D .nil)).R=[q0k E C.R,q0k G D.R]:=rfl;have Ab:=z1v hs d H.2.1 L (q0k E C.R) (by rw[U];simp);have Ac:=z1v hs d H.2.1 L (q0k G D.R) (by rw[U];simp);obtain⟨Z,ea,_,Y,Q⟩:=z3t d H.2.1;obtain⟨c,eb,_,_,_⟩:=z3t Q H.2.1.2.2;generalize hj:i+1+1+C.N.length=j at Y Q c eb;have HN:Hid (Tds W a ds):=S;have hl:=hs.l
 have O:Hid (∀W':World,Below W W W'->Cb 46 #[.slice a ds.length cap,.int .i64 (i:Int),.int .i64 ((i:Int)+1),.bool false] W' (.string (wbS (brx (lvl x.op false) (q0k E C.R))))):=fun W' K=>by
  have h:=z5a W' (S.W K) v Z (by rw[X];exact h2) false (q0k E C.R) (by rw[ea];rfl) (by omega) (hk.1 (i+1) _ d W' (S.W K)) (cap:=cap);rw[X,show((i+1:Nat):Int)=(i:Int)+1 by omega]at h;exact h
 have V:Hid (∀W':World,Below W W W'->Cb 47 #[.slice a ds.length cap,.int .i64 ((i:Int)+1)] W' (.int .i64 (j:Int))):=fun W' K=>by
  have h:=z0u (cap:=cap) hs Y Z W' (S.W K);rw[show((i+1:Nat):Int)=(i:Int)+1 by omega]at h;exact h
 have P:Hid (∀W':World,Below W W W'->Cb 46 #[.slice a ds.length cap,.int .i64 (i:Int),.int .i64 (j:Int),.bool true] W' (.string (wbS (brx (lvl x.op true) (q0k G D.R))))):=fun W' K=>by
  have h:=z5a W' (S.W K) v c (by rw[X];exact h2) true (q0k G D.R) (by rw[eb];rfl) (by omega) (hk.2.1 j _ Q W' (S.W K)) (cap:=cap);rw[X]at h;exact h
 have w:(wbS (brx (lvl x.op false) (q0k E C.R))).size<=1000:=by
  have:=z6s (lvl x.op false) (q0k E C.R)
  rw[q1m];omega
 have z:(wbS (brx (lvl x.op true) (q0k G D.R))).size<=1000:=by
  have:=z6s (lvl x.op true) (q0k G D.R)
  rw[q1m];omega
 have g:Hid (wbS (q0k x [q0k E C.R,q0k G D.R]).tx=wbS (brx (lvl x.op false) (q0k E C.R))++(if x.op=5 then⟨#[32,43,32]⟩else⟨#[32,42,32]⟩)++wbS (brx (lvl x.op true) (q0k G D.R))):=by
  show _=_;have q1:(⟨#[32,43,32]⟩:ByteArray)=wbS [32,43,32]:=rfl;have q2:(⟨#[32,42,32]⟩:ByteArray)=wbS [32,42,32]:=rfl;rcases h2 with h|h
  ·rw[if_pos h,q1,q0l,q0l];simp[q0k,q2z,h,two2,lvl]
  ·rw[if_neg (by omega),q2,q0l,q0l];simp[q0k,q2z,h,two2,lvl]
 obtain⟨b,o,rfl,K,c1,c2,c3⟩:=S i v;have Aa:(i:Int)<(ds.length:Int):=by omega
 rw[X]at c1 c2 c3;rw[U];unfold z8m;rw[g.o];generalize wbS (brx (lvl x.op false) (q0k E C.R))=A at O w⊢;generalize wbS (brx (lvl x.op true) (q0k G D.R))=B at P z⊢;obtain⟨xo,xt,xn⟩:=x;simp only at h2 c1 c2 c3⊢;rcases h2 with rfl|rfl
 ·rw[if_pos rfl];go_in;go_wp2_with fail;refine(O.o _ (Zb.alloc Zl _)).mono ?_;rintro e w1⟨rfl,m⟩;have f:Below W W w1:=q7x Zb Zl m;have I:=hid f;go_wp2_with fail;refine(V.o _ I.o).mono ?_;rintro e w2⟨rfl,p⟩;have J:=hid (q0e I.o Zl p);go_wp2_with fail;refine(P.o _ J.o).mono ?_;rintro e w3⟨rfl,q⟩;have M:=hid (q0e J.o Zl q);go_wp2;go_ret;exact⟨rfl,M.o⟩
 ·rw[if_neg (by omega)];go_in;go_wp2_with fail;refine(O.o _ (Zb.alloc Zl _)).mono ?_;rintro e w1⟨rfl,m⟩;have f:Below W W w1:=q7x Zb Zl m;have I:=hid f;go_wp2_with fail;refine(V.o _ I.o).mono ?_;rintro e w2⟨rfl,p⟩;have J:=hid (q0e I.o Zl p);go_wp2_with fail;refine(P.o _ J.o).mono ?_;rintro e w3⟨rfl,q⟩;have M:=hid (q0e J.o Zl q);go_wp2;go_ret;exact⟨rfl,M.o⟩
def y7n:List Tn->List UInt8
 | []=>[]
 | t::r=>44::32::cmx (t::r)
theorem k8d(t:Tn)(r:List Tn):cmx (t::r)=t.tx++y7n r:=by
 cases r with
 | nil=>simp[cmx,y7n]
 | cons u r=>simp[cmx,y7n]
def y1o(q:Nat)(ks:List Tn):List UInt8:=if q=0 then cmx ks else y7n ks
structure z6o(ds:List Td)(a:Option Addr)(cap:Nat)(full:List UInt8)(N:Nat)(r:List Td)(q pos:Nat)(K:Fo)(s:List UInt8):Prop where
 n:K.len+q=N
 d:ds.drop pos=K.N++r
 ok:K.ok
 ex:K.exs
 tx:TxA ds a cap K
 f:full=s++y1o q K.R
theorem z6o.next{ds:List Td}{a:Option Addr}{cap:Nat}{B:List UInt8}{N:Nat}{r:List Td}{q A:Nat}{y:Td}{ky K:Fo}{s:List UInt8}(h:z6o ds a cap B N r q A (.cons y ky K) s):
  z6o ds a cap B N r (q+1) (A+1+ky.N.length) K (s++(if q=0 then []else [44,32])++(q0k y ky.R).tx)/\A<ds.length/\q3u ds A 1=some (A+1+ky.N.length):=by
 obtain⟨G,_,_,D,E⟩:=z3t h.d h.ok;refine⟨⟨?_,E,h.ok.2.2,fun z hz=>h.ex z (by simp[Fo.N,hz]),h.tx.2,?_⟩,G,D⟩
 ·have:=h.n
  simp only[Fo.len]at this;omega
 ·rw[h.f,Fo.R,y1o,y1o,if_neg (by omega:¬q+1=0)];by_cases C:q=0
  ·rw[if_pos C,if_pos C,k8d];simp
  ·rw[if_neg C,if_neg C,y7n,k8d];simp
theorem k4o{ds:List Td}{a:Option Addr}{cap:Nat}(hs:j0w ds){x:Td}{k n:Fo}(Ab:(Fo.cons x k n).ok)(Ag:(Fo.cons x k n).exs)(h2:x.op=3\/x.op=4)(hk:TxA ds a cap k):TxH ds a cap (.cons x k n) (q0k x k.R).tx:=by
 intro i r hi W hN;obtain⟨hp,e1,e2,_,_⟩:=z3t hi Ab;have Ai:k.exs:=fun y hy=>Ag y (by simp[Fo.N,hy])
 have hz:=z1v hs hi Ab Ag (q0k x k.R) (by rw[Fo.R];simp);have HN:=hid hN;have HS:=hid hs;have hl:=hs.l
 obtain⟨N,hn,As,Al⟩:∃N:Nat,x.n=(N:Int)/\N<=6/\kdT x=N:=by
  rcases q2c (Ag x (by simp[Fo.N]))with⟨ho,_⟩|⟨ho,_⟩|⟨ho,_,h3,h4,h5⟩|⟨ho,_,h3,h4,h5⟩|⟨ho,_⟩|⟨ho,_⟩
  ·omega
  ·omega
  ·exact⟨x.n.toNat,by omega,by omega,h5⟩
  ·exact⟨x.n.toNat,by omega,by omega,h5⟩
  ·omega
  ·omega
 have Am:=Ab.1.trans Al
 have V:Hid (∀pre:List UInt8,z6o ds a cap (pre++cmx k.R) N (n.N++r) 0 (i+1) k pre):=fun pre=>
  ⟨by omega,e2,Ab.2.1,Ai,hk,by rw[y1o,if_pos rfl]⟩
 obtain⟨b,o,rfl,J,c1,c2,c3⟩:=hN i hp;have Ar:(i:Int)<(ds.length:Int):=by omega
 rw[e1]at c1 c2 c3;rw[hn]at c3
 have Ah:x.tx.size<=640\/x.op=4:=by
  rcases h2 with h|h
  ·left
   have:(q0k x k.R).tx.length=_:=congrArg length (show(q0k x k.R).tx=btL x.tx++40::(cmx k.R++[41]) by simp[q0k,q2z,h])
   rw[length_append,q0c]at this;omega
  ·exact .inr h
 have X:Hid (x.op=3->(q0k x k.R).tx=(btL x.tx++[40])++cmx k.R++[41]):=fun h=>by simp[q0k,q2z,h]
 have Z:Hid (x.op=4->(q0k x k.R).tx=[91]++cmx k.R++[93]):=fun h=>by simp[q0k,q2z,h]
 unfold z8m
 generalize(q0k x k.R).tx=full at hz X Z⊢
 generalize cmx k.R=body at V X Z;generalize n.N++r=r' at V;clear hk hi Ab Ag Ai e1 e2 hn Al Am hN hs;obtain⟨xo,M,xn⟩:=x;simp only at h2 c1 c2 c3 Ah X Z;rcases h2 with rfl|rfl
 ·have HF:=(show Hid (_=_)from X.o rfl);have j:=hid (V.o (btL M++[40]));have Aq:M.size<=640:=by rcases Ah with h|h<;>omega
  have HP:Hid (M++(⟨#[40]⟩:ByteArray)=wbS (btL M++[40])):=by
   show _=_;rw[<-q0l];rfl
  clear X Z V Ah;go_in;go_wp2_with fail;have w:∀wr:World,Below (W.heap.size+1) (W.alloc (.cells #[.int .i64 3,.string M,(N:Int)] 71)) wr->wr.cell? (W.heap.size,2)=some ↑(N:Int):=fun wr J=>(J.cell (p:=(W.heap.size,2)) (Nat.lt_succ_self _)).trans (by simp[go_sem])
  have c:=hid w;have D:Hid (∀wr:World,Below (W.heap.size+1) (W.alloc (.cells #[.int .i64 3,.string M,(N:Int)] 71)) wr->Below W W wr):=fun wr J=>(Zb.alloc Zl _).trans (J.mono (by omega))
  have g:Hid (Below (W.heap.size+1) (W.alloc (.cells #[.int .i64 3,.string M,(N:Int)] 71)) (W.alloc (.cells #[.int .i64 3,.string M,(N:Int)] 71))):=Below.refl _ _;have G:Hid (∀wr:World,Below (W.heap.size+1) (W.alloc (.cells #[.int .i64 3,.string M,(N:Int)] 71)) wr->W.heap.size+1<=wr.heap.size):=fun wr J=>by have:=J.size;rw[World.size_alloc]at this;exact this
  clear w;generalize W.alloc (.cells #[.int .i64 3,.string M,(N:Int)] 71)=W1 at c D g G⊢;rw[HP.o]
  go_loopw [6,8,9] (fun s at_ q wr=>∃(q' B:Nat)(K:Fo)(t:List UInt8),s=.string (wbS t)/\at_=(B:Int)/\q=(q':Int)/\z6o ds (some ↑(b,o)) cap ((btL M++[40])++body) N r' q' B K t/\Below (W.heap.size+1) W1 wr) (fun _ _ q _=>N-(intOf q).toNat)
  case atStart=>exact⟨0,i+1,k,(btL M++[40]),rfl,by go_num,rfl,j.o,g.o⟩
  case round=>
   obtain⟨q,B,K,t,rfl,rfl,rfl,hM,hB⟩:=hrel;have I:=hid hM;have O:=hid hB;have Ao:=c.o wr hB;have L:=hM.n
   have U:(wbS t).size<=640:=by
    have v:=congrArg length hM.f;have h2:=congrArg length HF.o;simp only[length_append]at v h2;rw[q1m];omega
   clear hM hB;by_cases hq:q<N
   ·have Aj:(q:Int)<(N:Int):=by omega
    match K,L,I with
    | .nil,L,_=>simp only[Fo.len]at L;exfalso;omega
    | .cons y ky K',_,I=>
     obtain⟨Aa,Ac,z⟩:=I.o.next;have Ak:=z1v HS.o I.o.d I.o.ok I.o.ex (q0k y ky.R) (by rw[Fo.R];simp);have E:=hid Aa;have H:Hid (∀W':World,Below W W W'->z8m ds (some ↑(b,o)) cap B (q0k y ky.R).tx W'):=fun W' J=>I.o.tx.1 B r' I.o.d W' (HN.o.W J)
     have Q:Hid (∀W':World,Below W W W'->Cb 47 #[.slice (some ↑(b,o)) ds.length cap,(B:Int)] W' ((B+1+ky.N.length:Nat):Int)):=fun W' J=>z0u HS.o z Ac W' (HN.o.W J)
     have Af:(wbS (q0k y ky.R).tx).size<=640:=by rw[q1m];exact Ak
     unfold z8m at H;clear Aa z I;generalize Ap:B+1+ky.N.length=ps at E Q;by_cases Ad:q=0
     ·subst Ad
      have A:Hid (wbS t++wbS (q0k y ky.R).tx=wbS (t++(if 0=0 then []else [44,32])++(q0k y ky.R).tx)):=by
       show _=_;rw[if_pos rfl,append_nil,q0l]
      generalize t++(if 0=0 then []else [44,32])++(q0k y ky.R).tx=t' at E A;generalize wbS (q0k y ky.R).tx=Y at H A Af;generalize wbS t=S at A U⊢;go_wp2_with fail;refine(H.o _ (D.o _ O.o)).mono ?_;rintro e w2⟨rfl,m⟩;have C:=hid (O.o.trans (m.mono (G.o _ O.o)));clear m;go_wp2_with fail;refine(Q.o _ (D.o _ C.o)).mono ?_;rintro e w3⟨rfl,u⟩;have P:=hid (C.o.trans (u.mono (G.o _ C.o)));clear u;go_wp2;exact⟨⟨1,ps,K',t',by rw[A.o],rfl,rfl,E.o,P.o⟩,by simp[intOf];omega⟩
     ·have An:(0:Int)<(q:Int):=by omega
      have A:Hid (wbS t++(⟨#[44,32]⟩:ByteArray)++wbS (q0k y ky.R).tx=wbS (t++(if q=0 then []else [44,32])++(q0k y ky.R).tx)):=by
       show _=_;rw[if_neg Ad,<-q0l,<-q0l];rfl
      have Ae:(wbS t++(⟨#[44,32]⟩:ByteArray)).size<=1000:=by
       have e3:(⟨#[44,32]⟩:ByteArray).size=2:=rfl;rw[ByteArray.size_append,e3];omega
      generalize t++(if q=0 then []else [44,32])++(q0k y ky.R).tx=t' at E A;generalize wbS (q0k y ky.R).tx=Y at H A Af;generalize wbS t=S at A U Ae⊢;go_wp2_with fail;refine(H.o _ (D.o _ O.o)).mono ?_;rintro e w2⟨rfl,m⟩;have C:=hid (O.o.trans (m.mono (G.o _ O.o)));clear m;generalize S++(⟨#[44,32]⟩:ByteArray)=S2 at A Ae⊢;go_wp2_with fail;refine(Q.o _ (D.o _ C.o)).mono ?_;rintro e w3⟨rfl,u⟩;have P:=hid (C.o.trans (u.mono (G.o _ C.o)));clear u;go_wp2;exact⟨⟨q+1,ps,K',t',by rw[A.o],rfl,by go_num,E.o,P.o⟩,by simp[intOf];omega⟩
   ·have Aj:¬(q:Int)<(N:Int):=by omega
    have HE:Hid (wbS t++(⟨#[41]⟩:ByteArray)=wbS full):=by
     have hK:K=.nil:=by
      cases K with
      | nil=>rfl
      | cons y ky K'=>simp only[Fo.len]at L;omega
     have v:=I.o.f;rw[hK]at v
     have h2:y1o q Fo.nil.R=[]:=by
      unfold y1o
      split<;>rfl
     rw[h2,append_nil]at v;show _=_;rw[HF.o,v,<-q0l];rfl
    generalize wbS t=S at HE U⊢;go_wp2;go_ret;exact⟨by rw[<-HE.o];rfl,D.o _ O.o⟩
 ·have HF:=(show Hid (_=_)from Z.o rfl);have j:=hid (V.o [91]);clear X Z V Ah;go_in;go_wp2_with fail;have w:∀wr:World,Below (W.heap.size+1) (W.alloc (.cells #[.int .i64 4,.string M,(N:Int)] 71)) wr->wr.cell? (W.heap.size,2)=some ↑(N:Int):=fun wr J=>(J.cell (p:=(W.heap.size,2)) (Nat.lt_succ_self _)).trans (by simp[go_sem])
  have c:=hid w;have D:Hid (∀wr:World,Below (W.heap.size+1) (W.alloc (.cells #[.int .i64 4,.string M,(N:Int)] 71)) wr->Below W W wr):=fun wr J=>(Zb.alloc Zl _).trans (J.mono (by omega))
  have g:Hid (Below (W.heap.size+1) (W.alloc (.cells #[.int .i64 4,.string M,(N:Int)] 71)) (W.alloc (.cells #[.int .i64 4,.string M,(N:Int)] 71))):=Below.refl _ _;have G:Hid (∀wr:World,Below (W.heap.size+1) (W.alloc (.cells #[.int .i64 4,.string M,(N:Int)] 71)) wr->W.heap.size+1<=wr.heap.size):=fun wr J=>by have:=J.size;rw[World.size_alloc]at this;exact this
  clear w;generalize W.alloc (.cells #[.int .i64 4,.string M,(N:Int)] 71)=W1 at c D g G⊢
  go_loopw [6,8,9] (fun s at_ q wr=>∃(q' B:Nat)(K:Fo)(t:List UInt8),s=.string (wbS t)/\at_=(B:Int)/\q=(q':Int)/\z6o ds (some ↑(b,o)) cap ([91]++body) N r' q' B K t/\Below (W.heap.size+1) W1 wr) (fun _ _ q _=>N-(intOf q).toNat)
  case atStart=>exact⟨0,i+1,k,[91],rfl,by go_num,rfl,j.o,g.o⟩
  case round=>
   obtain⟨q,B,K,t,rfl,rfl,rfl,hM,hB⟩:=hrel;have I:=hid hM;have O:=hid hB;have Ao:=c.o wr hB;have L:=hM.n
   have U:(wbS t).size<=640:=by
    have v:=congrArg length hM.f;have h2:=congrArg length HF.o;simp only[length_append]at v h2;rw[q1m];omega
   clear hM hB;by_cases hq:q<N
   ·have Aj:(q:Int)<(N:Int):=by omega
    match K,L,I with
    | .nil,L,_=>simp only[Fo.len]at L;exfalso;omega
    | .cons y ky K',_,I=>
     obtain⟨Aa,Ac,z⟩:=I.o.next;have Ak:=z1v HS.o I.o.d I.o.ok I.o.ex (q0k y ky.R) (by rw[Fo.R];simp);have E:=hid Aa;have H:Hid (∀W':World,Below W W W'->z8m ds (some ↑(b,o)) cap B (q0k y ky.R).tx W'):=fun W' J=>I.o.tx.1 B r' I.o.d W' (HN.o.W J)
     have Q:Hid (∀W':World,Below W W W'->Cb 47 #[.slice (some ↑(b,o)) ds.length cap,(B:Int)] W' ((B+1+ky.N.length:Nat):Int)):=fun W' J=>z0u HS.o z Ac W' (HN.o.W J)
     have Af:(wbS (q0k y ky.R).tx).size<=640:=by rw[q1m];exact Ak
     unfold z8m at H;clear Aa z I;generalize Ap:B+1+ky.N.length=ps at E Q;by_cases Ad:q=0
     ·subst Ad
      have A:Hid (wbS t++wbS (q0k y ky.R).tx=wbS (t++(if 0=0 then []else [44,32])++(q0k y ky.R).tx)):=by
       show _=_;rw[if_pos rfl,append_nil,q0l]
      generalize t++(if 0=0 then []else [44,32])++(q0k y ky.R).tx=t' at E A;generalize wbS (q0k y ky.R).tx=Y at H A Af;generalize wbS t=S at A U⊢;go_wp2_with fail;refine(H.o _ (D.o _ O.o)).mono ?_;rintro e w2⟨rfl,m⟩;have C:=hid (O.o.trans (m.mono (G.o _ O.o)));clear m;go_wp2_with fail;refine(Q.o _ (D.o _ C.o)).mono ?_;rintro e w3⟨rfl,u⟩;have P:=hid (C.o.trans (u.mono (G.o _ C.o)));clear u;go_wp2;exact⟨⟨1,ps,K',t',by rw[A.o],rfl,rfl,E.o,P.o⟩,by simp[intOf];omega⟩
     ·have An:(0:Int)<(q:Int):=by omega
      have A:Hid (wbS t++(⟨#[44,32]⟩:ByteArray)++wbS (q0k y ky.R).tx=wbS (t++(if q=0 then []else [44,32])++(q0k y ky.R).tx)):=by
       show _=_;rw[if_neg Ad,<-q0l,<-q0l];rfl
      have Ae:(wbS t++(⟨#[44,32]⟩:ByteArray)).size<=1000:=by
       have e3:(⟨#[44,32]⟩:ByteArray).size=2:=rfl;rw[ByteArray.size_append,e3];omega
      generalize t++(if q=0 then []else [44,32])++(q0k y ky.R).tx=t' at E A;generalize wbS (q0k y ky.R).tx=Y at H A Af;generalize wbS t=S at A U Ae⊢;go_wp2_with fail;refine(H.o _ (D.o _ O.o)).mono ?_;rintro e w2⟨rfl,m⟩;have C:=hid (O.o.trans (m.mono (G.o _ O.o)));clear m;generalize S++(⟨#[44,32]⟩:ByteArray)=S2 at A Ae⊢;go_wp2_with fail;refine(Q.o _ (D.o _ C.o)).mono ?_;rintro e w3⟨rfl,u⟩;have P:=hid (C.o.trans (u.mono (G.o _ C.o)));clear u;go_wp2;exact⟨⟨q+1,ps,K',t',by rw[A.o],rfl,by go_num,E.o,P.o⟩,by simp[intOf];omega⟩
   ·have Aj:¬(q:Int)<(N:Int):=by omega
    have HE:Hid (wbS t++(⟨#[93]⟩:ByteArray)=wbS full):=by
     have hK:K=.nil:=by
      cases K with
      | nil=>rfl
      | cons y ky K'=>simp only[Fo.len]at L;omega
     have v:=I.o.f;rw[hK]at v
     have h2:y1o q Fo.nil.R=[]:=by
      unfold y1o
      split<;>rfl
     rw[h2,append_nil]at v;show _=_;rw[HF.o,v,<-q0l];rfl
    generalize wbS t=S at HE U⊢;go_wp2;go_ret;exact⟨by rw[<-HE.o];rfl,D.o _ O.o⟩
theorem k0x{ds:List Td}{a:Option Addr}{cap:Nat}(hs:j0w ds):∀F:Fo,F.ok->F.exs->TxA ds a cap F
 | .nil,_,_=>trivial
 | .cons x k n,hok,hex=>by
  have hexk:k.exs:=fun y hy=>hex y (by simp[Fo.N,hy])
  have hexn:n.exs:=fun y hy=>hex y (by simp[Fo.N,hy])
  have ihk:=k0x (a:=a) (cap:=cap) hs k hok.2.1 hexk;refine⟨?_,k0x hs n hok.2.2 hexn⟩;have hx:=hex x (by simp[Fo.N]);rcases q2c hx with⟨ho,_⟩|⟨ho,_⟩|⟨ho,_⟩|⟨ho,_⟩|⟨ho,_⟩|⟨ho,_⟩
  ·exact k4n hs hok hx (.inl ho)
  ·exact k4n hs hok hx (.inr ho)
  ·exact k4o hs hok hex (.inl ho) ihk
  ·exact k4o hs hok hex (.inr ho) ihk
  ·exact j0i hs hok hex (.inl ho) ihk
  ·exact j0i hs hok hex (.inr ho) ihk
theorem g2o{ds:List Td}(h:q0b ds=0):j0w ds:=by
 obtain⟨A,B,_,_⟩:=q3k h;exact⟨A,B⟩
theorem k5i(W:World)(a b c:Value)(t:Nat):(W.alloc (.cells #[a,b,c] t)).cell? ⟨W,1,none⟩=some b:=by
 have A:(W.alloc (.cells #[a,b,c] t)).heap[W.heap.size]?=some (.cells #[a,b,c] t (0,0)):=by
  show(W.heap.push _)[W.heap.size]?=_
  simp
 have B:(W.alloc (.cells #[a,b,c] t)).cell? ⟨W,1,none⟩=(match (W.alloc (.cells #[a,b,c] t)).heap[W.heap.size]? with
  | some (.cells c _ _)=>c[1]?
  | _=>none):=rfl
 rw[B,A];rfl
theorem y5n{ds:List Td}{a:Option Addr}{cap:Nat}(h:q0b ds=0)(W:World)(hN:Tds W a ds):z8m ds a cap 0 (q2p ds) W:=by
 have E:=g2o h;have L:∀o:Obj,Below W W (W.alloc o):=fun o=> Zb.alloc Zl _
 have I:=hid L;rcases q5y h with⟨x,rfl,A,_,V⟩|⟨x,F,rfl,G,M,c,u⟩
 ·have U:(Fo.nil).len=kdT x:=by unfold kdT;rw[A];rfl
  have s:q2p [x]=stX x []:=(z5r (x:=x) (F:=.nil) trivial U).1;have h2:=z4c V;obtain⟨b,o,rfl,z,S,g,i⟩:=hN 0 (by simp);simp only[List.getElem_cons_zero,Nat.zero_mul,Nat.add_zero]at S g i;rw[A]at S;rw[s];unfold stX z8m;rw[if_neg (by omega),if_neg (by omega)];clear s U V h E L hN A;by_cases t:x.tx.size=0
  ·rw[if_pos t];go_in;go_wp2;go_ret;exact⟨rfl,I.o _⟩
  ·rw[if_neg t];have w:¬(x.tx.size:Int)=0:=by omega
   have H:Hid ((⟨#[35,32]⟩:ByteArray)++x.tx=wbS ([35,32]++btL x.tx)):=by
    show _=_;rw[<-q0l];rfl
   generalize wbS ([35,32]++btL x.tx)=R at H⊢;go_in;go_wp2;go_ret;exact⟨by rw[<-H.o];rfl,I.o _⟩
 ·obtain⟨y,k,rfl⟩:=j7h c
  have U:(Fo.cons y k .nil).len=kdT x:=by
   rw[c];unfold kdT;rcases u with⟨A,_⟩|⟨A,_⟩<;>rw[A]<;>rfl
  have q:=y0f G M (by have:=E.l;simp only[List.length_cons]at this;omega);have m:=(k0x (a:=a) (cap:=cap) E _ G M).1 1 [] (by simp);rw[(z5r G U).1];have Q:∀o:Obj,Tds (W.alloc o) a (x::(Fo.cons y k .nil).N):=fun o=>hN.alloc o
  have J:=hid Q;obtain⟨b,o,rfl,z,S,g,i⟩:=hN 0 (by simp);simp only[List.getElem_cons_zero,Nat.zero_mul,Nat.add_zero]at S g i;have Aa:(0:Int)<((x::(Fo.cons y k .nil).N).length:Int):=by simp only[List.length_cons];omega
  have Y:(wbS (q0k y k.R).tx).size<=640:=by rw[q1m];exact q
  have Z:Hid (∀W:World,Tds W (some ⟨b,o,none⟩) (x::(Fo.cons y k .nil).N)->z8m (x::(Fo.cons y k .nil).N) (some ⟨b,o,none⟩) cap 1 (q0k y k.R).tx W):=m;unfold stX;rcases u with⟨A,X,_⟩|⟨A,_,_⟩
  ·have h8:x.tx.size<=8:=by rw[<-q0c];exact q3a X
   have H:Hid ((⟨#[108,101,116,32]⟩:ByteArray)++x.tx++⟨#[32,61,32]⟩++wbS (q0k y k.R).tx++⟨#[59]⟩=wbS ([108,101,116,32]++btL x.tx++[32,61,32]++hdT (Fo.cons y k .nil).R++[59])):=by
    show _=_;rw[<-q0l,<-q0l,<-q0l,<-q0l];rfl
   rw[if_pos A];rw[A]at S
   generalize(x::(Fo.cons y k .nil).N)=ds at *
   unfold z8m;generalize wbS ([108,101,116,32]++btL x.tx++[32,61,32]++hdT (Fo.cons y k .nil).R++[59])=R at H⊢;generalize D:wbS (q0k y k.R).tx=T at Y H;obtain⟨C,B⟩:∃C,C=W.alloc (.cells #[.int .i64 7,.string x.tx,.int .i64 0] 71):=⟨_,rfl⟩
   have O:Hid (Cp 29 #[.slice (some ⟨b,o,none⟩) ds.length cap,.int .i64 1] C.drew fun e w'=>e=.returned (.string T)/\Below C C w'):=by
    have P:=Z.o C.drew (by rw[B];exact(J.o _).W Zb.drew);unfold z8m at P;rw[D]at P;exact P.mono fun _ _ hh=>⟨hh.1,(Below.refl C.heap.size C).drew.trans hh.2⟩
   have d:Hid (Below W W C):=by rw[B];exact I.o _
   have n:W.heap.size<C.heap.size:=by rw[B,World.size_alloc];omega
   have r:C.cell? ⟨W,1,none⟩=some (.string x.tx):=by rw[B];exact k5i _ _ _ _ _
   have v:C.drew.cell? ⟨W,1,none⟩=some (.string x.tx):=r;have f:Hid (_=_):=B;have g1:¬9223372036854775807<4+x.tx.size:=by omega
   have g2:¬9223372036854775807<4+x.tx.size+3:=by omega
   have g3:¬9223372036854775807<4+x.tx.size+3+T.size:=by omega
   have g4:¬9223372036854775807<4+x.tx.size+3+T.size+1:=by omega
   clear D Z J Q m hN q U G M c X A E h L B;go_in;go_wp2_with fail;rw[<-f.o]
   go_region_held3 (fun w'=>w'.cell? ⟨W,1,none⟩=some (.string x.tx))
    (first|with_reducible exact v|with_reducible exact r|with_reducible exact(K.cell (p:=⟨W,1,none⟩) n).trans r)
    ((go_at_call 29;refine O.o.mono ?_;rintro e w2⟨rfl,K⟩))
   all_goals
    go_wp2;go_ret;exact⟨by rw[<-H.o];rfl,d.o.trans (K.mono (by omega))⟩
  ·have H:Hid (wbS (q0k y k.R).tx++⟨#[59]⟩=wbS (hdT (Fo.cons y k .nil).R++[59])):=by
    show _=_;rw[<-q0l];rfl
   rw[if_neg (by omega),if_pos A];rw[A]at S
   generalize(x::(Fo.cons y k .nil).N)=ds at *
   unfold z8m;generalize wbS (hdT (Fo.cons y k .nil).R++[59])=R at H⊢;generalize D:wbS (q0k y k.R).tx=T at Y H
   have O:Hid (∀o':Obj,Cp 29 #[.slice (some ⟨b,o,none⟩) ds.length cap,.int .i64 1] (W.alloc o') fun e w'=>e=.returned (.string T)/\Below W W w'):=fun o'=>by
    have j:=Z.o _ (J.o o');unfold z8m at j;rw[D,World.size_alloc]at j;exact j.mono fun _ _ hh=>⟨hh.1,(I.o o').trans (hh.2.mono (by omega))⟩
   clear D Z J Q m hN q U G M c A E h L;go_in;go_wp2_with fail;refine(O.o _).mono ?_;rintro e w2⟨rfl,K⟩;go_wp2;go_ret;exact⟨by rw[<-H.o];rfl,K⟩
end Go.Proofs.YtchdplceopegoaaGreatDoor
