import Derived.Test.YtchdplceopegoaaGreatDoorPi12
import Derived.Test.YtchdplceopegoaaGreatDoorPi08
open Go.Proofs.Tryz
open List (length length_append length_cons)
namespace Go.Proofs.YtchdplceopegoaaGreatDoor
open Go Go.RowKit
def q1t(ds:List Nd):List Value:=ds.flatMap fun x=>[.int .i64 x.op,.string x.tx,.int .i64 x.n]
theorem z0c:∀ds:List Nd,(q1t ds).length=ds.length*3
 | []=>rfl
 | x::r=>by
  have:=z0c r
  unfold q1t at this⊢;rw[List.flatMap_cons,length_append,this,length_cons];simp;omega
theorem k6m(a b:List Nd):q1t (a++b)=q1t a++q1t b:=by simp[q1t,List.flatMap_append]
theorem z2r:∀(ds:List Nd)(i:Nat)(h:i<ds.length),(q1t ds)[i*3]?=some (.int .i64 ds[i].op)/\(q1t ds)[i*3+1]?=some (.string ds[i].tx)/\(q1t ds)[i*3+2]?=some (.int .i64 ds[i].n)
 | x::r,0,_=>by simp[q1t]
 | x::r,i+1,h=>by
  have h1:=z2r r i (by simpa using h);have e:q1t (x::r)=.int .i64 x.op::.string x.tx::.int .i64 x.n::q1t r:=by simp[q1t]
  rw[e,show(i+1)*3=i*3+1+1+1 by omega];exact h1
theorem k6o(ds:List Nd):∀u∈q1t ds,u.oneCell'=true:=by
 intro u B;obtain⟨x,_,A⟩:=List.mem_flatMap.1 B;simp at A;rcases A with rfl|rfl|rfl<;>rfl
theorem k6n(ds:List Nd)(j:Nat)(u:Value)(h:(q1t ds)[j]?=some u):∃i,∃hi:i<ds.length,(j=i*3/\u=.int .i64 ds[i].op)\/(j=i*3+1/\u=.string ds[i].tx)\/(j=i*3+2/\u=.int .i64 ds[i].n):=by
 have E:j<ds.length*3:=by rw[<-z0c];exact(List.getElem?_eq_some_iff.1 h).1
 have hi:j / 3<ds.length:=by omega
 obtain⟨A,B,C⟩:=z2r ds (j / 3) hi;refine⟨j / 3,hi,?_⟩;have D:j=j / 3*3\/j=j / 3*3+1\/j=j / 3*3+2:=by omega
 rcases D with e|e|e
 ·rw[<-e,h]at A;exact .inl ⟨e,Option.some.inj A⟩
 ·rw[<-e,h]at B;exact .inr (.inl ⟨e,Option.some.inj B⟩)
 ·rw[<-e,h]at C;exact .inr (.inr ⟨e,Option.some.inj C⟩)
theorem y0s:(prog.info? 131).map (fun i=>(i.zero,i.size,i.bytes))=some (some (.agg #[.int .i64 0,.string ⟨#[]⟩,.int .i64 0]),3,32):=by kernel_rfl
theorem k9u{B:Nat}{w:World}{a:Option Addr}{n cap:Nat}{ds:List Nd}(h:w.ownsRow B 131 3 (.slice a n cap) ds.length (q1t ds)):n=ds.length/\ds.length<=cap/\q2b w a ds:=by
 rcases h.2 with⟨D,H⟩|⟨g,c,M,D,_,L,K,_,P,C⟩
 ·simp only[Value.slice.injEq]at D;obtain⟨rfl,rfl,rfl⟩:=D;refine⟨H.symm,by omega,fun i hi=>?_⟩;omega
 ·simp only[Value.slice.injEq]at D;obtain⟨rfl,rfl,rfl⟩:=D;refine⟨rfl,K,fun i hi=>?_⟩
  have J:g<w.heap.size:=by
   rcases Nat.lt_or_ge g w.heap.size with G|G
   ·exact G
   ·simp[Array.getElem?_eq_none G]at L
  have A:∀k u,(q1t ds)[k]?=some u->w.cell? ⟨g,k,none⟩=some u:=by
   intro k u E;rw[<-C]at E
   have I:k<ds.length*3:=by
    have:=(List.getElem?_eq_some_iff.1 E).1
    simp at this;omega
   rw[List.getElem?_take_of_lt I]at E;simp only[World.cell?,L];simpa using E
  obtain⟨H,N,O⟩:=z2r ds i hi;refine⟨g,0,rfl,J,?_,?_,?_⟩
  ·rw[Nat.zero_add];exact A _ _ H
  ·rw[Nat.zero_add];exact A _ _ N
  ·rw[Nat.zero_add];exact A _ _ O
theorem v0a{w:World}{b o:Nat}{ds:List Nd}(h:q2b w (some ⟨b,o,none⟩) ds):∀j u,(q1t ds)[j]?=some u->w.cell? ((⟨b,o,none⟩:Addr).add j)=some u:=by
 intro j u H;obtain⟨i,G,E⟩:=k6n ds j u H;obtain⟨I,J,e,_,A,B,C⟩:=h i G;simp only[Option.some.injEq,Addr.mk.injEq,and_true]at e;obtain⟨rfl,rfl⟩:=e
 have D:∀k,(⟨b,o,none⟩:Addr).add k=⟨b,o+k,none⟩:=by
  intro k;unfold Addr.add
  split
  ·rename_i h;subst h;rfl
  ·rfl
 rw[D];rcases E with⟨rfl,rfl⟩|⟨rfl,rfl⟩|⟨rfl,rfl⟩
 ·exact A
 ·rw[show o+(i*3+1)=o+i*3+1 by omega];exact B
 ·rw[show o+(i*3+2)=o+i*3+2 by omega];exact C
set_option maxRecDepth 100000
def q7s(B:Nat)(v:Value)(xs:List Nd)(w:World):Prop:=w.ownsRow B 131 3 v xs.length (q1t xs)
theorem q7s.nods{B:Nat}{w:World}{A:Option Addr}{n c:Nat}{xs:List Nd}(h:q7s B (.slice A n c) xs w):q2b w A xs:=(k9u h).2.2
theorem q7s.none{B:Nat}{w:World}{A:Option Addr}{n c:Nat}{xs:List Nd}(h:q7s B (.slice A n c) xs w):n=xs.length/\(A=none->n=0/\c=0):=by
 rcases h.2 with⟨C,E⟩|⟨g,G,D,C,_⟩
 ·simp only[Value.slice.injEq]at C;obtain⟨rfl,rfl,rfl⟩:=C;exact⟨E.symm,fun _=>⟨rfl,rfl⟩⟩
 ·simp only[Value.slice.injEq]at C;obtain⟨rfl,rfl,rfl⟩:=C;exact⟨rfl,fun e=>by cases e⟩
theorem z8p{w:World}{G:Array Oper}{rest:List Oper}{o:Oper}{a:Act}{Q:Exit->Act->World->Prop}(J:o.guard=none)(s x:Operand)
  (ho:o.op=.call {callee:=.builtin .append,args:=#[s,x],argTypes:=#[91,91]})
  (B:Nat) (v:Value) (xs:List Nd) (hs:a.eval s=v) (C:q7s B v xs w)
  (wa:Option Addr) (n:Nat) (ws:List Nd) (hn:ws.length=n) (wc:Nat) (hx:a.eval x=.slice wa n wc) (hW:q2b w wa ws) (K:wa=none->n=0/\wc=0)
  (m:Nat) (hm:xs.length+n=m) (hb:m<=1000000) (E:B<=w.heap.size)
  (h:∀A c w',q7s B (.slice A m c) (xs++ws) w'->w.grownBy w' v.ownBlock->wpList prog G Q rest (a.put o.dst (.slice A m c)) w'):wpList prog G Q (o::rest) a w:=by
 subst hn hm;obtain⟨V,U,O,P,R⟩:=info_parts y0s
 have S:∀H w',q7s B H (xs++ws) w'->w.grownBy w' v.ownBlock->wpList prog G Q rest (a.put o.dst H) w':=by
  intro H w' I M
  obtain⟨A,c,rfl⟩:∃A c,H=.slice A (xs.length+ws.length) c:=by
   rcases I.2 with⟨L,D⟩|⟨g,c,W,L,_⟩
   ·rw[length_append]at D;exact⟨.none,0,by rw[L,D]⟩
   ·rw[length_append]at L;exact⟨_,c,L⟩
  exact h A c w' I M
 cases wa with
 | none=>
  obtain⟨D,rfl⟩:=K rfl;obtain rfl:ws=[]:=List.eq_nil_of_length_eq_zero D;refine wpList_append_own_none J s x 91 ho B 131 V 3 Tryz.underlying91 U v xs.length (q1t xs) hs C hx ?_;refine S v w ?_ ⟨rfl,rfl,rfl,Nat.le_refl _,fun _ _ _=>rfl⟩;rw[List.append_nil];exact C
 | some ad=>
  have N:ws=[]\/∃b o,ad=⟨b,o,Option.none⟩:=by
   rcases Nat.eq_zero_or_pos ws.length with D|D
   ·exact .inl (List.eq_nil_of_length_eq_zero D)
   ·obtain⟨b,o,e,_⟩:=hW 0 D;exact .inr ⟨b,o,by simpa using e⟩
  refine wpList_append_own w J s x 91 ho B 131 V _ 3 32 Tryz.underlying91 U O P R rfl (by decide) v xs.length (q1t xs) hs C ad ws.length wc (q1t ws) hx (z0c ws) ?_ (k6o ws) (by unfold maxLen;omega) (by omega) E ?_
  ·rcases N with rfl|⟨b,o,rfl⟩
   ·intro j u X;simp[q1t]at X
   ·exact v0a hW
  ·intro H w' I M _;rw[<-k6m]at I;refine S H w' ?_ M;show w'.ownsRow _ _ _ _ _ _;rw[length_append];exact I
theorem q7s.down{B B':Nat}{v:Value}{xs:List Nd}{w:World}(h:q7s B v xs w)(hB:B'<=B):q7s B' v xs w:=by
 refine⟨h.1,?_⟩;rcases h.2 with D|⟨g,c,C,E,G,A⟩
 ·exact .inl D
 ·exact .inr ⟨g,c,C,E,by omega,A⟩
theorem q7s.kept{B:Nat}{v:Value}{xs:List Nd}{w w':World}(h:q7s B v xs w)(hk:∀g,B<=g->g<w.heap.size->w'.heap[g]?=w.heap[g]?):q7s B v xs w':=by
 refine⟨h.1,?_⟩;rcases h.2 with G|⟨g,c,C,H,D,E,A⟩
 ·exact .inl G
 ·exact .inr ⟨g,c,C,H,D,(hk g D (Array.getElem?_eq_some_iff.1 E).1).trans E,A⟩
theorem q7s.one(w:World)(x:Nd):q7s w.heap.size (.slice (some ⟨w.heap.size,0,Option.none⟩) 1 1) [x] (w.alloc (.cells #[.int .i64 x.op,.string x.tx,.int .i64 x.n] 131)):=by
 have A:(w.alloc (.cells #[.int .i64 x.op,.string x.tx,.int .i64 x.n] 131)).heap[w.heap.size]?=some (.cells #[.int .i64 x.op,.string x.tx,.int .i64 x.n] 131 (0,0)):=by
  show(w.heap.push _)[w.heap.size]?=_
  simp
 exact⟨rfl,.inr ⟨w.heap.size,1,_,rfl,Nat.le_refl _,A,Nat.le_refl _,by unfold maxLen;decide,rfl,rfl⟩⟩
set_option maxHeartbeats 1000000
def NdV(w:World)(v:Value)(xs:List Nd):Prop:=∃A c,v=.slice A xs.length c/\q2b w A xs/\(A=none->xs.length=0/\c=0)
theorem NdV.W{w w':World}{v:Value}{xs:List Nd}(h:NdV w v xs)(hb:Below w w w'):NdV w' v xs:=by
 obtain⟨A,c,e,B,C⟩:=h;exact⟨A,c,e,B.W hb,C⟩
theorem q7s.val{B:Nat}{w:World}{A:Option Addr}{c:Nat}{xs:List Nd}(h:q7s B (.slice A xs.length c) xs w):NdV w (.slice A xs.length c) xs:=⟨A,c,rfl,h.nods,h.none.2⟩
def NdR(w:World)(xs:List Nd)(e:Ending)(w':World):Prop:=∃A c,e=.returned (.slice A xs.length c)/\q7s w.heap.size (.slice A xs.length c) xs w'/\Below w w w'
theorem NdR.val{w:World}{xs:List Nd}{e:Ending}{w':World}(h:NdR w xs e w'):∃v,e=.returned v/\NdV w' v xs/\Below w w w':=by
 obtain⟨A,c,e,B,C⟩:=h;exact⟨_,e,B.val,C⟩
theorem NdR.from{w w0:World}{xs:List Nd}{e:Ending}{w':World}(h:NdR w xs e w')(hb:Below w0 w0 w):NdR w0 xs e w':=by
 obtain⟨A,c,e,B,C⟩:=h;exact⟨A,c,e,B.down hb.size,q0e hb Zl C⟩
theorem q1s(s:ByteArray)(w:World):Calls prog 61 #[.string s] w fun e w'=>NdR w [⟨1,s,0⟩] e w':=by
 have B:=hid (q7s.one w ⟨1,s,0⟩);have A:Hid (∀O:Obj,Below w w (w.alloc O)):=fun O=>(Below.refl _ w).alloc Zl O
 go_in;go_wp2;go_ret;exact⟨_,1,rfl,B.o,A.o _⟩
theorem q3j(x:Nd){xs:List Nd}{v:Value}(w:World)(hx:NdV w v xs)(hl:xs.length<=100000):Calls prog 63 #[.agg #[x.op,.string x.tx,x.n],v] w fun e w'=>NdR w (x::xs) e w':=by
 obtain⟨A,c,rfl,U,E⟩:=hx;obtain⟨C,D,B⟩:=x;have X:Hid (q2b w A xs):=U;have I:Hid (A=none->xs.length=0/\c=0):=E;clear U E;generalize V:xs.length=n at hl I⊢;have H:Hid (xs.length=n):=V;clear V
 have R:Hid (q7s w.heap.size (.slice ↑(w.heap.size+1) 1 1) [⟨C,D,B⟩] ((w.alloc (.cells #[↑C,.string D,↑B] 131)).alloc (.cells #[↑C,.string D,↑B] 131))):=by
  have h:=(q7s.one (w.alloc (.cells #[↑C,.string D,↑B] 131)) ⟨C,D,B⟩).down (B':=w.heap.size) (by rw[World.size_alloc];omega);rw[World.size_alloc]at h;exact h
 have G:Hid (Below w w ((w.alloc (.cells #[↑C,.string D,↑B] 131)).alloc (.cells #[↑C,.string D,↑B] 131))):=((Below.refl _ w).alloc Zl _).alloc (by rw[World.size_alloc];omega) _;have N:Hid (q2b ((w.alloc (.cells #[↑C,.string D,↑B] 131)).alloc (.cells #[↑C,.string D,↑B] 131)) A xs):=X.o.W G.o;simp only;go_in;go_wp2_with(at_builtin;refine z8p rfl _ _ rfl w.heap.size _ [⟨C,D,B⟩] rfl R.o A n xs H.o c rfl N.o I.o (1+n) rfl (by omega) (by simp only[World.size_alloc];omega) ?_);intro Q S P J L;have K:Below w w P:=G.o.grown L (by simp only[World.size_alloc];omega) (fun k hk=>(World.ownsRow.lt R.o k hk).1);have O:Hid (q7s w.heap.size (.slice Q (1+n) S) (⟨C,D,B⟩::xs) P):=J;have M:Hid (Below w w P):=K;clear J L K;go_wp2;go_ret;have e:(⟨C,D,B⟩::xs:List Nd).length=1+n:=by rw[length_cons,H.o];omega
 exact⟨Q,S,by rw[e];rfl,by rw[e];exact O.o,M.o⟩
theorem q1d{xs ys:List Nd}{v u:Value}(w:World)(hx:NdV w v xs)(hy:NdV w u ys)(hl:xs.length+ys.length<=100000):Calls prog 64 #[v,u] w fun e w'=>NdR w (⟨6,⟨#[]⟩,0⟩::(xs++ys)) e w':=by
 obtain⟨A,c,rfl,i,D⟩:=hx;obtain⟨R,f,rfl,h,B⟩:=hy;have q:Hid (q2b w A xs):=i;have p:Hid (q2b w R ys):=h;have K:Hid (A=none->xs.length=0/\c=0):=D;have I:Hid (R=none->ys.length=0/\f=0):=B;clear i D h B;generalize l:xs.length=n at hl K⊢;generalize j:ys.length=m at hl I⊢;have G:Hid (xs.length=n):=l;have H:Hid (ys.length=m):=j;clear l j;have Z:Hid (q7s w.heap.size (.slice w.heap.size 1 1) [⟨6,⟨#[]⟩,0⟩] (w.alloc (.cells #[.int .i64 6,.string ⟨#[]⟩,.int .i64 0] 131))):=q7s.one w ⟨6,⟨#[]⟩,0⟩;have E:Hid (Below w w (w.alloc (.cells #[.int .i64 6,.string ⟨#[]⟩,.int .i64 0] 131))):=(Below.refl _ w).alloc Zl _;have J:Hid (q2b (w.alloc (.cells #[.int .i64 6,.string ⟨#[]⟩,.int .i64 0] 131)) A xs):=q.o.W E.o;go_in;go_wp2_with(at_builtin;refine z8p rfl _ _ rfl w.heap.size _ [⟨6,⟨#[]⟩,0⟩] rfl Z.o A n xs G.o c rfl J.o K.o (1+n) rfl (by omega) (by simp only[World.size_alloc];omega) ?_);intro o r S M P;have C:Below w w S:=E.o.grown P (by simp only[World.size_alloc];omega) (fun k hk=>(World.ownsRow.lt Z.o k hk).1);have L:Hid (q7s w.heap.size (.slice o (1+n) r) (⟨6,⟨#[]⟩,0⟩::xs) S):=M;have U:Hid (Below w w S):=C;have Y:Hid (q2b S R ys):=p.o.W C;have s:=C.size
 have X:Hid ((⟨6,⟨#[]⟩,0⟩::xs:List Nd).length+m=1+n+m):=by
  show _=_;rw[length_cons,G.o];omega
 clear M P C Z E J;go_wp2_with(at_builtin;refine z8p rfl _ _ rfl w.heap.size _ (⟨6,⟨#[]⟩,0⟩::xs) rfl L.o R m ys H.o f rfl Y.o I.o (1+n+m) X.o (by omega) (by omega) ?_);intro d g b N Q;have O:Below w w b:=U.o.grown Q (by omega) (fun k hk=>(World.ownsRow.lt L.o k hk).1);have a:Hid (q7s w.heap.size (.slice d (1+n+m) g) (⟨6,⟨#[]⟩,0⟩::(xs++ys)) b):=N;have V:Hid (Below w w b):=O;clear N Q O;go_wp2;go_ret;have e:(⟨6,⟨#[]⟩,0⟩::(xs++ys):List Nd).length=1+n+m:=by rw[length_cons,length_append,G.o,H.o];omega
 exact⟨d,g,by rw[e];rfl,by rw[e];exact a.o,V.o⟩
set_option maxHeartbeats 4000000
abbrev y6g(ds:List Td)(a:Option Addr)(cap i:Nat)(D:Tr)(W:World):Prop:=
 Calls prog 37 #[.slice a ds.length cap,.int .i64 (i:Int)] W fun e w'=>NdR W D.N e w'
theorem y8d{l:Nat}{x:Td}{D:Tr}(h:prc x<l):(inD l x D).N=⟨6,⟨#[]⟩,0⟩::([⟨1,⟨#[40]⟩,0⟩]++(⟨6,⟨#[]⟩,0⟩::(D.N++[⟨1,⟨#[41]⟩,0⟩]))):=by
 rw[inD,if_pos h];rfl
theorem g1x{l:Nat}{x:Td}{D:Tr}(h:¬prc x<l):(inD l x D).N=D.N:=by rw[inD,if_neg h]
theorem z7g{ds:List Td}{a:Option Addr}{cap p i:Nat}(W:World)(hN:Tds W a ds)(hp:p<ds.length)(hi:i<ds.length)(Ae:ds[p].op=5\/ds[p].op=6)(E:Bool)(D:Tr)(hz:D.N.length<=10000)(hT:y6g ds a cap i D W):
  Calls prog 62 #[.slice a ds.length cap,(p:Int),(i:Int),.bool E] W fun e w'=>NdR W (inD (lvl ds[p].op E) ds[i] D).N e w':=by
 have HN:=hid hN;have j:=hid hT
 have I:Hid (∀W':World,Cb 73 #[tdV ds[p],tdV ds[i],.bool E] W' (.bool (decide (prc ds[i]<lvl ds[p].op E)))):=fun W'=>by
  have:=z7t ds[p] ds[i] E W'
  rw[j5k _ _ _ Ae]at this;exact this
 have Ao:(p:Int)<(ds.length:Int):=by omega
 have An:(i:Int)<(ds.length:Int):=by omega
 have Z:Hid (prc ds[i]<lvl ds[p].op E->(inD (lvl ds[p].op E) ds[i] D).N=⟨6,⟨#[]⟩,0⟩::([⟨1,⟨#[40]⟩,0⟩]++(⟨6,⟨#[]⟩,0⟩::(D.N++[⟨1,⟨#[41]⟩,0⟩])))):=y8d;have J:Hid (¬prc ds[i]<lvl ds[p].op E->(inD (lvl ds[p].op E) ds[i] D).N=D.N):=g1x
 have f:Hid (∀W',Below W W W'->∃b o,a=some ↑(b,o)/\b<W'.heap.size/\(W'.cell? ↑(b,o+p*3)=some (↑ds[p].op)/\W'.cell? ↑(b,o+p*3+1)=some (.string ds[p].tx)/\W'.cell? ↑(b,o+p*3+2)=some (↑ds[p].n))/\(W'.cell? ↑(b,o+i*3)=some (↑ds[i].op)/\W'.cell? ↑(b,o+i*3+1)=some (.string ds[i].tx)/\W'.cell? ↑(b,o+i*3+2)=some (↑ds[i].n))):=fun W' O=>by
  obtain⟨A,op,e1,Ak,U,V,X⟩:=(HN.o.W O) p hp;obtain⟨bi,oi,e2,Am,P,Q,S⟩:=(HN.o.W O) i hi;rw[e1]at e2;simp only[Option.some.injEq,Addr.mk.injEq,and_true]at e2;obtain⟨rfl,rfl⟩:=e2;exact⟨A,op,e1,Ak,⟨U,V,X⟩,⟨P,Q,S⟩⟩
 generalize(inD (lvl ds[p].op E) ds[i] D).N=R at Z J⊢
 generalize Al:lvl ds[p].op E=l at Z J I;unfold y6g at j;generalize D.N=xs at Z J j hz;clear hN hT Ae Al HN;generalize ds[p]=xp at f I;generalize ds[i]=xi at f I Z J;generalize prc xi=pr at Z J I;obtain⟨r,s,q⟩:=xp;obtain⟨k,m,K⟩:=xi;by_cases O:pr<l
 ·have HR:=(show Hid (_=_)from Z.o O);have c:=hid (decide_eq_true O);clear O Z J;go_in;go_wp2_with fail;refine j.o.mono ?_;rintro e G H;obtain⟨v1,rfl,M,d⟩:=H.val;have Aa:=hid M;obtain⟨A,op,rfl,C,⟨U,V,X⟩,P,Q,S⟩:=f.o G d;have L:Hid (Cp 73 #[tdV ⟨r,s,q⟩,tdV ⟨k,m,K⟩,.bool E] G.drew fun e w'=>e=.returned (.bool (decide (pr<l)))/\Below G G w'):=(I.o G.drew).mono fun _ _ h=>⟨h.1,(Below.refl G.heap.size G).drew.trans h.2⟩
  have d1:G.drew.cell? ↑(A,op+p*3)=some ↑r:=U;have d2:G.drew.cell? ↑(A,op+p*3+1)=some (.string s):=V;have d3:G.drew.cell? ⟨A,op+p*3+2,none⟩=some (.int .i64 q):=X;have d4:G.drew.cell? ⟨A,op+i*3,none⟩=some (.int .i64 k):=P;have d5:G.drew.cell? ⟨A,op+i*3+1,none⟩=some (.string m):=Q;have d6:G.drew.cell? ⟨A,op+i*3+2,none⟩=some (.int .i64 K):=S;have Y:=hid d;clear f I j d M H;go_wp2_with fail
  go_region_held3 (fun w'=>w'.cell? ⟨A,op+p*3,none⟩=some (.int .i64 r)/\w'.cell? ⟨A,op+p*3+1,none⟩=some (.string s)/\w'.cell? ⟨A,op+p*3+2,none⟩=some (.int .i64 q)/\w'.cell? ⟨A,op+i*3,none⟩=some (.int .i64 k)/\w'.cell? ⟨A,op+i*3+1,none⟩=some (.string m)/\w'.cell? ⟨A,op+i*3+2,none⟩=some (.int .i64 K))
   (first|with_reducible exact⟨d1,d2,d3,d4,d5,d6⟩|with_reducible exact⟨U,V,X,P,Q,S⟩|with_reducible exact⟨(B.cell (p:=⟨A,_,none⟩) C).trans U,(B.cell (p:=⟨A,_,none⟩) C).trans V,(B.cell (p:=⟨A,_,none⟩) C).trans X,(B.cell (p:=⟨A,_,none⟩) C).trans P,(B.cell (p:=⟨A,_,none⟩) C).trans Q,(B.cell (p:=⟨A,_,none⟩) C).trans S⟩)
   ((go_at_call 73;refine L.o.mono ?_;rintro e w2⟨rfl,B⟩;rw[c.o]))
  all_goals
   have Ab:=hid (Aa.o.W B);have t:=hid (q0e Y.o Zl B);clear B;go_wp2_with fail;refine(q1s _ _).mono ?_;rintro e w3 h3;obtain⟨v3,rfl,n3,b3⟩:=h3.val;have u:=hid (q0e t.o Zl b3);have Ac:=hid n3;have w:=hid (Ab.o.W b3);clear h3 n3 b3 t Ab;go_wp2_with fail;refine(q1s _ _).mono ?_;rintro e w4 h4;obtain⟨v4,rfl,n4,b4⟩:=h4.val;have v:=hid (q0e u.o Zl b4);have Ad:=hid n4;have x:=hid (w.o.W b4);have y:=hid (Ac.o.W b4);clear h4 n4 b4 u Ac w;go_wp2_with fail;refine(q1d _ x.o Ad.o (by simp;omega)).mono ?_;rintro e w5 h5;obtain⟨v5,rfl,n5,b5⟩:=h5.val;have Af:=hid (q0e v.o Zl b5);have Aj:=hid n5;have Ag:=hid (y.o.W b5);clear h5 n5 b5 v Ad x y;go_wp2_with fail;refine(q1d _ Ag.o Aj.o (by simp;omega)).mono ?_;rintro e w6 h6
   have Ah:Hid (NdR W R e w6):=by
    show NdR W R e w6;rw[HR.o];exact h6.from Af.o
   obtain⟨v6,rfl,_,_⟩:=h6.val;clear h6;go_wp2;go_ret;exact Ah.o
 ·have HR:=(show Hid (_=_)from J.o O);have c:=hid (decide_eq_false O);clear O Z J;go_in;go_wp2_with fail;refine j.o.mono ?_;rintro e G H;have z:=hid H;obtain⟨v1,rfl,M,d⟩:=H.val;have Aa:=hid M;obtain⟨A,op,rfl,C,⟨U,V,X⟩,P,Q,S⟩:=f.o G d;have L:Hid (Cp 73 #[tdV ⟨r,s,q⟩,tdV ⟨k,m,K⟩,.bool E] G.drew fun e w'=>e=.returned (.bool (decide (pr<l)))/\Below G G w'):=(I.o G.drew).mono fun _ _ h=>⟨h.1,(Below.refl G.heap.size G).drew.trans h.2⟩
  have d1:G.drew.cell? ↑(A,op+p*3)=some ↑r:=U;have d2:G.drew.cell? ↑(A,op+p*3+1)=some (.string s):=V;have d3:G.drew.cell? ↑(A,op+p*3+2)=some ↑q:=X;have d4:G.drew.cell? ↑(A,op+i*3)=some ↑k:=P;have d5:G.drew.cell? ↑(A,op+i*3+1)=some (.string m):=Q;have d6:G.drew.cell? ↑(A,op+i*3+2)=some ↑K:=S;have Y:=hid d;clear f I j d M H;go_wp2_with fail
  go_region_held3 (fun w'=>w'.cell? ⟨A,op+p*3,none⟩=some (.int .i64 r)/\w'.cell? ⟨A,op+p*3+1,none⟩=some (.string s)/\w'.cell? ⟨A,op+p*3+2,none⟩=some (.int .i64 q)/\w'.cell? ⟨A,op+i*3,none⟩=some (.int .i64 k)/\w'.cell? ⟨A,op+i*3+1,none⟩=some (.string m)/\w'.cell? ⟨A,op+i*3+2,none⟩=some (.int .i64 K))
   (first|with_reducible exact⟨d1,d2,d3,d4,d5,d6⟩|with_reducible exact⟨U,V,X,P,Q,S⟩|with_reducible exact⟨(B.cell (p:=⟨A,_,none⟩) C).trans U,(B.cell (p:=⟨A,_,none⟩) C).trans V,(B.cell (p:=⟨A,_,none⟩) C).trans X,(B.cell (p:=⟨A,_,none⟩) C).trans P,(B.cell (p:=⟨A,_,none⟩) C).trans Q,(B.cell (p:=⟨A,_,none⟩) C).trans S⟩)
   ((go_at_call 73;refine L.o.mono ?_;rintro e w2⟨rfl,B⟩;rw[c.o]))
  all_goals
   obtain⟨A9,c9,e9,o9,b9⟩:=z.o;have Ai:Hid (NdR W R (.returned v1) w2):=⟨A9,c9,by rw[HR.o];exact e9,by rw[HR.o];exact o9.kept fun g _ h=>B.block g h,q0e b9 Zl B⟩;clear B o9 b9;go_wp2;go_ret;exact Ai.o
def DcH(ds:List Td)(a:Option Addr)(cap:Nat)(F:Fo)(D:Tr):Prop:=∀i r,ds.drop i=F.N++r->∀W:World,Tds W a ds->y6g ds a cap i D W
def DcA(ds:List Td)(a:Option Addr)(cap:Nat):Fo->Prop
 | .nil=>True
 | .cons x k n=>DcH ds a cap (.cons x k n) (q0r x k.D)/\DcA ds a cap n
def j4c(w:World)(b:Nat)(o:Int)(t:ByteArray)(n:Int):Prop:=b<w.heap.size/\w.cell? ⟨b,0,none⟩=some (.int .i64 o)/\w.cell? ⟨b,1,none⟩=some (.string t)/\w.cell? ⟨b,2,none⟩=some (.int .i64 n)
theorem j4c.W{w w':World}{b:Nat}{o:Int}{t:ByteArray}{n:Int}(h:j4c w b o t n)(hb:Below w w w'):j4c w' b o t n:=by
 obtain⟨A,B,C,D⟩:=h
 have:=hb.size
 exact⟨by omega,((q0s hb).1 _ _ A).trans B,((q0s hb).1 _ _ A).trans C,((q0s hb).1 _ _ A).trans D⟩
theorem j4c.new(w:World)(o:Int)(t:ByteArray)(n:Int)(ty:TypeId):j4c (w.alloc (.cells #[o,.string t,n] ty)) w.heap.size o t n:=by
 have A:(w.alloc (.cells #[o,.string t,n] ty)).heap[w.heap.size]?=some (.cells #[o,.string t,n] ty (0,0)):=by
  show(w.heap.push _)[w.heap.size]?=_
  simp
 have B:∀k,(w.alloc (.cells #[.int .i64 o,.string t,.int .i64 n] ty)).cell? ⟨w,k,none⟩=(match (w.alloc (.cells #[.int .i64 o,.string t,.int .i64 n] ty)).heap[w.heap.size]? with
  | some (.cells c _ _)=>c[k]?
  | _=>none):=fun _=>rfl
 exact⟨by rw[World.size_alloc];omega,by rw[B,A];rfl,by rw[B,A];rfl,by rw[B,A];rfl⟩
structure q1o(W:World)(x:Td)(w:World):Prop where
 b:Below W W w
 n:j4c w W.heap.size x.op x.tx x.n
 bl:NdV w (.slice (some ⟨W.heap.size+1,0,none⟩) 1 1) [⟨2,⟨#[]⟩,0⟩]
 sf:NdV w (.slice (some ⟨W.heap.size+1+1,0,none⟩) 1 1) [⟨3,⟨#[]⟩,0⟩]
 gr:j4c w (W.heap.size+1+1+1) 8 ⟨#[]⟩ 0
 dp:j4c w (W.heap.size+1+1+1+1) 7 ⟨#[]⟩ 2
theorem q1o.W{W:World}{x:Td}{w w':World}(h:q1o W x w)(hb:Below w w w'):q1o W x w':=
 ⟨q0e h.b Zl hb,h.n.W hb,h.bl.W hb,h.sf.W hb,h.gr.W hb,h.dp.W hb⟩
abbrev dcW(W:World)(o:Int)(t:ByteArray)(n:Int):World:=((((W.alloc (.cells #[.int .i64 o,.string t,.int .i64 n] 71)).alloc (.cells #[.int .i64 2,.string ⟨#[]⟩,.int .i64 0] 131)).alloc (.cells #[.int .i64 3,.string ⟨#[]⟩,.int .i64 0] 131)).alloc (.cells #[.int .i64 8,.string ⟨#[]⟩,.int .i64 0] 131)).alloc (.cells #[.int .i64 7,.string ⟨#[]⟩,.int .i64 2] 131)
theorem k1x(W:World)(x:Td):q1o W x (dcW W x.op x.tx x.n):=by
 have s:∀(w:World)(O:Obj),Below w w (w.alloc O):=fun w O=>(Below.refl _ w).alloc Zl O
 have G:=((((j4c.new W x.op x.tx x.n 71).W (s _ (.cells #[.int .i64 2,.string ⟨#[]⟩,.int .i64 0] 131))).W (s _ (.cells #[.int .i64 3,.string ⟨#[]⟩,.int .i64 0] 131))).W (s _ (.cells #[.int .i64 8,.string ⟨#[]⟩,.int .i64 0] 131))).W (s _ (.cells #[.int .i64 7,.string ⟨#[]⟩,.int .i64 2] 131));generalize M:Obj.cells #[x.op,.string x.tx,x.n] 71=O at G;have I:(W.alloc O).heap.size=W.heap.size+1:=World.size_alloc _ _;have C:=(q7s.one (W.alloc O) ⟨2,⟨#[]⟩,0⟩).val;have J:((W.alloc O).alloc (.cells #[.int .i64 2,.string ⟨#[]⟩,.int .i64 0] 131)).heap.size=W.heap.size+1+1:=by rw[World.size_alloc,I]
 rw[I]at C;have A:=((C.W (s _ (.cells #[.int .i64 3,.string ⟨#[]⟩,.int .i64 0] 131))).W (s _ (.cells #[.int .i64 8,.string ⟨#[]⟩,.int .i64 0] 131))).W (s _ (.cells #[.int .i64 7,.string ⟨#[]⟩,.int .i64 2] 131));have H:=(q7s.one ((W.alloc O).alloc (.cells #[.int .i64 2,.string ⟨#[]⟩,.int .i64 0] 131)) ⟨3,⟨#[]⟩,0⟩).val;rw[J]at H;have K:(((W.alloc O).alloc (.cells #[.int .i64 2,.string ⟨#[]⟩,.int .i64 0] 131)).alloc (.cells #[.int .i64 3,.string ⟨#[]⟩,.int .i64 0] 131)).heap.size=W.heap.size+1+1+1:=by rw[World.size_alloc,J]
 have B:=(H.W (s _ (.cells #[.int .i64 8,.string ⟨#[]⟩,.int .i64 0] 131))).W (s _ (.cells #[.int .i64 7,.string ⟨#[]⟩,.int .i64 2] 131));have E:=j4c.new (((W.alloc O).alloc (.cells #[.int .i64 2,.string ⟨#[]⟩,.int .i64 0] 131)).alloc (.cells #[.int .i64 3,.string ⟨#[]⟩,.int .i64 0] 131)) 8 ⟨#[]⟩ 0 131;rw[K]at E;have N:((((W.alloc O).alloc (.cells #[.int .i64 2,.string ⟨#[]⟩,.int .i64 0] 131)).alloc (.cells #[.int .i64 3,.string ⟨#[]⟩,.int .i64 0] 131)).alloc (.cells #[.int .i64 8,.string ⟨#[]⟩,.int .i64 0] 131)).heap.size=W.heap.size+1+1+1+1:=by rw[World.size_alloc,K]
 have D:=j4c.new ((((W.alloc O).alloc (.cells #[.int .i64 2,.string ⟨#[]⟩,.int .i64 0] 131)).alloc (.cells #[.int .i64 3,.string ⟨#[]⟩,.int .i64 0] 131)).alloc (.cells #[.int .i64 8,.string ⟨#[]⟩,.int .i64 0] 131)) 7 ⟨#[]⟩ 2 131;rw[N]at D
 have L:Below W W (dcW W x.op x.tx x.n):=by
  refine(((((Below.refl _ W).alloc Zl _).alloc ?_ _).alloc ?_ _).alloc ?_ _).alloc ?_ _<;>simp only[World.size_alloc]<;>omega
 subst M;exact⟨L,G,A,B,E.W (s _ _),D⟩
theorem k8i{ds:List Td}{a:Option Addr}{cap:Nat}(hs:j0w ds){x:Td}{k n:Fo}(E:(Fo.cons x k n).ok)(hx:exN x)(h2:x.op=1\/x.op=2):DcH ds a cap (.cons x k n) (q0r x k.D):=by
 intro i r O W N;obtain⟨c,M,_,_,_⟩:=z3t O E;obtain⟨b,o,rfl,f,U,V,X⟩:=N i c;have g:=hs.l;have Z:(i:Int)<(ds.length:Int):=by omega
 rw[M]at U V X;have B:Hid (q1o W x (dcW W x.op x.tx x.n)):=k1x W x;obtain⟨j,J,Y⟩:=x;simp only at U V X B h2;rcases q2c hx with⟨A,Q,G,H,_⟩|⟨A,_,I,_⟩|⟨A,_⟩|⟨A,_⟩|⟨A,_⟩|⟨A,_⟩
 ·simp only at A G H;subst A;obtain⟨m,rfl⟩:∃m:Nat,Y=(m:Int):=⟨Y.toNat,by omega⟩;have L:Hid (q0r ⟨1,J,(m:Int)⟩ k.D=wdD (q3o m)):=by show _=_;simp[q0r]
  have P:m<=999999:=by omega
  clear M O E hx h2 Q G H N;unfold y6g;rw[L.o];have S:Hid (∀W:World,Cw 45 #[(m:Int)] W (.string (wbS (q3o m)))):=fun W=>k9w m P W
  show Calls _ _ _ _ fun e w'=>NdR W [⟨1,wbS (q3o m),0⟩] e w'
  generalize wbS (q3o m)=T at S⊢;go_in;go_wp2_with fail;refine(S.o _).mono ?_;rintro e h⟨rfl,rfl⟩;go_wp2_with fail;refine(q1s _ _).mono ?_;rintro e R C;have K:Hid (NdR W [⟨1,T,0⟩] e R):=C.from B.o.b;obtain⟨d,rfl,_,_⟩:=C.val;clear C;go_wp2;go_ret;exact K.o
 ·simp only at A I;subst A I;have L:Hid (q0r ⟨2,J,0⟩ k.D=wdD (btL J)):=by show _=_;simp[q0r]
  clear M O E hx h2 N;unfold y6g;rw[L.o];show Calls _ _ _ _ fun e w'=>NdR W [⟨1,J,0⟩] e w'
  go_in;go_wp2_with fail;refine(q1s _ _).mono ?_;rintro e R C;have K:Hid (NdR W [⟨1,J,0⟩] e R):=C.from B.o.b;obtain⟨d,rfl,_,_⟩:=C.val;clear C;go_wp2;go_ret;exact K.o
 ·simp only at A;omega
 ·simp only at A;omega
 ·simp only at A;omega
 ·simp only at A;omega
set_option maxHeartbeats 8000000
theorem z3z{ds:List Td}(hs:j0w ds){i:Nat}{F:Fo}{r:List Td}(h:ds.drop i=F.N++r):z4d F.D<=800:=by
 have B:=z6v F;have A:=congrArg length h;rw[List.length_drop,length_append]at A
 have:=hs.l
 omega
abbrev Six(W w:World):Prop:=w.cell? ⟨W.heap.size+1+1+1,0,none⟩=some (.int .i64 8)/\w.cell? ⟨W.heap.size+1+1+1,1,none⟩=some (.string ⟨#[]⟩)/\w.cell? ⟨W.heap.size+1+1+1,2,none⟩=some (.int .i64 0)/\w.cell? ⟨W.heap.size+1+1+1+1,0,none⟩=some (.int .i64 7)/\w.cell? ⟨W.heap.size+1+1+1+1,1,none⟩=some (.string ⟨#[]⟩)/\w.cell? ⟨W.heap.size+1+1+1+1,2,none⟩=some (.int .i64 2)
theorem q1o.six{W:World}{x:Td}{w:World}(h:q1o W x w):Six W w:=⟨h.gr.2.1,h.gr.2.2.1,h.gr.2.2.2,h.dp.2.1,h.dp.2.2.1,h.dp.2.2.2⟩
theorem j6l{ds:List Td}{a:Option Addr}{cap:Nat}(hs:j0w ds){x:Td}{k n:Fo}(Z:(Fo.cons x k n).ok)(Az:(Fo.cons x k n).exs)(h2:x.op=5\/x.op=6)(hk:DcA ds a cap k):DcH ds a cap (.cons x k n) (q0r x k.D):=by
 intro i r hi W hN;obtain⟨hp,e1,e2,_,_⟩:=z3t hi Z
 have A0:kdT x=2:=by
  unfold kdT;rcases h2 with h|h<;>rw[h]<;>rfl
 have A1:k.len=2:=Z.1.trans A0
 obtain⟨B,K,C,L,rfl⟩:∃B K C L,k=.cons B K (.cons C L .nil):=by
  match k,A1 with
  | .cons B K (.cons C L .nil),_=>exact⟨B,K,C,L,rfl⟩
 have Ax:(Fo.cons B K (.cons C L .nil)).D=[(B,q0r B K.D),(C,q0r C L.D)]:=rfl;have hz:=z3z hs e2;rw[Ax,q2k,q2k]at hz;obtain⟨Av,ea,_,As,Aq⟩:=z3t e2 Z.2.1;obtain⟨Aw,eb,_,_,_⟩:=z3t Aq Z.2.1.2.2;generalize hj:i+1+1+K.N.length=j at As Aq Aw eb;have HN:Hid (Tds W a ds):=hN;have hl:=hs.l;have A4:(q0r B K.D).N.length<=800:=by simp only at hz;omega
 have A5:(q0r C L.D).N.length<=800:=by simp only at hz;omega
 have Aa:Hid (∀W':World,Below W W W'->Cp 62 #[.slice a ds.length cap,.int .i64 (i:Int),.int .i64 ((i:Int)+1),.bool false] W' fun e w'=>NdR W' (inD (lvl x.op false) B (q0r B K.D)).N e w'):=fun W' d=>by
  have h:=z7g W' (hN.W d) hp Av (by rw[e1];exact h2) false (q0r B K.D) (by omega) (hk.1 (i+1) _ e2 W' (hN.W d)) (cap:=cap);rw[e1,ea,show((i+1:Nat):Int)=(i:Int)+1 by omega]at h;exact h
 have Ar:Hid (∀W':World,Below W W W'->Cb 47 #[.slice a ds.length cap,.int .i64 ((i:Int)+1)] W' (.int .i64 (j:Int))):=fun W' d=>by
  have h:=z0u (cap:=cap) hs As Av W' (hN.W d);rw[show((i+1:Nat):Int)=(i:Int)+1 by omega]at h;exact h
 have Ab:Hid (∀W':World,Below W W W'->Cp 62 #[.slice a ds.length cap,.int .i64 (i:Int),.int .i64 (j:Int),.bool true] W' fun e w'=>NdR W' (inD (lvl x.op true) C (q0r C L.D)).N e w'):=fun W' d=>by
  have h:=z7g W' (hN.W d) hp Aw (by rw[e1];exact h2) true (q0r C L.D) (by omega) (hk.2.1 j _ Aq W' (hN.W d)) (cap:=cap);rw[e1,eb]at h;exact h
 have At:=j2f (lvl x.op false) B (q0r B K.D);have Au:=j2f (lvl x.op true) C (q0r C L.D)
 have Ay:Hid ((q0r x [(B,q0r B K.D),(C,q0r C L.D)]).N=⟨8,⟨#[]⟩,0⟩::(⟨6,⟨#[]⟩,0⟩::((inD (lvl x.op false) B (q0r B K.D)).N++(⟨7,⟨#[]⟩,2⟩::(⟨6,⟨#[]⟩,0⟩::([⟨2,⟨#[]⟩,0⟩]++(⟨6,⟨#[]⟩,0⟩::([⟨1,(if x.op=5 then⟨#[43,32]⟩else⟨#[42,32]⟩),0⟩]++(inD (lvl x.op true) C (q0r C L.D)).N)))))))):=by
  show _=_;rcases h2 with h|h
  ·rw[if_pos h];simp[q0r,h,tw2,lvl,Tr.N];rfl
  ·rw[if_neg (by omega)];simp[q0r,h,tw2,lvl,Tr.N];rfl
 obtain⟨b,o,rfl,d,c1,c2,c3⟩:=hN i hp;have A3:(i:Int)<(ds.length:Int):=by omega
 rw[e1]at c1 c2 c3;have Ad:Hid (q1o W x (dcW W x.op x.tx x.n)):=k1x W x;unfold y6g;rw[Ax,Ay.o]
 generalize(inD (lvl x.op false) B (q0r B K.D)).N=ls at Aa At⊢
 generalize(inD (lvl x.op true) C (q0r C L.D)).N=rs at Ab Au⊢
 have hx:=q2c (Az x (by simp[Fo.N]));obtain⟨xo,xt,xn⟩:=x;simp only at c1 c2 c3 Ad h2 hx At Au⊢
 have A2:xt=⟨#[]⟩/\xn=0:=by
  rcases hx with⟨ho,_⟩|⟨ho,_⟩|⟨ho,_⟩|⟨ho,_⟩|⟨_,h1,h3,_⟩|⟨_,h1,h3,_⟩
  ·omega
  ·omega
  ·omega
  ·omega
  ·exact⟨h1,h3⟩
  ·exact⟨h1,h3⟩
 obtain⟨rfl,rfl⟩:=A2;rcases h2 with rfl|rfl
 ·simp only[if_true];go_in;go_wp2_with fail;have E:=(show Hid (q1o W ⟨5,⟨#[]⟩,0⟩ (dcW W 5 ⟨#[]⟩ 0))from Ad.o);refine(Aa.o _ E.o.b).mono ?_;rintro e w1 h1;obtain⟨J,rfl,n1,b1⟩:=h1.val;have O:Hid (q1o W ⟨5,⟨#[]⟩,0⟩ w1):=E.o.W b1;have Ag:Hid (NdV w1 J ls):=n1;go_wp2_with fail;refine(Ar.o _ O.o.b).mono ?_;rintro e w2⟨rfl,b2⟩;have P:Hid (q1o W ⟨5,⟨#[]⟩,0⟩ w2):=O.o.W b2;have Ah:Hid (NdV w2 J ls):=Ag.o.W b2;go_wp2_with fail;refine(Ab.o _ P.o.b).mono ?_;rintro e A h3;obtain⟨v3,rfl,n3,b3⟩:=h3.val;have G:Hid (q1o W ⟨5,⟨#[]⟩,0⟩ A):=P.o.W b3;have f:Hid (NdV A J ls):=Ah.o.W b3;have s:Hid (NdV A v3 rs):=n3;have Ai:Hid (Six W A):=G.o.six;have Ap:Hid (Six W A.drew):=G.o.six;have v:Hid (Below A A A.drew):= Zb.drew;go_wp2_with fail
  go_region_held3 (fun w'=>Six W w') (first|with_reducible exact Ap.o|with_reducible exact Ai.o|with_reducible exact Aj.o|with_reducible exact Ak.o|with_reducible exact Al.o|with_reducible exact Am.o|with_reducible exact An.o|with_reducible exact Ao.o)
   (first
     | (go_at_call 63;refine((q3j ⟨8,⟨#[]⟩,0⟩ (c) z.o (by simp<;>omega))).mono ?_;rintro e w9 h9;have Ae:Hid (NdR W (⟨8,⟨#[]⟩,0⟩::(⟨6,⟨#[]⟩,0⟩::(ls++(⟨7,⟨#[]⟩,2⟩::(⟨6,⟨#[]⟩,0⟩::([⟨2,⟨#[]⟩,0⟩]++(⟨6,⟨#[]⟩,0⟩::([⟨1,⟨#[43,32]⟩,0⟩]++rs)))))))) e w9):=h9.from I.o.b;obtain⟨v9,rfl,n9,b9⟩:=h9.val;have Ac:Hid (q1o W ⟨5,⟨#[]⟩,0⟩ w9):=I.o.W b9;have Ao:Hid (Six W w9):=Ac.o.six;clear h9 n9 b9)
     | (go_at_call 64;refine((q1d (X) q.o y.o (by simp<;>omega))).mono ?_;rintro e c h8;obtain⟨v8,rfl,n8,b8⟩:=h8.val;have I:Hid (q1o W ⟨5,⟨#[]⟩,0⟩ c):=S.o.W b8;have An:Hid (Six W c):=I.o.six;have z:Hid (NdV c v8 (⟨6,⟨#[]⟩,0⟩::(ls++(⟨7,⟨#[]⟩,2⟩::(⟨6,⟨#[]⟩,0⟩::([⟨2,⟨#[]⟩,0⟩]++(⟨6,⟨#[]⟩,0⟩::([⟨1,⟨#[43,32]⟩,0⟩]++rs)))))))):=n8;clear h8 n8 b8)
     | (go_at_call 63;refine((q3j ⟨7,⟨#[]⟩,2⟩ (V) w.o (by simp<;>omega))).mono ?_;rintro e X h7;obtain⟨v7,rfl,n7,b7⟩:=h7.val;have S:Hid (q1o W ⟨5,⟨#[]⟩,0⟩ X):=R.o.W b7;have Am:Hid (Six W X):=S.o.six;have q:Hid (NdV X J (ls)):=p.o.W b7;have y:Hid (NdV X v7 (⟨7,⟨#[]⟩,2⟩::(⟨6,⟨#[]⟩,0⟩::([⟨2,⟨#[]⟩,0⟩]++(⟨6,⟨#[]⟩,0⟩::([⟨1,⟨#[43,32]⟩,0⟩]++rs)))))):=n7;clear h7 n7 b7)
     | (go_at_call 64;refine((q1d (U) H.o.bl u.o (by simp<;>omega))).mono ?_;rintro e V h6;obtain⟨v6,rfl,n6,b6⟩:=h6.val;have R:Hid (q1o W ⟨5,⟨#[]⟩,0⟩ V):=H.o.W b6;have Al:Hid (Six W V):=R.o.six;have p:Hid (NdV V J (ls)):=m.o.W b6;have w:Hid (NdV V v6 (⟨6,⟨#[]⟩,0⟩::([⟨2,⟨#[]⟩,0⟩]++(⟨6,⟨#[]⟩,0⟩::([⟨1,⟨#[43,32]⟩,0⟩]++rs))))):=n6;clear h6 n6 b6)
     | (go_at_call 64;refine((q1d (M) Af.o t.o (by simp<;>omega))).mono ?_;rintro e U h5;obtain⟨v5,rfl,n5,b5⟩:=h5.val;have H:Hid (q1o W ⟨5,⟨#[]⟩,0⟩ U):=Q.o.W b5;have Ak:Hid (Six W U):=H.o.six;have m:Hid (NdV U J (ls)):=g.o.W b5;have u:Hid (NdV U v5 (⟨6,⟨#[]⟩,0⟩::([⟨1,⟨#[43,32]⟩,0⟩]++rs))):=n5;clear h5 n5 b5)
     | (go_at_call 61;refine((q1s _ (A.drew)).mono fun _ _ h=>h.from v.o).mono ?_;rintro e M h4;obtain⟨v4,rfl,n4,Y⟩:=h4.val;have Q:Hid (q1o W ⟨5,⟨#[]⟩,0⟩ M):=G.o.W Y;have Aj:Hid (Six W M):=Q.o.six;have g:Hid (NdV M J (ls)):=f.o.W Y;have t:Hid (NdV M v3 (rs)):=s.o.W Y;have Af:Hid (NdV M v4 ([⟨1,⟨#[43,32]⟩,0⟩])):=n4;clear h4 n4 Y))
  all_goals
   go_wp2;go_ret;exact Ae.o
 ·simp only[show ¬(6:Int)=5 by decide,if_false];go_in;go_wp2_with fail;have E:=(show Hid (q1o W ⟨6,⟨#[]⟩,0⟩ (dcW W 6 ⟨#[]⟩ 0))from Ad.o);refine(Aa.o _ E.o.b).mono ?_;rintro e w1 h1;obtain⟨J,rfl,n1,b1⟩:=h1.val;have O:Hid (q1o W ⟨6,⟨#[]⟩,0⟩ w1):=E.o.W b1;have Ag:Hid (NdV w1 J ls):=n1;go_wp2_with fail;refine(Ar.o _ O.o.b).mono ?_;rintro e w2⟨rfl,b2⟩;have P:Hid (q1o W ⟨6,⟨#[]⟩,0⟩ w2):=O.o.W b2;have Ah:Hid (NdV w2 J ls):=Ag.o.W b2;go_wp2_with fail;refine(Ab.o _ P.o.b).mono ?_;rintro e A h3;obtain⟨v3,rfl,n3,b3⟩:=h3.val;have G:Hid (q1o W ⟨6,⟨#[]⟩,0⟩ A):=P.o.W b3;have f:Hid (NdV A J ls):=Ah.o.W b3;have s:Hid (NdV A v3 rs):=n3;have Ai:Hid (Six W A):=G.o.six;have Ap:Hid (Six W A.drew):=G.o.six;have v:Hid (Below A A A.drew):= Zb.drew;go_wp2_with fail
  go_region_held3 (fun w'=>Six W w') (first|with_reducible exact Ap.o|with_reducible exact Ai.o|with_reducible exact Aj.o|with_reducible exact Ak.o|with_reducible exact Al.o|with_reducible exact Am.o|with_reducible exact An.o|with_reducible exact Ao.o)
   (first
     | (go_at_call 63;refine((q3j ⟨8,⟨#[]⟩,0⟩ (c) z.o (by simp<;>omega))).mono ?_;rintro e w9 h9;have Ae:Hid (NdR W (⟨8,⟨#[]⟩,0⟩::(⟨6,⟨#[]⟩,0⟩::(ls++(⟨7,⟨#[]⟩,2⟩::(⟨6,⟨#[]⟩,0⟩::([⟨2,⟨#[]⟩,0⟩]++(⟨6,⟨#[]⟩,0⟩::([⟨1,⟨#[42,32]⟩,0⟩]++rs)))))))) e w9):=h9.from I.o.b;obtain⟨v9,rfl,n9,b9⟩:=h9.val;have Ac:Hid (q1o W ⟨6,⟨#[]⟩,0⟩ w9):=I.o.W b9;have Ao:Hid (Six W w9):=Ac.o.six;clear h9 n9 b9)
     | (go_at_call 64;refine((q1d (X) q.o y.o (by simp<;>omega))).mono ?_;rintro e c h8;obtain⟨v8,rfl,n8,b8⟩:=h8.val;have I:Hid (q1o W ⟨6,⟨#[]⟩,0⟩ c):=S.o.W b8;have An:Hid (Six W c):=I.o.six;have z:Hid (NdV c v8 (⟨6,⟨#[]⟩,0⟩::(ls++(⟨7,⟨#[]⟩,2⟩::(⟨6,⟨#[]⟩,0⟩::([⟨2,⟨#[]⟩,0⟩]++(⟨6,⟨#[]⟩,0⟩::([⟨1,⟨#[42,32]⟩,0⟩]++rs)))))))):=n8;clear h8 n8 b8)
     | (go_at_call 63;refine((q3j ⟨7,⟨#[]⟩,2⟩ (V) w.o (by simp<;>omega))).mono ?_;rintro e X h7;obtain⟨v7,rfl,n7,b7⟩:=h7.val;have S:Hid (q1o W ⟨6,⟨#[]⟩,0⟩ X):=R.o.W b7;have Am:Hid (Six W X):=S.o.six;have q:Hid (NdV X J (ls)):=p.o.W b7;have y:Hid (NdV X v7 (⟨7,⟨#[]⟩,2⟩::(⟨6,⟨#[]⟩,0⟩::([⟨2,⟨#[]⟩,0⟩]++(⟨6,⟨#[]⟩,0⟩::([⟨1,⟨#[42,32]⟩,0⟩]++rs)))))):=n7;clear h7 n7 b7)
     | (go_at_call 64;refine((q1d (U) H.o.bl u.o (by simp<;>omega))).mono ?_;rintro e V h6;obtain⟨v6,rfl,n6,b6⟩:=h6.val;have R:Hid (q1o W ⟨6,⟨#[]⟩,0⟩ V):=H.o.W b6;have Al:Hid (Six W V):=R.o.six;have p:Hid (NdV V J (ls)):=m.o.W b6;have w:Hid (NdV V v6 (⟨6,⟨#[]⟩,0⟩::([⟨2,⟨#[]⟩,0⟩]++(⟨6,⟨#[]⟩,0⟩::([⟨1,⟨#[42,32]⟩,0⟩]++rs))))):=n6;clear h6 n6 b6)
     | (go_at_call 64;refine((q1d (M) Af.o t.o (by simp<;>omega))).mono ?_;rintro e U h5;obtain⟨v5,rfl,n5,b5⟩:=h5.val;have H:Hid (q1o W ⟨6,⟨#[]⟩,0⟩ U):=Q.o.W b5;have Ak:Hid (Six W U):=H.o.six;have m:Hid (NdV U J (ls)):=g.o.W b5;have u:Hid (NdV U v5 (⟨6,⟨#[]⟩,0⟩::([⟨1,⟨#[42,32]⟩,0⟩]++rs))):=n5;clear h5 n5 b5)
     | (go_at_call 61;refine((q1s _ (A.drew)).mono fun _ _ h=>h.from v.o).mono ?_;rintro e M h4;obtain⟨v4,rfl,n4,Y⟩:=h4.val;have Q:Hid (q1o W ⟨6,⟨#[]⟩,0⟩ M):=G.o.W Y;have Aj:Hid (Six W M):=Q.o.six;have g:Hid (NdV M J (ls)):=f.o.W Y;have t:Hid (NdV M v3 (rs)):=s.o.W Y;have Af:Hid (NdV M v4 ([⟨1,⟨#[42,32]⟩,0⟩])):=n4;clear h4 n4 Y))
  all_goals
   go_wp2;go_ret;exact Ae.o
theorem k2i:∀n:Fo,n.len<=n.N.length
 | .nil=>Nat.le_refl _
 | .cons x k m=>by
  have:=k2i m
  simp only[Fo.len,Fo.N,length_cons,length_append];omega
theorem z5b{ds:List Td}{a:Option Addr}{cap:Nat}(hs:j0w ds):∀(K:Fo)(pos:Nat)(r:List Td),ds.drop pos=K.N++r->K.ok->DcA ds a cap K->K.len≠0->∀W:World,Tds W a ds->
  Calls prog 65 #[.slice a ds.length cap,.int .i64 (pos:Int),.int .i64 (K.len:Int)] W fun e w'=>NdR W (kdD K.D).N e w'
 | .nil,_,_,_,_,_,h0,_,_=>absurd rfl h0
 | .cons y ky .nil,pos,r,hd,hok,hk,_,W,hN=>by
  have HD:Hid (Cp 37 #[.slice a ds.length cap,.int .i64 (pos:Int)] W fun e w'=>NdR W (q0r y ky.D).N e w'):=hk.1 pos r hd W hN;show Calls prog 65 #[.slice a ds.length cap,.int .i64 (pos:Int),.int .i64 1] W fun e w'=>NdR W (q0r y ky.D).N e w'
  generalize(q0r y ky.D).N=xs at HD⊢
  go_in;go_wp2_with fail;refine HD.o.mono ?_;rintro e w1 h1;have HR:Hid (NdR W xs e w1):=h1;obtain⟨v1,rfl,_,_⟩:=h1.val;go_wp2;go_ret;exact HR.o
 | .cons y ky (.cons z kz n),pos,r,hd,hok,hk,_,W,hN=>by
  have hz:=z3z hs hd;obtain⟨hp,ey,_,ene,edn⟩:=z3t hd hok;generalize hj:pos+1+ky.N.length=j at ene edn;have HD:Hid (∀W':World,Below W W W'->Cp 37 #[.slice a ds.length cap,.int .i64 (pos:Int)] W' fun e w'=>NdR W' (q0r y ky.D).N e w'):=fun W' hb=>hk.1 pos r hd W' (hN.W hb)
  have HEN:Hid (∀W':World,Below W W W'->Cb 47 #[.slice a ds.length cap,.int .i64 (pos:Int)] W' (.int .i64 (j:Int))):=fun W' hb=>z0u (cap:=cap) hs ene hp W' (hN.W hb)
  have HKS:Hid (∀W':World,Below W W W'->Cp 65 #[.slice a ds.length cap,.int .i64 (j:Int),.int .i64 ((n.len:Int)+1)] W' fun e w'=>NdR W' (kdD (Fo.cons z kz n).D).N e w'):=fun W' hb=>by
   have h:=z5b hs (.cons z kz n) j r edn hok.2.2 hk.2 (by simp[Fo.len]) W' (hN.W hb);have e:(((Fo.cons z kz n).len:Nat):Int)=(n.len:Int)+1:=by simp[Fo.len]
   rw[e]at h;exact h
  have v:n.len<=100:=by
   have s:=congrArg length hd;rw[List.length_drop,length_append]at s;have h7:n.N.length<=(Fo.cons y ky (.cons z kz n)).N.length:=by simp only[Fo.N,length_cons,length_append];omega
   have t:=k2i n
   have:=hs.l
   omega
  have B:(q0r y ky.D).N.length<=800/\(kdD (Fo.cons z kz n).D).N.length<=801:=by
   have h1:=j2g (Fo.cons z kz n).D;have h4:z4d (Fo.cons y ky (.cons z kz n)).D=(q0r y ky.D).N.length+5+z4d (Fo.cons z kz n).D:=by rw[Fo.D,q2k]
   omega
  have c:Hid ((kdD (Fo.cons y ky (.cons z kz n)).D).N=⟨6,⟨#[]⟩,0⟩::((⟨6,⟨#[]⟩,0⟩::((q0r y ky.D).N++[⟨1,⟨#[44]⟩,0⟩]))++(⟨6,⟨#[]⟩,0⟩::([⟨2,⟨#[]⟩,0⟩]++(kdD (Fo.cons z kz n).D).N)))):=rfl;have O:(((Fo.cons y ky (.cons z kz n)).len:Nat):Int)=(n.len:Int)+1+1:=by simp[Fo.len]
  rw[c.o,O]
  generalize(q0r y ky.D).N=xs at HD B⊢
  generalize(kdD (Fo.cons z kz n).D).N=ks at HKS B⊢
  generalize n.len=m at HKS v⊢;have Ab:((m:Int)+1+1==1)=false:=beq_false_of_ne (by omega);have Ac:¬(m:Int)+1+1=1:=by omega
  obtain⟨Ad,Aa⟩:=B;go_in;go_wp2_with fail;refine(HD.o _ Zb).mono ?_;rintro e w1 h1;obtain⟨v1,rfl,n1,b1⟩:=h1.val;have u:NdV (w1.alloc (.cells #[.int .i64 2,.string ⟨#[]⟩,.int .i64 0] 131)) (.slice (some ⟨w1,0,none⟩) 1 1) [⟨2,⟨#[]⟩,0⟩]:=(q7s.one w1 ⟨2,⟨#[]⟩,0⟩).val;have P:Below w1 w1 (w1.alloc (.cells #[.int .i64 2,.string ⟨#[]⟩,.int .i64 0] 131)):= Zb.alloc Zl _;have A:=(show Hid (NdV (w1.alloc (.cells #[.int .i64 2,.string ⟨#[]⟩,.int .i64 0] 131)) (.slice (some ⟨w1,0,none⟩) 1 1) [⟨2,⟨#[]⟩,0⟩])from u);have M:Hid (NdV (w1.alloc (.cells #[.int .i64 2,.string ⟨#[]⟩,.int .i64 0] 131)) v1 xs):=n1.W P;have C:Hid (Below W W (w1.alloc (.cells #[.int .i64 2,.string ⟨#[]⟩,.int .i64 0] 131))):=q0e b1 Zl P;go_wp2_with fail;generalize w1.alloc (.cells #[.int .i64 2,.string ⟨#[]⟩,.int .i64 0] 131)=w2 at A M C⊢;refine(q1s _ _).mono ?_;rintro e R h3;obtain⟨v3,rfl,n3,o⟩:=h3.val;have U:Hid (Below W W R):=q0e C.o Zl o;have d:Hid (NdV R v1 xs):=M.o.W o;have Y:Hid (NdV R v3 [⟨1,⟨#[44]⟩,0⟩]):=n3;have H:Hid (NdV R (.slice (some ⟨w1,0,none⟩) 1 1) [⟨2,⟨#[]⟩,0⟩]):=A.o.W o;go_wp2_with fail;refine(q1d _ d.o Y.o (by simp;omega)).mono ?_;rintro e w h4;obtain⟨Q,rfl,n4,b4⟩:=h4.val;have E:Hid (Below W W w):=q0e U.o Zl b4;have f:Hid (NdV w Q (⟨6,⟨#[]⟩,0⟩::(xs++[⟨1,⟨#[44]⟩,0⟩]))):=n4;have I:Hid (NdV w (.slice (some ⟨w1,0,none⟩) 1 1) [⟨2,⟨#[]⟩,0⟩]):=H.o.W b4;go_wp2_with fail;refine(HEN.o _ E.o).mono ?_;rintro e x⟨rfl,p⟩;have G:Hid (Below W W x):=q0e E.o Zl p;have g:Hid (NdV x Q (⟨6,⟨#[]⟩,0⟩::(xs++[⟨1,⟨#[44]⟩,0⟩]))):=f.o.W p;have J:Hid (NdV x (.slice (some ⟨w1,0,none⟩) 1 1) [⟨2,⟨#[]⟩,0⟩]):=I.o.W p;go_wp2_with fail;refine(HKS.o _ G.o).mono ?_;rintro e S s;obtain⟨v6,rfl,n6,q⟩:=s.val;have V:Hid (Below W W S):=q0e G.o Zl q;have i:Hid (NdV S Q (⟨6,⟨#[]⟩,0⟩::(xs++[⟨1,⟨#[44]⟩,0⟩]))):=g.o.W q;have Z:Hid (NdV S v6 ks):=n6;have L:Hid (NdV S (.slice (some ⟨w1,0,none⟩) 1 1) [⟨2,⟨#[]⟩,0⟩]):=J.o.W q;go_wp2_with fail;refine(q1d _ L.o Z.o (by simp;omega)).mono ?_;rintro e w7 h7;obtain⟨v7,rfl,n7,b7⟩:=h7.val;have X:Hid (Below W W w7):=q0e V.o Zl b7;have k:Hid (NdV w7 Q (⟨6,⟨#[]⟩,0⟩::(xs++[⟨1,⟨#[44]⟩,0⟩]))):=i.o.W b7;have b:Hid (NdV w7 v7 (⟨6,⟨#[]⟩,0⟩::([⟨2,⟨#[]⟩,0⟩]++ks))):=n7;go_wp2_with fail;refine(q1d _ k.o b.o (by simp;omega)).mono ?_;rintro e w8 t;have HR:Hid (NdR W (⟨6,⟨#[]⟩,0⟩::((⟨6,⟨#[]⟩,0⟩::(xs++[⟨1,⟨#[44]⟩,0⟩]))++(⟨6,⟨#[]⟩,0⟩::([⟨2,⟨#[]⟩,0⟩]++ks)))) e w8):=t.from X.o;obtain⟨v8,rfl,_,_⟩:=t.val;go_wp2;go_ret;exact HR.o
set_option maxHeartbeats 16000000
abbrev Sev(W:World)(N:Nat)(w:World):Prop:=Six W w/\w.cell? ⟨W,2,none⟩=some (.int .i64 ((N:Nat):Int))
theorem q1o.sev{W:World}{o:Int}{t:ByteArray}{N:Nat}{w:World}(h:q1o W ⟨o,t,((N:Nat):Int)⟩ w):Sev W N w:=⟨h.six,h.n.2.2.2⟩
theorem y6d(t:ByteArray)(c:UInt8):t++(⟨#[c]⟩:ByteArray)=wbS (btL t++[c]):=by
 have e:wbS (btL t)++wbS [c]=wbS (btL t++[c]):=q0l _ _;exact e
theorem k3h(op cl:List UInt8):(q3m op cl []).N=[⟨1,wbS (op++cl),0⟩]:=rfl
theorem k3g{op cl:List UInt8}{ps:List (Td × Tr)}(h:ps.length≠0):(q3m op cl ps).N=⟨8,⟨#[]⟩,0⟩::(⟨6,⟨#[]⟩,0⟩::([⟨1,wbS op,0⟩]++(⟨6,⟨#[]⟩,0⟩::((⟨7,⟨#[]⟩,2⟩::(⟨6,⟨#[]⟩,0⟩::([⟨3,⟨#[]⟩,0⟩]++(kdD ps).N)))++(⟨6,⟨#[]⟩,0⟩::([⟨3,⟨#[]⟩,0⟩]++[⟨1,wbS cl,0⟩])))))):=by
 rw[q3m,if_neg h];rfl
theorem k8j(k:Nat){o:Int}{xu l:ByteArray}{rb:UInt8}{ds:List Td}{a:Option Addr}{cap i N:Nat}{xt:ByteArray}(hk:k=0/\o=3/\xt=xu/\l=xt++(⟨#[40]⟩:ByteArray)/\rb=41\/k=1/\o=4/\xu=⟨#[]⟩/\l=⟨#[91]⟩/\rb=93)(hl:ds.length<=40)(hi:i<ds.length)(A1:N<=6)(A6:xt.size<=8)(W:World)(hN:Tds W a ds)(he:ds[i]=⟨o,xu,((N:Nat):Int)⟩)(ks:List Nd)(A3:ks.length<=900)
  (hK:N≠0->∀W':World,Below W W W'->Calls prog 65 #[.slice a ds.length cap,.int .i64 ((i:Int)+1),.int .i64 ((N:Nat):Int)] W' fun e w'=>NdR W' ks e w'):
  Calls prog 37 #[.slice a ds.length cap,.int .i64 (i:Int)] W fun e w'=>NdR W (if N=0 then [⟨1,(l)++(⟨#[rb]⟩:ByteArray),0⟩]else⟨8,⟨#[]⟩,0⟩::(⟨6,⟨#[]⟩,0⟩::([⟨1,l,0⟩]++(⟨6,⟨#[]⟩,0⟩::((⟨7,⟨#[]⟩,2⟩::(⟨6,⟨#[]⟩,0⟩::([⟨3,⟨#[]⟩,0⟩]++ks)))++(⟨6,⟨#[]⟩,0⟩::([⟨3,⟨#[]⟩,0⟩]++[⟨1,(⟨#[rb]⟩:ByteArray),0⟩]))))))) e w':=by
 have A:Tag k:=.mk;rcases hk with⟨rfl,rfl,rfl,rfl,rfl⟩|⟨rfl,rfl,rfl,rfl,rfl⟩
 all_goals
  obtain⟨b,o,rfl,hb,c1,c2,c3⟩:=hN i hi;have A2:(i:Int)<(ds.length:Int):=by omega
  rw[he]at c1 c2 c3;simp only at c1 c2 c3;have g:Hid (q1o W ⟨↑(sel A (3:Int) 4),↑(sel A xt ⟨#[]⟩),((N:Nat):Int)⟩ (dcW W ↑(sel A (3:Int) 4) ↑(sel A xt ⟨#[]⟩) ((N:Nat):Int))):=k1x W ⟨↑(sel A (3:Int) 4),↑(sel A xt ⟨#[]⟩),((N:Nat):Int)⟩;have A4:(xt++(⟨#[40]⟩:ByteArray)).size=xt.size+1:=by rw[ByteArray.size_append];rfl
  have g1:¬(9223372036854775807:Int)<(xt.size:Int)+1:=by omega
  have g2:¬(9223372036854775807:Int)<(xt.size:Int)+1+1:=by omega
  have A5:IntKind.i64.wrap ((i:Int)+1)=(i:Int)+1:=by rw[IntKind.wrap_i64];omega
  have Aj:Hid (N≠0->∀W':World,Below W W W'->Cp 65 #[.slice (some ⟨b,o,none⟩) ds.length cap,.int .i64 ((i:Int)+1),.int .i64 ((N:Nat):Int)] W' fun e w'=>NdR W' ks e w'):=hK;by_cases h0:N=0
  ·subst h0;rw[if_pos rfl];go_in;go_wp2_with fail;refine(q1s _ _).mono ?_;rintro e D h3;have HR:Hid (NdR W [⟨1,(↑(sel A (xt++(⟨#[40]⟩:ByteArray)) ⟨#[91]⟩))++(⟨#[↑(sel A (41:UInt8) 93)]⟩:ByteArray),0⟩] e D):=h3.from g.o.b;obtain⟨v3,rfl,_,_⟩:=h3.val;go_wp2;go_ret;exact HR.o
  ·rw[if_neg h0];have Az:(((N:Nat):Int)==0)=false:=beq_false_of_ne (by omega);have A0:¬((N:Nat):Int)=0:=by omega
   have Ak:Hid (∀W':World,Below W W W'->Cp 65 #[.slice (some ⟨b,o,none⟩) ds.length cap,.int .i64 ((i:Int)+1),.int .i64 ((N:Nat):Int)] W' fun e w'=>NdR W' ks e w'):=Aj.o h0;go_in;go_wp2_with fail;generalize Av:((((W.alloc (.cells #[.int .i64 ↑(sel A (3:Int) 4),.string ↑(sel A xt ⟨#[]⟩),.int .i64 ((N:Nat):Int)] 71)).alloc (.cells #[.int .i64 2,.string ⟨#[]⟩,.int .i64 0] 131)).alloc (.cells #[.int .i64 3,.string ⟨#[]⟩,.int .i64 0] 131)).alloc (.cells #[.int .i64 8,.string ⟨#[]⟩,.int .i64 0] 131)).alloc (.cells #[.int .i64 7,.string ⟨#[]⟩,.int .i64 2] 131)=D
   have E:Hid (q1o W ⟨↑(sel A (3:Int) 4),↑(sel A xt ⟨#[]⟩),((N:Nat):Int)⟩ D):=by
    show q1o _ _ _;rw[<-Av];exact g.o
   have Ap:Hid (Sev W N D):=E.o.sev;have O:Hid (Sev W N D.drew):=E.o.sev;have J:Hid (Below D D D.drew):= Zb.drew;have Aa:Hid (Below W W D.drew):=E.o.b.drew
   go_region_held3 (fun w'=>Sev W N w') (first|with_reducible exact O.o|with_reducible exact Ap.o|with_reducible exact Aq.o|with_reducible exact Ar.o|with_reducible exact p.o)
    (first
      | (go_at_call 63;refine((q3j ⟨7,⟨#[]⟩,2⟩ (w5) Ab.o (by simp<;>omega))).mono ?_;rintro e I h6;obtain⟨z,rfl,n6,b6⟩:=h6.val;have L:Hid (q1o W ⟨↑(sel A (3:Int) 4),↑(sel A xt ⟨#[]⟩),((N:Nat):Int)⟩ I):=c.o.W b6;have p:Hid (Sev W N I):=L.o.sev;have Ae:Hid (NdV I z (⟨7,⟨#[]⟩,2⟩::(⟨6,⟨#[]⟩,0⟩::([⟨3,⟨#[]⟩,0⟩]++ks)))):=n6;clear h6 n6 b6)
      | (go_at_call 64;refine((q1d (w4) K.o.sf Ai.o (by simp<;>omega))).mono ?_;rintro e w5 h5;obtain⟨v5,rfl,n5,b5⟩:=h5.val;have c:Hid (q1o W ⟨↑(sel A (3:Int) 4),↑(sel A xt ⟨#[]⟩),((N:Nat):Int)⟩ w5):=K.o.W b5;have Ar:Hid (Sev W N w5):=c.o.sev;have Ab:Hid (NdV w5 v5 (⟨6,⟨#[]⟩,0⟩::([⟨3,⟨#[]⟩,0⟩]++ks))):=n5;clear h5 n5 b5)
      | (go_at_call 65;refine((Ak.o (D.drew) Aa.o).mono fun _ _ h=>h.from J.o).mono ?_;rintro e w4 h4;obtain⟨v4,rfl,n4,b4⟩:=h4.val;have K:Hid (q1o W ⟨↑(sel A (3:Int) 4),↑(sel A xt ⟨#[]⟩),((N:Nat):Int)⟩ w4):=E.o.W b4;have Aq:Hid (Sev W N w4):=K.o.sev;have Ai:Hid (NdV w4 v4 (ks)):=n4;clear h4 n4 b4))
   all_goals
    have O:Hid (Sev W N I.drew):=L.o.sev;have J:Hid (Below I I I.drew):= Zb.drew;go_wp2_with fail
    go_region_held3 (fun w'=>Sev W N w') (first|with_reducible exact O.o|with_reducible exact p.o|with_reducible exact As.o|with_reducible exact At.o|with_reducible exact Au.o|with_reducible exact j.o|with_reducible exact m.o|with_reducible exact n.o)
     (first
      | (go_at_call 63;refine((q3j ⟨8,⟨#[]⟩,0⟩ (G) X.o (by simp<;>omega))).mono ?_;rintro e R Q;have Ao:Hid (NdR W (⟨8,⟨#[]⟩,0⟩::(⟨6,⟨#[]⟩,0⟩::([⟨1,↑(sel A (xt++(⟨#[40]⟩:ByteArray)) ⟨#[91]⟩),0⟩]++(⟨6,⟨#[]⟩,0⟩::((⟨7,⟨#[]⟩,2⟩::(⟨6,⟨#[]⟩,0⟩::([⟨3,⟨#[]⟩,0⟩]++ks)))++(⟨6,⟨#[]⟩,0⟩::([⟨3,⟨#[]⟩,0⟩]++[⟨1,(⟨#[↑(sel A (41:UInt8) 93)]⟩:ByteArray),0⟩]))))))) e R):=Q.from B.o.b;obtain⟨A7,rfl,Aw,r⟩:=Q.val;have Z:Hid (q1o W ⟨↑(sel A (3:Int) 4),↑(sel A xt ⟨#[]⟩),((N:Nat):Int)⟩ R):=B.o.W r;have n:Hid (Sev W N R):=Z.o.sev;clear Q Aw r)
      | (go_at_call 64;refine((q1d (C) Y.o V.o (by simp<;>omega))).mono ?_;rintro e G t;obtain⟨Ay,rfl,v,q⟩:=t.val;have B:Hid (q1o W ⟨↑(sel A (3:Int) 4),↑(sel A xt ⟨#[]⟩),((N:Nat):Int)⟩ G):=H.o.W q;have m:Hid (Sev W N G):=B.o.sev;have X:Hid (NdV G Ay (⟨6,⟨#[]⟩,0⟩::([⟨1,↑(sel A (xt++(⟨#[40]⟩:ByteArray)) ⟨#[91]⟩),0⟩]++(⟨6,⟨#[]⟩,0⟩::((⟨7,⟨#[]⟩,2⟩::(⟨6,⟨#[]⟩,0⟩::([⟨3,⟨#[]⟩,0⟩]++ks)))++(⟨6,⟨#[]⟩,0⟩::([⟨3,⟨#[]⟩,0⟩]++[⟨1,(⟨#[↑(sel A (41:UInt8) 93)]⟩:ByteArray),0⟩]))))))):=v;clear t v q)
      | (go_at_call 64;refine((q1d (U) Ah.o Ad.o (by simp<;>omega))).mono ?_;rintro e C s;obtain⟨Ax,rfl,u,P⟩:=s.val;have H:Hid (q1o W ⟨↑(sel A (3:Int) 4),↑(sel A xt ⟨#[]⟩),((N:Nat):Int)⟩ C):=f.o.W P;have j:Hid (Sev W N C):=H.o.sev;have Y:Hid (NdV C v7 ([⟨1,↑(sel A (xt++(⟨#[40]⟩:ByteArray)) ⟨#[91]⟩),0⟩])):=An.o.W P;have V:Hid (NdV C Ax (⟨6,⟨#[]⟩,0⟩::((⟨7,⟨#[]⟩,2⟩::(⟨6,⟨#[]⟩,0⟩::([⟨3,⟨#[]⟩,0⟩]++ks)))++(⟨6,⟨#[]⟩,0⟩::([⟨3,⟨#[]⟩,0⟩]++[⟨1,(⟨#[↑(sel A (41:UInt8) 93)]⟩:ByteArray),0⟩]))))):=u;clear s u P)
      | (go_at_call 64;refine((q1d (S) M.o.sf Ac.o (by simp<;>omega))).mono ?_;rintro e U h9;obtain⟨v9,rfl,n9,y⟩:=h9.val;have f:Hid (q1o W ⟨↑(sel A (3:Int) 4),↑(sel A xt ⟨#[]⟩),((N:Nat):Int)⟩ U):=M.o.W y;have Au:Hid (Sev W N U):=f.o.sev;have Ah:Hid (NdV U z (⟨7,⟨#[]⟩,2⟩::(⟨6,⟨#[]⟩,0⟩::([⟨3,⟨#[]⟩,0⟩]++ks)))):=Ag.o.W y;have An:Hid (NdV U v7 ([⟨1,↑(sel A (xt++(⟨#[40]⟩:ByteArray)) ⟨#[91]⟩),0⟩])):=Am.o.W y;have Ad:Hid (NdV U v9 (⟨6,⟨#[]⟩,0⟩::([⟨3,⟨#[]⟩,0⟩]++[⟨1,(⟨#[↑(sel A (41:UInt8) 93)]⟩:ByteArray),0⟩]))):=n9;clear h9 n9 y)
      | (go_at_call 61;refine((q1s _ (w))).mono ?_;rintro e S h8;obtain⟨v8,rfl,n8,x⟩:=h8.val;have M:Hid (q1o W ⟨↑(sel A (3:Int) 4),↑(sel A xt ⟨#[]⟩),((N:Nat):Int)⟩ S):=d.o.W x;have At:Hid (Sev W N S):=M.o.sev;have Ag:Hid (NdV S z (⟨7,⟨#[]⟩,2⟩::(⟨6,⟨#[]⟩,0⟩::([⟨3,⟨#[]⟩,0⟩]++ks)))):=Af.o.W x;have Am:Hid (NdV S v7 ([⟨1,↑(sel A (xt++(⟨#[40]⟩:ByteArray)) ⟨#[91]⟩),0⟩])):=Al.o.W x;have Ac:Hid (NdV S v8 ([⟨1,(⟨#[↑(sel A (41:UInt8) 93)]⟩:ByteArray),0⟩])):=n8;clear h8 n8 x)
      | (go_at_call 61;refine((q1s _ (I.drew)).mono fun _ _ h=>h.from J.o).mono ?_;rintro e w h7;obtain⟨v7,rfl,n7,b7⟩:=h7.val;have d:Hid (q1o W ⟨↑(sel A (3:Int) 4),↑(sel A xt ⟨#[]⟩),((N:Nat):Int)⟩ w):=L.o.W b7;have As:Hid (Sev W N w):=d.o.sev;have Af:Hid (NdV w z (⟨7,⟨#[]⟩,2⟩::(⟨6,⟨#[]⟩,0⟩::([⟨3,⟨#[]⟩,0⟩]++ks)))):=Ae.o.W b7;have Al:Hid (NdV w v7 ([⟨1,↑(sel A (xt++(⟨#[40]⟩:ByteArray)) ⟨#[91]⟩),0⟩])):=n7;clear h7 n7 b7))
    all_goals
     go_wp2;go_ret;exact Ao.o
theorem k5s{ds:List Td}{a:Option Addr}{cap:Nat}(hs:j0w ds):∀F:Fo,F.ok->F.exs->DcA ds a cap F
 | .nil,_,_=>trivial
 | .cons x k n,hok,hex=>by
  have hexk:k.exs:=fun y hy=>hex y (by simp[Fo.N,hy])
  have ihk:=k5s (a:=a) (cap:=cap) hs k hok.2.1 hexk;have ihn:=k5s (a:=a) (cap:=cap) hs n hok.2.2 fun y hy=>hex y (by simp[Fo.N,hy])
  have hx:=hex x (by simp[Fo.N]);refine⟨?_,ihn⟩
  have kids:∀(i:Nat)(r:List Td),ds.drop i=(Fo.cons x k n).N++r->∀W:World,Tds W a ds->∃hp:i<ds.length,ds[i]=x/\(kdD k.D).N.length<=900/\(k.len≠0->∀W':World,Below W W W'->Calls prog 65 #[.slice a ds.length cap,.int .i64 ((i:Int)+1),.int .i64 (k.len:Int)] W' fun e w'=>NdR W' (kdD k.D).N e w'):=fun i r hi W hN=>by
   obtain⟨hp,e1,e2,_,_⟩:=z3t hi hok;refine⟨hp,e1,?_,fun h0 W' hb=>?_⟩
   ·have h1:=z3z hs e2;have h2:=j2g k.D;omega
   ·have h:=z5b (cap:=cap) hs k (i+1) _ e2 hok.2.1 ihk h0 W' (hN.W hb);rw[show((i+1:Nat):Int)=(i:Int)+1 by omega]at h;exact h
  rcases q2c hx with⟨ho,_⟩|⟨ho,_⟩|⟨ho,hnm,h0,h6,hkd⟩|⟨ho,htx,h0,h6,hkd⟩|⟨ho,_⟩|⟨ho,_⟩
  ·exact k8i hs hok hx (.inl ho)
  ·exact k8i hs hok hx (.inr ho)
  ·intro i r hi W hN;obtain⟨hp,e1,hkl,hK⟩:=kids i r hi W hN;have hlen:k.len=x.n.toNat:=hok.1.trans hkd
   have e3:x=⟨3,x.tx,((k.len:Nat):Int)⟩:=by
    obtain⟨H,xt,G⟩:=x;simp only at ho h0 hlen⊢;rw[ho,hlen,Int.toNat_of_nonneg h0]
   have E:x.tx.size<=8:=by rw[<-q0c];exact q3a hnm
   have h:=k8j 0 (.inl ⟨rfl,rfl,rfl,rfl,rfl⟩) (cap:=cap) hs.l hp (N:=k.len) (xt:=x.tx) (by omega) E W hN (by rw[e1];exact e3) (kdD k.D).N hkl hK
   have B:(q0r x k.D).N=if k.len=0 then [⟨1,(x.tx++(⟨#[40]⟩:ByteArray))++(⟨#[41]⟩:ByteArray),0⟩]else⟨8,⟨#[]⟩,0⟩::(⟨6,⟨#[]⟩,0⟩::([⟨1,x.tx++(⟨#[40]⟩:ByteArray),0⟩]++(⟨6,⟨#[]⟩,0⟩::((⟨7,⟨#[]⟩,2⟩::(⟨6,⟨#[]⟩,0⟩::([⟨3,⟨#[]⟩,0⟩]++(kdD k.D).N)))++(⟨6,⟨#[]⟩,0⟩::([⟨3,⟨#[]⟩,0⟩]++[⟨1,(⟨#[41]⟩:ByteArray),0⟩])))))):=by
    rw[show q0r x k.D=q3m (btL x.tx++[40]) [41] k.D by simp[q0r,ho],y6d x.tx 40];by_cases A:k.len=0
    ·have:k.D=[]:=List.eq_nil_of_length_eq_zero (by rw[q6v];exact A)
     rw[if_pos A,this,k3h];have C:wbS (btL x.tx++[40])++(⟨#[41]⟩:ByteArray)=wbS (btL x.tx++[40]++[41]):=q0l _ _;rw[C]
    ·rw[if_neg A,k3g (by rw[q6v];exact A)];rfl
   show Calls _ _ _ _ _;rw[B];exact h
  ·intro i r hi W hN;obtain⟨hp,e1,hkl,hK⟩:=kids i r hi W hN;have hlen:k.len=x.n.toNat:=hok.1.trans hkd
   have e3:x=⟨4,⟨#[]⟩,((k.len:Nat):Int)⟩:=by
    obtain⟨H,xt,G⟩:=x;simp only at ho h0 hlen htx⊢;rw[ho,htx,hlen,Int.toNat_of_nonneg h0]
   have h:=k8j 1 (.inr ⟨rfl,rfl,rfl,rfl,rfl⟩) (cap:=cap) hs.l hp (N:=k.len) (xt:=⟨#[]⟩) (by omega) (by decide) W hN (by rw[e1];exact e3) (kdD k.D).N hkl hK
   have B:(q0r x k.D).N=if k.len=0 then [⟨1,(⟨#[91]⟩:ByteArray)++(⟨#[93]⟩:ByteArray),0⟩]else⟨8,⟨#[]⟩,0⟩::(⟨6,⟨#[]⟩,0⟩::([⟨1,(⟨#[91]⟩:ByteArray),0⟩]++(⟨6,⟨#[]⟩,0⟩::((⟨7,⟨#[]⟩,2⟩::(⟨6,⟨#[]⟩,0⟩::([⟨3,⟨#[]⟩,0⟩]++(kdD k.D).N)))++(⟨6,⟨#[]⟩,0⟩::([⟨3,⟨#[]⟩,0⟩]++[⟨1,(⟨#[93]⟩:ByteArray),0⟩])))))):=by
    rw[show q0r x k.D=q3m [91] [93] k.D by simp[q0r,ho]];by_cases A:k.len=0
    ·have:k.D=[]:=List.eq_nil_of_length_eq_zero (by rw[q6v];exact A)
     rw[if_pos A,this,k3h];rfl
    ·rw[if_neg A,k3g (by rw[q6v];exact A)];rfl
   show Calls _ _ _ _ _;rw[B];exact h
  ·exact j6l hs hok hex (.inl ho) ihk
  ·exact j6l hs hok hex (.inr ho) ihk
abbrev Eig(W:World)(xt:ByteArray)(w:World):Prop:=Six W w/\w.cell? ⟨W,1,none⟩=some (.string xt)
theorem q1o.eig{W:World}{o n:Int}{t:ByteArray}{w:World}(h:q1o W ⟨o,t,n⟩ w):Eig W t w:=⟨h.six,h.n.2.2.1⟩
theorem y3k{ds:List Td}{a:Option Addr}{cap:Nat}{xt:ByteArray}(hl:ds.length<=40)(hi:0<ds.length)(Ac:xt.size<=8)(W:World)(hN:Tds W a ds)(he:ds[0]=⟨7,xt,0⟩)(xs:List Nd)(Ab:xs.length<=900)
  (hD:∀W':World,Below W W W'->Calls prog 37 #[.slice a ds.length cap,.int .i64 1] W' fun e w'=>NdR W' xs e w'):
  Calls prog 37 #[.slice a ds.length cap,.int .i64 0] W fun e w'=>NdR W (⟨8,⟨#[]⟩,0⟩::(⟨6,⟨#[]⟩,0⟩::([⟨1,(⟨#[108,101,116,32]⟩:ByteArray)++xt++(⟨#[32,61]⟩:ByteArray),0⟩]++(⟨7,⟨#[]⟩,2⟩::(⟨6,⟨#[]⟩,0⟩::([⟨2,⟨#[]⟩,0⟩]++(⟨6,⟨#[]⟩,0⟩::(xs++[⟨1,⟨#[59]⟩,0⟩])))))))) e w':=by
 obtain⟨b,o,rfl,hb,z,c2,c3⟩:=hN 0 hi;have Aa:(0:Int)<(ds.length:Int):=by omega
 rw[he]at z c2 c3;simp only[Nat.zero_mul,Nat.add_zero]at z c2 c3;have H:=hid (k1x W ⟨7,xt,0⟩);have HD:=hid hD;have g1:¬9223372036854775807<4+xt.size:=by omega
 have g2:¬9223372036854775807<4+xt.size+2:=by omega
 go_in;go_wp2_with fail;refine(HD.o _ H.o.b).mono ?_;rintro e w1 h1;obtain⟨v1,rfl,n1,b1⟩:=h1.val;have Q:=hid (H.o.W b1);have c:=hid n1;go_wp2_with fail;refine(q1s _ _).mono ?_;rintro e w2 h2;obtain⟨v2,rfl,n2,w⟩:=h2.val;have R:=hid (Q.o.W w);have d:=hid (c.o.W w);have V:=hid n2;go_wp2_with fail;refine(q1d _ d.o V.o (by simp<;>omega)).mono ?_;rintro e A h3;obtain⟨v3,rfl,n3,b3⟩:=h3.val;have B:Hid (q1o W ⟨7,xt,0⟩ A):=R.o.W b3;have f:Hid (NdV A v3 (⟨6,⟨#[]⟩,0⟩::(xs++[⟨1,⟨#[59]⟩,0⟩]))):=n3;have i:Hid (Eig W xt A):=B.o.eig;have p:Hid (Eig W xt A.drew):=B.o.eig;have N:Hid (Below A A A.drew):= Zb.drew;go_wp2_with fail
 go_region_held3 (fun w'=>Eig W xt w') (first|with_reducible exact p.o|with_reducible exact i.o|with_reducible exact j.o|with_reducible exact k.o|with_reducible exact l.o|with_reducible exact m.o|with_reducible exact n.o)
  (first
     | (go_at_call 63;refine((q3j ⟨8,⟨#[]⟩,0⟩ (L) P.o (by simp<;>omega))).mono ?_;rintro e v t;have U:Hid (NdR W (⟨8,⟨#[]⟩,0⟩::(⟨6,⟨#[]⟩,0⟩::([⟨1,(⟨#[108,101,116,32]⟩:ByteArray)++xt++(⟨#[32,61]⟩:ByteArray),0⟩]++(⟨7,⟨#[]⟩,2⟩::(⟨6,⟨#[]⟩,0⟩::([⟨2,⟨#[]⟩,0⟩]++(⟨6,⟨#[]⟩,0⟩::(xs++[⟨1,⟨#[59]⟩,0⟩])))))))) e v):=t.from D.o.b;obtain⟨v8,rfl,n8,y⟩:=t.val;have S:Hid (q1o W ⟨7,xt,0⟩ v):=D.o.W y;have n:Hid (Eig W xt v):=S.o.eig;clear t n8 y)
     | (go_at_call 64;refine((q1d (K) Z.o O.o (by simp<;>omega))).mono ?_;rintro e L h7;obtain⟨v7,rfl,n7,x⟩:=h7.val;have D:Hid (q1o W ⟨7,xt,0⟩ L):=G.o.W x;have m:Hid (Eig W xt L):=D.o.eig;have P:Hid (NdV L v7 (⟨6,⟨#[]⟩,0⟩::([⟨1,(⟨#[108,101,116,32]⟩:ByteArray)++xt++(⟨#[32,61]⟩:ByteArray),0⟩]++(⟨7,⟨#[]⟩,2⟩::(⟨6,⟨#[]⟩,0⟩::([⟨2,⟨#[]⟩,0⟩]++(⟨6,⟨#[]⟩,0⟩::(xs++[⟨1,⟨#[59]⟩,0⟩])))))))):=n7;clear h7 n7 x)
     | (go_at_call 63;refine((q3j ⟨7,⟨#[]⟩,2⟩ (J) M.o (by simp<;>omega))).mono ?_;rintro e K h6;obtain⟨v6,rfl,n6,s⟩:=h6.val;have G:Hid (q1o W ⟨7,xt,0⟩ K):=E.o.W s;have l:Hid (Eig W xt K):=G.o.eig;have Z:Hid (NdV K u ([⟨1,(⟨#[108,101,116,32]⟩:ByteArray)++xt++(⟨#[32,61]⟩:ByteArray),0⟩])):=Y.o.W s;have O:Hid (NdV K v6 (⟨7,⟨#[]⟩,2⟩::(⟨6,⟨#[]⟩,0⟩::([⟨2,⟨#[]⟩,0⟩]++(⟨6,⟨#[]⟩,0⟩::(xs++[⟨1,⟨#[59]⟩,0⟩])))))):=n6;clear h6 n6 s)
     | (go_at_call 64;refine((q1d (I) C.o.bl g.o (by simp<;>omega))).mono ?_;rintro e J h5;obtain⟨v5,rfl,n5,r⟩:=h5.val;have E:Hid (q1o W ⟨7,xt,0⟩ J):=C.o.W r;have k:Hid (Eig W xt J):=E.o.eig;have Y:Hid (NdV J u ([⟨1,(⟨#[108,101,116,32]⟩:ByteArray)++xt++(⟨#[32,61]⟩:ByteArray),0⟩])):=X.o.W r;have M:Hid (NdV J v5 (⟨6,⟨#[]⟩,0⟩::([⟨2,⟨#[]⟩,0⟩]++(⟨6,⟨#[]⟩,0⟩::(xs++[⟨1,⟨#[59]⟩,0⟩]))))):=n5;clear h5 n5 r)
     | (go_at_call 61;refine((q1s _ (A.drew)).mono fun _ _ h=>h.from N.o).mono ?_;rintro e I h4;obtain⟨u,rfl,n4,q⟩:=h4.val;have C:Hid (q1o W ⟨7,xt,0⟩ I):=B.o.W q;have j:Hid (Eig W xt I):=C.o.eig;have g:Hid (NdV I v3 (⟨6,⟨#[]⟩,0⟩::(xs++[⟨1,⟨#[59]⟩,0⟩]))):=f.o.W q;have X:Hid (NdV I u ([⟨1,(⟨#[108,101,116,32]⟩:ByteArray)++xt++(⟨#[32,61]⟩:ByteArray),0⟩])):=n4;clear h4 n4 q))
 all_goals
  go_wp2;go_ret;exact U.o
theorem y7p{ds:List Td}{a:Option Addr}{cap:Nat}(hl:ds.length<=40)(hi:0<ds.length)(W:World)(hN:Tds W a ds)(he:ds[0]=⟨8,⟨#[]⟩,0⟩)(xs:List Nd)(S:xs.length<=900)
  (hD:∀W':World,Below W W W'->Calls prog 37 #[.slice a ds.length cap,.int .i64 1] W' fun e w'=>NdR W' xs e w'):
  Calls prog 37 #[.slice a ds.length cap,.int .i64 0] W fun e w'=>NdR W (⟨6,⟨#[]⟩,0⟩::(xs++[⟨1,⟨#[59]⟩,0⟩])) e w':=by
 obtain⟨b,o,rfl,X,J,K,L⟩:=hN 0 hi;have R:(0:Int)<(ds.length:Int):=by omega
 rw[he]at J K L;simp only[Nat.zero_mul,Nat.add_zero]at J K L;have A:=hid (k1x W ⟨8,⟨#[]⟩,0⟩);have N:=hid hD;go_in;go_wp2_with fail;refine(N.o _ A.o.b).mono ?_;rintro e d P;obtain⟨Y,rfl,U,O⟩:=P.val;have B:=hid (A.o.W O);have G:=hid U;go_wp2_with fail;refine(q1s _ _).mono ?_;rintro e f Q;obtain⟨Z,rfl,V,I⟩:=Q.val;have C:=hid (B.o.W I);have H:=hid (G.o.W I);have E:=hid V;go_wp2_with fail;refine(q1d _ H.o E.o (by simp<;>omega)).mono ?_;rintro e g M;have D:=hid (M.from C.o.b);obtain⟨c,rfl,_,_⟩:=M.val;go_wp2;go_ret;exact D.o
theorem y9l{t:List Td}{a:Option Addr}{cap:Nat}(h:q0b t=0)(h9:opT t≠9)(W:World)(hN:Tds W a t):Calls prog 37 #[.slice a t.length cap,.int .i64 0] W fun e w'=>NdR W (q0w t).N e w':=by
 obtain⟨K,V,_,_⟩:=q3k h;have R:j0w t:=⟨K,V⟩;obtain⟨x,y,k,rfl,H,L,Y,Z⟩:=k0p h h9;have B:0<(x::(Fo.cons y k .nil).N).length:=by simp
 have E:=k5s (a:=a) (cap:=cap) R (.cons y k .nil) H L;have Q:(x::(Fo.cons y k .nil).N).drop 1=(Fo.cons y k .nil).N++[]:=by simp
 have P:∀W':World,Below W W W'->Calls prog 37 #[.slice a (x::(Fo.cons y k .nil).N).length cap,.int .i64 1] W' fun e w'=>NdR W' (q0r y k.D).N e w':=fun W' hb=>E.1 1 [] Q W' (hN.W hb)
 have G:(q0r y k.D).N.length<=900:=by
  have O:=z3z R Q;rw[Fo.D,q2k]at O;simp only at O;omega
 have S:=k0n H Y;rw[S];rcases Z with⟨C,M,A⟩|⟨C,I,A⟩
 ·have X:x.tx.size<=8:=by rw[<-q0c];exact q3a M
  have J:=y3k (cap:=cap) K B X W hN (by obtain⟨f,g,d⟩:=x;simp only at C A;subst C A;rfl) _ G P
  have U:(⟨#[108,101,116,32]⟩:ByteArray)++x.tx++(⟨#[32,61]⟩:ByteArray)=wbS ([108,101,116,32]++btL x.tx++[32,61]):=by
   have b:wbS [108,101,116,32]++wbS (btL x.tx)=wbS ([108,101,116,32]++btL x.tx):=q0l _ _;have c:wbS ([108,101,116,32]++btL x.tx)++wbS [32,61]=wbS ([108,101,116,32]++btL x.tx++[32,61]):=q0l _ _;rw[<-c,<-b];rfl
  rw[U]at J;rw[stD,if_pos C];exact J
 ·have J:=y7p (cap:=cap) K B W hN (by obtain⟨f,g,d⟩:=x;simp only at C A I;subst C A I;rfl) _ G P;rw[stD,if_neg (by omega)];exact J
end Go.Proofs.YtchdplceopegoaaGreatDoor
