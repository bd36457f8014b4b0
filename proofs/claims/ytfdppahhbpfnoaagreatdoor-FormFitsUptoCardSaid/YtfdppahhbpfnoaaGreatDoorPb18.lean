import Derived.Test.YtfdppahhbpfnoaaGreatDoorPb15
import Derived.Lib.Atoi
import Derived.Lib.AtoiErrMem
import Derived.Test.YtfdppahhbpfnoaaGreatDoorPb06
import Derived.Maps.OwnSet
import Derived.DeepKeys4
open Go.Proofs.Tryz
namespace Go.Proofs.YtfdppahhbpfnoaaGreatDoor
open Go Go.RowKit
set_option maxRecDepth 100000
set_option maxHeartbeats 8000000
structure y9l(K:LwK)(ws:List Wd)(pl:Nat->Nat)(b:Nat)(e:Wd)(op:Int)(tx:ByteArray)(p:Nat)(w:World)(n:Nat)(ns:List Td)(u:List Wd)(v:Value)(w':World):Prop where
 pr:PR (.args e 0 []) (ws.drop p) (.ok n ns u)
 o:q1s w v (⟨op,tx,(n:Int)⟩::ns) w'
 n:ns.length+u.length<=(ws.drop p).length
 rd:Ry K ws pl b (ws.length-u.length) w'
 bt:But w b w w'
inductive j2h (K:LwK) (ws:List Wd) (pl:Nat->Nat) (b:Nat) (e:Wd) (op:Int) (tx:ByteArray) (p:Nat) (w:World):Ending->World->Prop where
 | ok {n ns u A c w'} (h:y9l K ws pl b e op tx p w n ns u (.slice A (ns.length+1) c) w'):j2h K ws pl b e op tx p w (.returned (.slice A (ns.length+1) c)) w'
 | bad {u w'} (pr:PR (.args e 0 []) (ws.drop p) (.bad u)) (bt:But w b w w'):j2h K ws pl b e op tx p w (.panicked [q4g (pl (ws.length-u.length))]) w'
structure y9n(K:LwK)(ws:List Wd)(pl:Nat->Nat)(b:Nat)(e:Wd)(op:Int)(tx:ByteArray)(p:Nat)(w:World)(q n:Nat)(acc:List Td)(v:Value)(wr:World):Prop where
 n1:1<=n
 nq:n<=q
 lt:p<q
 nn:acc.length+(ws.length-q)<=ws.length-p
 o:q1s (w.heap.size+1) v acc wr
 rd:Ry K ws pl b q wr
 bt:But w b w wr
 bx:wr.heap[w.heap.size]?=some (.cells #[.int .i64 op,.string tx,.int .i64 (n:Int)] 47 (0,0))
 ok:∀r,PR (.args e n acc) (ws.drop q) r->PR (.args e 0 []) (ws.drop p) r
theorem Ry.far{K:LwK}{ws:List Wd}{pl:Nat->Nat}{b q:Nat}{w:World}(h:Ry K ws pl b q w){k i:Nat}{v:Value}(h1:k≠b)(h2:k≠K.gw)(h3:k≠K.ga):Ry K ws pl b q (w.setCell ⟨k,i,none⟩ v):=
 ⟨h.le,(cso (.inl h1)).trans h.c0,(cso (.inl h1)).trans h.c1,h.row.set,fun i hi=>(cso (.inl h2)).trans (h.wd i hi),fun i hi=>(cso (.inl h3)).trans (h.pt i hi),h.nw,h.na,h.lw,h.la,h.few⟩
theorem j3e{w:World}{k:Nat}{a c d d':Value}{T:TypeId}(h:w.heap[k]?=some (.cells #[a,c,d] T (0,0))):(w.setCell ⟨k,2,none⟩ d').heap[k]?=some (.cells #[a,c,d'] T (0,0)):=by
 simp[World.setCell,Array.getElem?_modify,h]
section
variable {K:LwK} {ws:List Wd} {pl:Nat→Nat} {b p q:Nat} {e:Wd} {op:Int} {tx:ByteArray} {w:World}
theorem k3t(he:e≠[])(U:e≠[44])(hS:∀q,p<=q->q<=ws.length->j2k K ws pl b q)(h:Ry K ws pl b p w):
  Calls prog 230 #[.pointer (some ⟨b,0,none⟩),.agg #[.int .i64 op,.string tx,.int .i64 0],.string (wbS e)] w fun r w'=>j2h K ws pl b e op tx p w r w':=by
 have HS:Hid (∀q,p<=q->q<=ws.length->j2k K ws pl b q):=hS;have Bj:b<w.heap.size:=h.row.lt;have A1:=h.le;have Bf:=h.few;have Bl:=h.gwlt;have Bk:=h.galt;have Z:Hid (Ry K ws pl b p (w.alloc (.cells #[.int .i64 op,.string tx,.int .i64 0] 47))):=h.keep (q2m w _);have HE:Hid (e≠[]):=he;have Ak:Hid (e≠[44]):=U;clear h hS he U;by_cases Q:ws[p]?=some e
 ·obtain⟨A4,A0⟩:=List.getElem?_eq_some_iff.1 Q
  have HD:Hid (ws.drop p=e::ws.drop (p+1)):=by
   show _=_;rw[List.drop_eq_getElem_cons A4,A0]
  have R:Hid (Calls prog 127 #[.pointer (some ⟨b,0,none⟩),.string (wbS e)] (w.alloc (.cells #[.int .i64 op,.string tx,.int .i64 0] 47)) fun r w'=>∃I,w'=I/\r=.returned (.bool true)/\Ry K ws pl b (p+1) I/\But w b w I/\I.heap[w.heap.size]?=some (.cells #[.int .i64 op,.string tx,.int .i64 0] 47 (0,0))):=by
   refine(q6w Z.o e Q).mono ?_;rintro r I⟨rfl,h1,b1⟩;have Bu:(w.alloc (.cells #[.int .i64 op,.string tx,.int .i64 0] 47)).heap.size=w.heap.size+1:=World.size_alloc ..;exact⟨I,rfl,rfl,h1,(But.of (q2m w _)).trans (b1.mono (by omega)),(b1.block _ (by omega) (by omega)).trans (heap_alloc_new w _)⟩
  generalize wbS e=S at R⊢;clear Q A0 Z;go_in;go_wp2_with fail;refine R.o.mono ?_;rintro r w'⟨I,rfl,rfl,h1,b1,t⟩;have d0:w'.cell? ⟨w,0,none⟩=some (.int .i64 op):=by rw[Lib.cell_of_heap t];rfl
  have d1:w'.cell? ⟨w,1,none⟩=some (.string tx):=by rw[Lib.cell_of_heap t];rfl
  have d2:w'.cell? ⟨w,2,none⟩=some (.int .i64 0):=by rw[Lib.cell_of_heap t];rfl
  have A7:=b1.size
  have HX:Hid (j2h K ws pl b e op tx p w (.returned (.slice (some ⟨w',0,none⟩) 1 1)) (w'.alloc (.cells #[.int .i64 op,.string tx,.int .i64 0] 47))):=by
   refine j2h.ok (n:=0) (ns:=[]) (u:=ws.drop (p+1)) ⟨by rw[HD.o];exact .aEnd,(q1s.one w' ⟨op,tx,0⟩).down A7,?_,?_,b1.alloc A7 _⟩
   ·rw[q0h,q0h];simp only[List.length_nil];omega
   ·rw[q0h,show ws.length-(ws.length-(p+1))=p+1 by omega];exact h1.keep (q2m w' _)
  clear h1 b1 t R;go_wp2;go_ret;exact HX.o
 ·have R:Hid (Calls prog 127 #[.pointer (some ⟨b,0,none⟩),.string (wbS e)] (w.alloc (.cells #[.int .i64 op,.string tx,.int .i64 0] 47)) fun r w'=>r=.returned (.bool false)/\w'=w.alloc (.cells #[.int .i64 op,.string tx,.int .i64 0] 47)):=q7u Z.o e HE.o Q
  have Am:Hid ((ws.drop p).head?≠some e):=by
   show _≠_;rw[q1z];exact Q
  have a:Hid (∃I,w.alloc (.cells #[.int .i64 op,.string tx,.int .i64 0] 47)=I/\Calls prog 130 #[.pointer (some ⟨b,0,none⟩)] I (fun r w'=>q3s K ws pl b (.level 0) p I r w')/\But w b w I/\I.heap.size=w.heap.size+1/\I.heap[w.heap.size]?=some (.cells #[.int .i64 op,.string tx,.int .i64 0] 47 (0,0))):=
   ⟨_,rfl,HS.o p Zl A1 _ Z.o,But.of (q2m w _),World.size_alloc ..,heap_alloc_new w _⟩
  clear Q Z;go_in;go_wp2_with fail;refine R.o.mono ?_;rintro r w'⟨rfl,rfl⟩;go_wp2_with fail;obtain⟨I,A9,Ab,z,A8,Aa⟩:=a.o;rw[A9];have Ai:Hid (But w b w I):=z;have Aj:=(show Hid (_=_)from Aa);clear z Aa a A9 R;refine Ab.mono ?_;clear Ab;intro r w2 hG;cases hG with
  | @bad u2 _ pr bt=>
   have HB:Hid (j2h K ws pl b e op tx p w (.panicked [q4g (pl (ws.length-u2.length))]) w2):=.bad (.aB0 Am.o pr) (Ai.o.trans (bt.mono (by omega)));clear pr bt;go_wp2;exact⟨rfl,HB.o⟩
  | @ok m2 ns2 u2 A2 c2 _ hg=>
   have M:=z0g hg.pr;have hu:ws.drop (ws.length-u2.length)=u2:=q6k M.1;have Ax:=hg.n;have U:=M.2 m2 ns2 u2 rfl;rw[q0h]at Ax U;simp only[Job.eats]at U;have Br:=hg.bt.size;have N:w2.heap[w.heap.size]?=some (.cells #[.int .i64 op,.string tx,.int .i64 0] 47 (0,0)):=(hg.bt.block _ (by omega) (by omega)).trans Aj.o;have d2:w2.cell? ⟨w,2,none⟩=some (.int .i64 0):=by rw[Lib.cell_of_heap N];rfl
   have f2:w2.frozen? ⟨w,2,none⟩=false:=Lib.frozen_of_heap N 2
   have Aq:Hid (y9n K ws pl b e op tx p w (ws.length-u2.length) 1 ns2 (.slice A2 ns2.length c2) (w2.setCell ⟨w,2,none⟩ (.int .i64 1))):=by
    have ho:q1s (w.heap.size+1) (.slice A2 ns2.length c2) ns2 w2:=by rw[<-A8];exact hg.o
    refine⟨Nat.le_refl _,by omega,by omega,by omega,ho.kept fun g h1 h2=>Below.heap_setCell _ _ _ _ (by show g≠w.heap.size;omega),hg.rd.far (by omega) (by omega) (by omega),(Ai.o.trans (hg.bt.mono (by omega))).setCell (p:=⟨w,2,none⟩) (.inr Zl) _,j3e N,fun r hr=>?_⟩;rw[hu]at hr;exact .aO0 Am.o hg.pr (by simpa using hr)
   clear hg hu Ax U M N;generalize Az:ns2.length=nl at Aq;have Bb:Hid (ns2.length=nl):=Az;clear Az;go_wp2_with fail
   go_loopw [7] (fun x wr=>∃(q n:Nat)(A:List Td)(A':Option Addr)(W c':Nat),x=.slice A' W c'/\A.length=W/\y9n K ws pl b e op tx p w q n A (.slice A' W c') wr) (fun _ wr=>j1m wr b)
   case atStart=>exact⟨_,1,ns2,A2,nl,c2,rfl,Bb.o,Aq.o⟩
   case round=>
    obtain⟨q,n,A,A3,H,c3,rfl,L,G⟩:=hrel;have J:=hid G;have X:Hid (A.length=H):=L;have Bh:=G.rd.le;have hn:=G.nn;have Bp:=G.nq;have Ag:=G.bt.size;have Bi:b<wr.heap.size:=G.rd.row.lt;have Bn:w.heap.size<wr.heap.size:=(Array.getElem?_eq_some_iff.1 G.bx).1;rw[L]at hn;by_cases Q:ws[q]?=some [44]
    ·obtain⟨f,d⟩:=List.getElem?_eq_some_iff.1 Q
     have m:Hid (ws.drop q=[44]::ws.drop (q+1)):=by
      show _=_;rw[List.drop_eq_getElem_cons f,d]
     have R:Hid (Calls prog 127 #[.pointer (some ⟨b,0,none⟩),.string ⟨#[44]⟩] wr fun r w'=>r=.returned (.bool true)/\Ry K ws pl b (q+1) w'/\But wr b wr w'):=q6w G.rd [44] Q;clear G L Q d;go_wp2_with fail;refine R.o.mono ?_;rintro r w4⟨rfl,h4,b4⟩;have j:Hid (But wr b wr w4):=b4;have Bs:=b4.size;have a:Hid (Calls prog 130 #[.pointer (some ⟨b,0,none⟩)] w4 (fun r w'=>q3s K ws pl b (.level 0) (q+1) w4 r w')):=HS.o (q+1) (by have:=J.o.lt;omega) (by omega) _ h4;clear h4 b4 R;go_wp2_with fail;refine a.o.mono ?_;intro r D hG;cases hG with
     | @bad u5 _ pr bt=>
      have HB:Hid (j2h K ws pl b e op tx p w (.panicked [q4g (pl (ws.length-u5.length))]) D):=by
       obtain⟨W,c⟩:∃W,n=W+1:=⟨n-1,by have:=J.o.n1;omega⟩;subst c;exact .bad (J.o.ok _ (by rw[m.o];exact .aB Ak.o pr)) ((J.o.bt.trans (j.o.mono Ag)).trans (bt.mono (by omega)))
      clear pr bt;go_wp2;exact⟨rfl,HB.o⟩
     | @ok m5 ns5 u5 A5 c5 _ hg=>
      have M:=z0g hg.pr;have hu:ws.drop (ws.length-u5.length)=u5:=q6k M.1;have Ay:=hg.n;have Ae:=M.2 m5 ns5 u5 rfl;rw[q0h]at Ay Ae;simp only[Job.eats]at Ae;have Be:=hg.bt.size;have An:Hid (q1s (w.heap.size+1) (.slice A3 H c3) A D):=(J.o.o.but2 j.o (by omega)).but2 hg.bt (by omega);have Bd:Hid (Tds D A5 ns5):=hg.o.tds;have Al:Hid (A5=none->ns5.length=0/\c5=0):=hg.o.none.2;have y:Hid (D.heap[w.heap.size]?=some (.cells #[.int .i64 op,.string tx,.int .i64 (n:Int)] 47 (0,0))):=(hg.bt.block _ (by omega) (by omega)).trans ((j.o.block _ (by omega) (by omega)).trans J.o.bx);have l:Hid (But w b w D):=(J.o.bt.trans (j.o.mono Ag)).trans (hg.bt.mono (by omega));have s:Hid (Ry K ws pl b (ws.length-u5.length) D):=hg.rd
      have Bc:Hid (∀r,PR (.args e (n+1) (A++ns5)) (ws.drop (ws.length-u5.length)) r->PR (.args e 0 []) (ws.drop p) r):=fun r hr=>by
       obtain⟨W,c⟩:∃W,n=W+1:=⟨n-1,by have:=J.o.n1;omega⟩;subst c;rw[hu]at hr;exact J.o.ok _ (by rw[m.o];exact .aO Ak.o hg.pr hr)
      have Bq:q<ws.length-u5.length:=by omega
      clear hg hu M Ae;generalize Ac:ns5.length=n5 at Ay Al;have Y:Hid (ns5.length=n5):=Ac;have Ad:H+n5<=1000000:=by omega
      clear Ac a;go_wp2_with(at_builtin;refine k4c rfl _ _ rfl (w.heap.size+1) _ A rfl An.o A5 n5 ns5 Y.o c5 rfl Bd.o Al.o (H+n5) (by rw[X.o]) Ad (by omega) ?_);intro A6 c6 w6 E C;have Bt:=C.size;have B:Below (w.heap.size+1) D w6:= Zb.grown C (by omega) (fun k hk=>(World.ownsRow.lt An.o k hk).1);have P:w6.heap[w.heap.size]?=some (.cells #[.int .i64 op,.string tx,.int .i64 (n:Int)] 47 (0,0)):=(B.block _ (by omega)).trans y.o;have d6:w6.cell? ⟨w,2,none⟩=some (.int .i64 (n:Int)):=by rw[Lib.cell_of_heap P];rfl
      have f6:w6.frozen? ⟨w,2,none⟩=false:=Lib.frozen_of_heap P 2
      have Ar:Hid (y9n K ws pl b e op tx p w (ws.length-u5.length) (n+1) (A++ns5) (.slice A6 (H+n5) c6) (w6.setCell ⟨w,2,none⟩ (.int .i64 ((n:Int)+1)))):=by
       have At:(A++ns5).length=H+n5:=by rw[List.length_append,X.o,Y.o]
       have h7:=J.o.lt;refine⟨by omega,by omega,by omega,by rw[At];omega,E.kept fun g h1 h2=>Below.heap_setCell _ _ _ _ (by show g≠w.heap.size;omega),(s.o.keepB B (by omega) (by omega) (by omega)).far (by omega) (by omega) (by omega),(l.o.trans (But.of (B.mono (by omega)))).setCell (p:=⟨w,2,none⟩) (.inr Zl) _,?_,Bc.o⟩;rw[show((n+1:Nat):Int)=(n:Int)+1 by omega];exact j3e P
      have Ah:Hid ((A++ns5).length=H+n5):=(show _=_ by rw[List.length_append,X.o,Y.o]);have Bg:(n:Int)+1<=60001:=by omega
      clear E C B P y;go_wp2;refine⟨⟨_,n+1,A++ns5,A6,H+n5,c6,rfl,Ah.o,Ar.o⟩,?_⟩;rw[Ar.o.rd.len_eq,J.o.rd.len_eq];omega
    ·have R:Hid (Calls prog 127 #[.pointer (some ⟨b,0,none⟩),.string ⟨#[44]⟩] wr fun r w'=>r=.returned (.bool false)/\w'=wr):=q7u G.rd [44] (by simp) Q;by_cases V:ws[q]?=some e
     ·obtain⟨f,d⟩:=List.getElem?_eq_some_iff.1 V
      have m:Hid (ws.drop q=e::ws.drop (q+1)):=by
       show _=_;rw[List.drop_eq_getElem_cons f,d]
      have HM:Hid (Calls prog 129 #[.pointer (some ⟨b,0,none⟩),.string (wbS e)] wr fun r w'=>r=.returned (.tuple #[])/\Ry K ws pl b (q+1) w'/\But wr b wr w'):=q5w G.rd e V;clear G L Q V d;go_wp2_with fail;refine R.o.mono ?_;rintro r w4⟨rfl,rfl⟩;go_wp2_with fail;refine HM.o.mono ?_;rintro r D⟨rfl,h5,b5⟩;have Be:=b5.size;have O:D.heap[w.heap.size]?=some (.cells #[.int .i64 op,.string tx,.int .i64 (n:Int)] 47 (0,0)):=(b5.block _ (by omega) (by omega)).trans J.o.bx;have d0:D.cell? ⟨w,0,none⟩=some (.int .i64 op):=by rw[Lib.cell_of_heap O];rfl
      have d1:D.cell? ⟨w,1,none⟩=some (.string tx):=by rw[Lib.cell_of_heap O];rfl
      have d2:D.cell? ⟨w,2,none⟩=some (.int .i64 (n:Int)):=by rw[Lib.cell_of_heap O];rfl
      have Af:q1s (w.heap.size+1) (.slice A3 H c3) A D:=J.o.o.but2 b5 (by omega);have As:Hid (q1s w (.slice (some ⟨D,0,none⟩) 1 1) [⟨op,tx,(n:Int)⟩] (D.alloc (.cells #[.int .i64 op,.string tx,.int .i64 (n:Int)] 47))):=(q1s.one D ⟨op,tx,(n:Int)⟩).down (by omega);have Ap:Hid (Tds (D.alloc (.cells #[.int .i64 op,.string tx,.int .i64 (n:Int)] 47)) A3 A):=Af.tds.alloc _;have Ba:Hid (A3=none->H=0/\c3=0):=Af.none.2;have Ao:Hid ((D.alloc (.cells #[.int .i64 op,.string tx,.int .i64 (n:Int)] 47)).heap.size=D.heap.size+1):=World.size_alloc ..;have s:Hid (Ry K ws pl b (q+1) (D.alloc (.cells #[.int .i64 op,.string tx,.int .i64 (n:Int)] 47))):=h5.keep (q2m D _);have l:Hid (But w b w (D.alloc (.cells #[.int .i64 op,.string tx,.int .i64 (n:Int)] 47))):=(J.o.bt.trans (b5.mono Ag)).alloc (by omega) _;have Ad:1+H<=1000000:=by omega
      have Au:b<D.heap.size:=h5.row.lt;have Aw:=h5.gwlt;have Av:=h5.galt;clear h5 b5 O Af R HM;go_wp2_with(at_builtin;refine k4c rfl _ _ rfl w.heap.size _ [⟨op,tx,(n:Int)⟩] rfl As.o A3 H A X.o c3 rfl Ap.o Ba.o (1+H) rfl Ad (by rw[Ao.o];omega) ?_);intro A6 c6 w6 E C
      have i:∀k',(Value.slice (some ⟨D,0,none⟩) 1 1).ownBlock=some k'->D.heap.size<=k':=fun k' hk=>by
       simp only[Value.ownBlock,Option.some.injEq]at hk;omega
      have B:Below D (D.alloc (.cells #[.int .i64 op,.string tx,.int .i64 (n:Int)] 47)) w6:= Zb.grown C (by rw[Ao.o];omega) i
      have HX:Hid (j2h K ws pl b e op tx p w (.returned (.slice A6 (H+1) c6)) w6):=by
       have L:=X.o;subst L;have G:=J.o;have v:(ws.drop (q+1)).length=ws.length-(q+1):=q0h;have Bm:=G.lt;have Bo:=G.nn;refine j2h.ok (n:=n) (ns:=A) (u:=ws.drop (q+1)) ⟨G.ok _ (by rw[m.o];exact .aEnd),?_,?_,?_,l.o.trans (But.of (B.mono (by omega)))⟩
       ·rw[show A.length+1=1+A.length by omega];exact E
       ·rw[v,q0h];omega
       ·rw[v,show ws.length-(ws.length-(q+1))=q+1 by omega];exact s.o.keepB B Au Aw Av
      clear E C B i s l As Ap;rw[show 1+H=H+1 by omega];go_wp2;go_ret;exact HX.o
     ·have HM:Hid (Calls prog 129 #[.pointer (some ⟨b,0,none⟩),.string (wbS e)] wr fun r w'=>r=.panicked [q4g (pl q)]/\w'=wr):=q6x G.rd e HE.o V
      have HX:Hid (j2h K ws pl b e op tx p w (.panicked [q4g (pl q)]) wr):=by
       have v:(ws.drop q).length=ws.length-q:=q0h;obtain⟨W,c⟩:∃W,n=W+1:=⟨n-1,by have:=G.n1;omega⟩;subst c;have h9:=j2h.bad (K:=K) (pl:=pl) (b:=b) (op:=op) (tx:=tx) (w:=w) (G.ok _ (.aSep (by rw[q1z];exact V) (by rw[q1z];exact Q))) G.bt;rw[v,show ws.length-(ws.length-q)=q by omega]at h9;exact h9
      clear G L Q V;go_wp2_with fail;refine R.o.mono ?_;rintro r w4⟨rfl,rfl⟩;go_wp2_with fail;refine HM.o.mono ?_;rintro r D⟨rfl,rfl⟩;go_wp2;exact⟨rfl,HX.o⟩
end
theorem k7n:∀(w:Wd)(a:Nat),(∀b∈w,q4f b=true)->Lib.decFrom a w=some (w.foldl (fun a c=>a*10+(c.toNat-48)) a)
 | [],a,_=>rfl
 | c::r,a,h=>by
  have hc:=h c (by simp);simp only[q4f,Bool.and_eq_true,decide_eq_true_eq]at hc;have e:Lib.digitVal c=some (c.toNat-48):=by rw[Lib.digitVal,if_pos hc]
  rw[Lib.decFrom,e];exact k7n r _ fun b hb=>h b (by simp[hb])
theorem v1y{w:Wd}(h:∀b∈w,q4f b=true)(h0:w≠[]):Lib.atoi w=some ((j8b w:Nat):Int):=by
 cases w with
 | nil=>exact absurd rfl h0
 | cons c r=>
  have A:=h c (by simp);simp only[q4f,Bool.and_eq_true,decide_eq_true_eq]at A
  have B:(c==45)=false:=by
   rw[beq_eq_false_iff_ne];rintro rfl;revert A;decide
  have C:(c==43)=false:=by
   rw[beq_eq_false_iff_ne];rintro rfl;revert A;decide
  have D:Lib.decNat (c::r)=some (j8b (c::r)):=by
   rw[Lib.decNat];exact k7n (c::r) 0 h
  simp only[Lib.atoi,B,C,D];rfl
theorem v1x(w:Wd)(h:∀b∈w,q4f b=true)(h0:w≠[])(hl:w.length<=6)(W:World):Calls prog 228 #[.string (wbS w)] W fun e w'=>e=.returned (.tuple #[.int .i64 ((j8b w:Nat):Int),.nilIface])/\Below W W w':=by
 refine(atoi_sh (wbS w) ((j8b w:Nat):Int) (by rw[<-q0c];show w.length<=18;omega) (v1y h h0) W).mono ?_;rintro e w'⟨rfl,t,rfl⟩;exact⟨rfl,Lib.bytesWorld_below _ _ _⟩
section
variable {K:LwK} {ws:List Wd} {pl:Nat→Nat} {b p:Nat} {w:World}
theorem q3s.lev2{e:Ending}{w':World}(h:q3s K ws pl b .single p w e w'):q3s K ws pl b (.level 2) p w e w':=by
 cases h with
 | ok h=>exact .ok ⟨.lev2 h.pr,h.o,h.n,h.rd,h.bt⟩
 | bad pr bt=>exact .bad (.lev2 pr) bt
theorem v1k{j:Job}{q:Nat}{w':World}(hq:q<=ws.length)(pr:PR j (ws.drop p) (.bad (ws.drop q)))(bt:But w b w w'):q3s K ws pl b j p w (.panicked [q4g (pl q)]) w':=by
 have A:=q3s.bad (K:=K) (pl:=pl) pr bt;rw[q0h,show ws.length-(ws.length-q)=q by omega]at A;exact A
theorem q4b(h:p<ws.length):ws.drop p=ws[p]::ws.drop (p+1):=List.drop_eq_getElem_cons h
theorem j2c(hS:∀q,p<q->q<=ws.length->j2k K ws pl b q)(hp:p<ws.length)(hn:nmW ws[p]=true)(h:Ry K ws pl b p w):
  Calls prog 229 #[.pointer (some ⟨b,0,none⟩)] w fun e w'=>q3s K ws pl b .single p w e w':=by
 have D:Hid (Calls prog 175 #[.pointer (some ⟨b,0,none⟩)] w fun e w'=>e=.returned (.string (wbS ws[p]))/\Ry K ws pl b (p+1) w'/\But w b w w'):=q7v h hp;have P:Hid (ws.drop p=ws[p]::ws.drop (p+1)):=q4b hp;have g:b<w.heap.size:=h.row.lt;clear h;by_cases G:ws[p+1]?=some [40]
 ·obtain⟨J,I⟩:=List.getElem?_eq_some_iff.1 G
  have H:Hid (ws.drop (p+1)=[40]::ws.drop (p+2)):=by
   show _=_;rw[q4b J,I]
  have Q:Hid (∀W,Ry K ws pl b (p+2) W->But w b w W->Calls prog 230 #[.pointer (some ⟨b,0,none⟩),.agg #[.int .i64 3,.string (wbS ws[p]),.int .i64 0],.string ⟨#[41]⟩] W fun r w'=>q3s K ws pl b .single p w r w'):=fun W hW hB=>by
   refine(k3t (e:=[41]) (op:=3) (tx:=wbS ws[p]) (by simp) (by decide) (fun q C N=>hS q (by omega) N) hW).mono ?_;intro r w' X;have Y:=hB.size;cases X with
   | bad pr bt=>exact .bad (by rw[P.o,H.o];exact .sCB hn pr) (hB.trans (bt.mono Y))
   | @ok n ns u A c _ hg=>
    have i:=hg.n;rw[q0h]at i;refine q3s.ok (m:=0) (ns:=clT ws[p] n::ns) (u:=u) ⟨by rw[P.o,H.o];exact .sCO hn hg.pr,hg.o.down Y,?_,hg.rd,hB.trans (hg.bt.mono Y)⟩;rw[q0h,List.length_cons];omega
  generalize wbS ws[p]=S at D Q;go_in;go_wp2_with fail;refine D.o.mono ?_;rintro e B⟨rfl,C,E⟩;have O:Hid (But w b w B):=E;have Z:=E.size;have M:Hid (Calls prog 127 #[.pointer (some ⟨b,0,none⟩),.string ⟨#[40]⟩] B fun e w'=>e=.returned (.bool true)/\Ry K ws pl b (p+2) w'/\But B b B w'):=q6w C [40] G;clear C E D G I;go_wp2_with fail;refine M.o.mono ?_;rintro e a⟨rfl,N,d⟩;have R:Hid (Calls prog 230 #[.pointer (some ⟨b,0,none⟩),.agg #[.int .i64 3,.string S,.int .i64 0],.string ⟨#[41]⟩] a fun r w'=>q3s K ws pl b .single p w r w'):=Q.o a N (O.o.trans (d.mono Z));clear N d M Q;go_wp2_with fail;refine R.o.mono ?_;intro r f X;cases X with
  | @bad u _ pr bt=>
   have L:Hid (q3s K ws pl b .single p w (.panicked [q4g (pl (ws.length-u.length))]) f):=.bad pr bt;clear pr bt;go_wp2;exact⟨rfl,L.o⟩
  | @ok m ns u A c _ hg=>
   have L:Hid (q3s K ws pl b .single p w (.returned (.slice A ns.length c)) f):=.ok hg;clear hg;generalize ns.length=nl at L⊢;go_wp2;go_ret;exact L.o
 ·have U:Hid (∀W,Ry K ws pl b (p+1) W->But w b w W->q3s K ws pl b .single p w (.returned (.slice (some ⟨W,0,none⟩) 1 1)) (W.alloc (.cells #[.int .i64 2,.string (wbS ws[p]),.int .i64 0] 47))):=fun W hW hB=>by
   refine q3s.ok (m:=0) (ns:=[nmT ws[p]]) (u:=ws.drop (p+1)) ⟨by rw[P.o];exact .sName hn (by rw[q1z];exact G),(q1s.one W (nmT ws[p])).down hB.size,?_,?_,hB.alloc hB.size _⟩
   ·rw[q0h,q0h];simp only[List.length_cons,List.length_nil];omega
   ·rw[q0h,show ws.length-(ws.length-(p+1))=p+1 by omega];exact hW.keep (q2m W _)
  generalize wbS ws[p]=S at D U;go_in;go_wp2_with fail;refine D.o.mono ?_;rintro e B⟨rfl,C,E⟩;have V:=hid (U.o B C E);have M:Hid (Calls prog 127 #[.pointer (some ⟨b,0,none⟩),.string ⟨#[40]⟩] B fun e w'=>e=.returned (.bool false)/\w'=B):=q7u C [40] (by simp) G;clear C E D G U;go_wp2_with fail;refine M.o.mono ?_;rintro e a⟨rfl,rfl⟩;go_wp2;go_ret;exact V.o
end
end Go.Proofs.YtfdppahhbpfnoaaGreatDoor
namespace Go.Proofs.YtfdppahhbpfnoaaGreatDoor
open Go Go.RowKit Go.Maps
theorem v4p:laidOutB prog=true:=by kernel_rfl
theorem g1x:(172:TypeId)<prog.types.size:=of_decide_eq_true (by kernel_rfl)
theorem mkt:prog.keyTypeAt 3 172=true:=by kernel_rfl
theorem y4n:Keyed prog 172:=Keyed.of_law (deep_law_laid v4p (m:=3) (by omega) g1x mkt (by rw[Tryz.underlying172]))
theorem g0s:prog.keyType 172=true:=by kernel_rfl
theorem v8g:prog.cellsOf 172=2:=by kernel_rfl
theorem y3c:prog.cellsOf 3=1:=by kernel_rfl
theorem g0r:∃d,prog.types.size=d+1:=⟨371-1,by kernel_rfl⟩
theorem y6x(w:World):(zeroValue 174).run prog w=.ok (.agg #[.int .i64 0,.int .i64 0,.int .i64 0,.int .i64 0,.int .i64 0]) w:=by kernel_rfl
theorem g1t{n:Nat}(h:n<=1000000):(Lit.int .i64 (n:Int)).wf=true:=WalkArith.wf_i64 (by omega)
theorem g0q{p c:Nat}(hp:p<=1000000)(hc:c<=1000000):∃kl,keyOf prog 172 (.agg #[.int .i64 (p:Int),.int .i64 (c:Int)])=some kl:=by
 obtain⟨d,C⟩:=g0r;have A:=g1t hp;have B:=g1t hc
 have D:(Value.agg #[.int .i64 (p:Int),.int .i64 (c:Int)]).formed prog 172=true:=by
  simp[Value.formed,Tryz.underlying172,v8g]
 refine⟨.string (keyBytes [.int .i64 p,.int .i64 c]),?_⟩;unfold keyOf;rw[Tryz.underlying172];simp only[g0s,D,Bool.and_self,if_true,C];simp[Program.keyLits,Tryz.underlying172,Tryz.underlying3,v8g,y3c,Value.cells,A,B]
def cvV(k:Cv):Value:=.agg #[.int .i64 k.o,.int .i64 k.l,.int .i64 k.ch,.int .i64 k.np,.int .i64 k.nc]
def zCv:Cv:=⟨0,0,0,0,0⟩
def cvR(v:Value):Option (DataW Value × List MemPlace):=some (.held v,[])
def y9c(S:Nat->Nat->Bool):Nat:=(List.range 40501).countP fun k=>S (k / 101) (k % 101)
theorem y0y(S:Nat->Nat->Bool):y9c S<=40501:=by
 have:=List.countP_le_length (p:=fun k=>S (k / 101) (k % 101)) (l:=List.range 40501)
 rw[List.length_range]at this;exact this
def k0k(S:Nat->Nat->Bool)(p c:Nat):Nat->Nat->Bool:=fun p' c'=>S p' c'||(decide (p'=p)&&decide (c'=c))
theorem z5t{f g:Nat->Bool}(k:Nat):∀(l:List Nat),k∈l->(∀x,f x=true->g x=true)->f k=false->g k=true->l.countP f+1<=l.countP g
 | [],h,_,_,_=>by simp at h
 | a::l,h,h1,h2,h3=>by
  have hm:l.countP f<=l.countP g:=List.countP_mono_left fun x _=>h1 x
  rw[List.countP_cons,List.countP_cons];by_cases e:a=k
  ·subst e;rw[h2,h3];simp;omega
  ·have h4:=z5t k l (by rcases List.mem_cons.1 h with h|h;exact absurd h.symm e;exact h) h1 h2 h3;cases hf:f a with
   | true=>rw[h1 a hf];omega
   | false=>simp only[Bool.false_eq_true,if_false,Nat.add_zero];exact Nat.le_trans h4 (Nat.le_add_right _ _)
theorem v2u{S:Nat->Nat->Bool}{p c:Nat}(hp:p<=400)(hc:c<=100)(h:S p c=false):y9c S+1<=y9c (k0k S p c):=by
 have A:(p*101+c) / 101=p:=by omega
 have B:(p*101+c) % 101=c:=by omega
 refine z5t (p*101+c) _ (List.mem_range.2 (by omega)) (fun x hx=>?_) ?_ ?_
 ·simp only[k0k,hx,Bool.true_or]
 ·rw[A,B];exact h
 ·simp[k0k,A,B]
def Mem(w:World)(b:Nat)(C:Nat->Nat->Cv)(S:Nat->Nat->Bool):Prop:=
 ∃D n,w.ownsMap prog 172 cvR b n D/\n<=y9c S/\∀p c:Nat,p<=400->c<=100->∀kl,keyOf prog 172 (.agg #[.int .i64 (p:Int),.int .i64 (c:Int)])=some kl->
  Maps.has D kl=S p c/\D.atKey kl (.held (cvV zCv))=.held (cvV (if S p c=true then C p c else zCv))
section
variable {w w':World} {b:Nat} {C:Nat→Nat→Cv} {S:Nat→Nat→Bool} {p c:Nat}
theorem Mem.lt(h:Mem w b C S):b<w.heap.size:=by
 obtain⟨D,n,h,_⟩:=h;exact h.lt
theorem Mem.kept(h:Mem w b C S)(hb:w'.heap[b]?=w.heap[b]?):Mem w' b C S:=by
 obtain⟨D,n,⟨B,A,E,G⟩,H⟩:=h;exact⟨D,n,⟨B,A,hb.trans E,G⟩,H⟩
theorem Mem.look(h:Mem w b C S)(hp:p<=400)(hc:c<=100):(Instr.lookup 168 (.map (some b)) (.agg #[.int .i64 (p:Int),.int .i64 (c:Int)]) false).run prog w=.ok (cvV (if S p c=true then C p c else zCv)) w:=by
 obtain⟨D,n,h,_,G⟩:=h;obtain⟨H,E⟩:=g0q (p:=p) (c:=c) (by omega) (by omega);obtain⟨v,I,A,B⟩:=h.lookup y4n Tryz.underlying168 (y6x w) (zd:=.held (cvV zCv)) (zp:=[]) rfl E;rw[(G p c hp hc H E).2]at B;simp only[cvR,Option.some.injEq,Prod.mk.injEq,DataW.held.injEq]at B;rw[A,B.1]
theorem Mem.look_ok(h:Mem w b C S)(hp:p<=400)(hc:c<=100):(Instr.lookup 168 (.map (some b)) (.agg #[.int .i64 (p:Int),.int .i64 (c:Int)]) true).run prog w=.ok (.tuple #[cvV (if S p c=true then C p c else zCv),.bool (S p c)]) w:=by
 obtain⟨D,n,h,_,G⟩:=h;obtain⟨H,B⟩:=g0q (p:=p) (c:=c) (by omega) (by omega);obtain⟨v,I,A,E⟩:=h.look_ok y4n Tryz.underlying168 (y6x w) (zd:=.held (cvV zCv)) (zp:=[]) rfl B;rw[(G p c hp hc H B).2]at E;simp only[cvR,Option.some.injEq,Prod.mk.injEq,DataW.held.injEq]at E;rw[A,E.1,(G p c hp hc H B).1]
theorem Mem.store(h:Mem w b C S)(hp:p<=400)(hc:c<=100)(hs:S p c=false):
  ∃w',(Instr.mapUpdate 168 (.map (some b)) (.agg #[.int .i64 (p:Int),.int .i64 (c:Int)]) (cvV (C p c))).run prog w=.ok () w'/\Mem w' b C (k0k S p c)/\w.grownBy w' (some b):=by
 obtain⟨D,n,h,N,L⟩:=h;obtain⟨K,A⟩:=g0q (p:=p) (c:=c) (by omega) (by omega);obtain⟨O,E,B,M⟩:=h.update y4n Tryz.underlying168 (by have:=y0y S;unfold maxLen;omega) A (d:=.held (cvV (C p c))) (ps:=[]) (val:=cvV (C p c)) rfl;refine⟨O,E,⟨_,_,B,Nat.le_trans (Nat.add_le_add_right N 1) (v2u hp hc hs),fun p' c' hp' hc' kl' hk'=>?_⟩,M⟩;by_cases e:p'=p/\c'=c
 ·obtain⟨rfl,rfl⟩:=e;have I:kl'=K:=by rw[A]at hk';exact(Option.some.inj hk').symm
  subst I;have H:k0k S p' c' p' c'=true:=by simp[k0k]
  rw[H,if_pos rfl];exact⟨has_put_same h.isMap (y4n.key A) _,atKey_put_same h.isMap (y4n.key A) _ _⟩
 ·have ne:kl'≠K:=by
   intro I;subst I
   have:=y4n.inj hk' A
   simp at this;omega
  have H:k0k S p c p' c'=S p' c':=by
   simp only[k0k];by_cases J:p'=p
   ·have G:¬c'=c:=fun G=>e ⟨J,G⟩
    simp[G]
   ·simp[J]
  rw[H,has_put_other ne,atKey_put_other ne];exact L p' c' hp' hc' kl' hk'
end
theorem Mem.made(w:World)(C:Nat->Nat->Cv):Mem (w.alloc (.map #[] 0)) w.heap.size C (fun _ _=>false):=
 ⟨.map [],0,World.ownsMap_made _ _ _ _,Nat.zero_le _,fun _ _ _ _ _ _=>⟨rfl,rfl⟩⟩
end Go.Proofs.YtfdppahhbpfnoaaGreatDoor
namespace Go.Proofs.YtfdppahhbpfnoaaGreatDoor
def z1n(f g:Nat->List Int->Except Int (List UInt8 × List Int))(deep:Nat)(ws:List Int):Except Int (List UInt8 × List Int):=
 match f deep ws with
 | .error e=>.error e
 | .ok (s,ws1)=>match g deep ws1 with
  | .error e=>.error e
  | .ok (t,ws2)=>.ok (s++t,ws2)
def q9y(f:Nat->List Int->Except Int (List UInt8 × List Int))(sA:ByteArray)(fl:Bool)(deep:Nat)(ws:List Int):Except Int (List UInt8 × List Int):=
 match ws with
 | []=>.error 2
 | c::ws=>if c=1 then f deep ws else if fl=true then .ok (sA.data.toList,ws)else .error 4
def q7j(f g:Nat->List Int->Except Int (List UInt8 × List Int))(deep:Nat)(ws:List Int):Except Int (List UInt8 × List Int):=
 match ws with
 | []=>.error 2
 | c::ws=>if c=0 then f deep ws else g deep ws
theorem v3l{t:Tr}{s:List UInt8}(h:t.Wf)(e:t.flat=some s):s.length<=20*t.N.length:=by
 have:=z3w t h
 rw[e]at this;exact this
theorem q6e:∀(t:Tr)(deep:Nat)(ws:List Int)(u:List UInt8)(v:List Int),t.Wf->t.lay deep ws=.ok (u,v)->deep+8*t.N.length<=3300->u.length<=4000*t.N.length
 | .leaf x,deep,ws,u,v,h,e,hd=>by
  obtain⟨_,_,_,_,h5,_⟩:=q2a h.1;simp only[Tr.lay]at e;simp only[Tr.N,List.length_cons,List.length_nil]at hd⊢
  split at e
  ·rename_i h1;cases e
   have:=q4d (h5 h1)
   rw[q1a];omega
  ·split at e
   ·cases e;simp
   ·cases e;simp;omega
 | .one x a,deep,ws,u,v,h,e,hd=>by
  obtain⟨_,_,_,_,_,h6⟩:=q2a h.1;simp only[Tr.lay]at e;simp only[Tr.N,List.length_cons]at hd⊢
  split at e
  ·rename_i h7
   have:=h6 h7
   have:=q6e a _ ws u v h.2.2 e (by omega)
   omega
  ·match ws,e with
   | c::ws,e=>
    simp only at e
    split at e
    ·have:=q6e a deep ws u v h.2.2 e (by omega)
     omega
    ·cases hf:a.flat with
     | none=>rw[hf]at e;cases e
     | some w=>
      rw[hf]at e;cases e
      have:=v3l h.2.2 hf
      omega
 | .two x a b,deep,ws,u,v,h,e,hd=>by
  simp only[Tr.lay]at e;simp only[Tr.N,List.length_cons,List.length_append]at hd⊢
  split at e
  ·cases ha:a.lay deep ws with
   | error e0=>rw[ha]at e;cases e
   | ok p=>
    obtain⟨s1,ws1⟩:=p;rw[ha]at e;simp only at e;cases hb:b.lay deep ws1 with
    | error e0=>rw[hb]at e;cases e
    | ok q=>
     obtain⟨s2,ws2⟩:=q;rw[hb]at e;cases e
     have:=q6e a deep ws s1 ws1 h.2.2.1 ha (by omega)
     have:=q6e b deep ws1 s2 _ h.2.2.2 hb (by omega)
     rw[List.length_append];omega
  ·match ws,e with
   | c::ws,e=>
    simp only at e
    split at e
    ·have:=q6e a deep ws u v h.2.2.1 e (by omega)
     omega
    ·have:=q6e b deep ws u v h.2.2.2 e (by omega)
     omega
theorem y2f{x:Nd}{a b:Tr}(h:x.op=6):Tr.lay (.two x a b)=z1n a.lay b.lay:=by
 funext deep ws
 simp only[Tr.lay,z1n,if_pos h];rfl
theorem j0u{x:Nd}{a b:Tr}(h:x.op=9):Tr.lay (.two x a b)=q7j a.lay b.lay:=by
 funext deep ws
 simp only[Tr.lay,q7j,if_neg (show ¬x.op=6 by omega)];rfl
theorem j5w{x:Nd}{a:Tr}(h:x.op=8):Tr.lay (.one x a)=q9y a.lay a.line a.isFlat:=by
 funext deep ws
 simp only[Tr.lay,q9y,if_neg (show ¬x.op=7 by omega)];cases ws with
 | nil=>rfl
 | cons c ws=>
  simp only[k2c,Tr.isFlat];cases a.flat with
  | none=>rfl
  | some s=>rfl
def shS(r:Except Int (List UInt8)):ByteArray:=match r with| .ok s=>⟨s.toArray⟩| .error _=>⟨#[]⟩
def shE(r:Except Int (List UInt8)):Int:=match r with| .ok _=>0| .error e=>e
theorem v5q{t:Tr}{ws:List Int}(h:q2g ws):t.show ws=match t.lay 0 ws with| .error e=>.error e| .ok (s,[])=>.ok s| .ok (_,_::_)=>.error 2:=by
 unfold Tr.show;rw[if_pos (k9r.2 h)];rfl
end Go.Proofs.YtfdppahhbpfnoaaGreatDoor
namespace Go.Proofs.YtfdppahhbpfnoaaGreatDoor
open Go Go.RowKit
theorem y7w(s:List UInt8):(tkW s).length<=q0r s:=by
 unfold tkW;refine Nat.le_trans (z0r _) ?_;rw[List.length_take];omega
theorem z8z:∀(n:Nat)(s:List UInt8)(i:Nat),s.length<=n->((lxW s i).map fun x=>x.2.length).sum<=s.length
 | 0,s,i,h=>by
  have:s=[]:=List.eq_nil_of_length_eq_zero (by omega)
  subst this;rw[lxW,z2c];simp
 | n+1,s,i,h=>by
  cases s with
  | nil=>rw[lxW,z2c];simp
  | cons c r=>
   cases hs:spB c with
   | true=>
    have ih:=z8z n r (i+1) (by simp at h;omega);rw[lxW,k5w r i hs];rw[lxW]at ih;simp only[List.length_cons];omega
   | false=>
    cases ho:q5b (c::r)with
    | false=>rw[lxW,k8i i hs ho];simp
    | true=>
     have hp:=q4p c r;have hle:=z0o (c::r);have ih:=z8z n ((c::r).drop (q0r (c::r))) (i+q0r (c::r)) (by simp only[List.length_drop];omega);have hw:=y7w (c::r);rw[List.length_drop]at ih;rw[lxW,z6l i hs ho];simp only[List.map_cons,List.sum_cons];omega
theorem v0s(s:List UInt8):((q2p s).map List.length).sum<=s.length:=by
 have h:=z8z s.length s 0 Zl;rw[q2p,List.map_map];exact h
def szW(W:List Wd):Nat:=(W.map fun x=>x.length+1).sum
theorem k6o(a b:List Wd):szW (a++b)=szW a+szW b:=by simp[szW]
theorem q1v(x:Wd)(b:List Wd):szW (x::b)=x.length+1+szW b:=by simp[szW]
theorem k0b:∀W:List Wd,W.length<=szW W
 | []=>Nat.zero_le _
 | x::r=>by have:=k0b r;rw[q1v,List.length_cons];omega
theorem y2b:∀W:List Wd,(jb W).length<=szW W
 | []=>Nat.zero_le _
 | x::r=>by
  have:=y2b r
  rw[q1v];cases r with
  | nil=>simp[jb];omega
  | cons y r=>
   have e:jb (x::y::r)=x++32::jb (y::r):=by simp[jb]
   rw[e,List.length_append,List.length_cons];omega
theorem z3r:∀(l cur:Wd),szW (Lib.fieldsGo cur l)<=2*(cur.length+l.length)
 | [],cur=>by
  cases cur with
  | nil=>simp[Lib.fieldsGo,szW]
  | cons a z=>simp[Lib.fieldsGo,szW];omega
 | c::l,cur=>by
  cases hs:Lib.isSp c with
  | true=>
   have ih:=z3r l [];cases cur with
   | nil=>
    rw[Lib.fieldsGo_sp _ _ hs];simp only[List.length_nil,List.length_cons]at ih⊢;omega
   | cons a z=>
    rw[Lib.fieldsGo_end _ _ _ hs (by simp),q1v];simp only[List.length_nil,List.length_cons]at ih⊢;omega
  | false=>
   have ih:=z3r l (cur++[c]);rw[Lib.fieldsGo_more _ _ _ hs];simp only[List.length_append,List.length_cons,List.length_nil]at ih⊢;omega
theorem y6b(w:Wd):szW (q9i w)<=2*w.length:=by
 have:=z3r (w.drop 1) []
 rw[List.length_drop]at this;simp only[List.length_nil]at this;show szW (Lib.fieldsGo [] (w.drop 1))<=_;omega
theorem j4w:∀nts:List Wd,szW (nts.flatMap q9i)<=2*(nts.map List.length).sum
 | []=>Nat.zero_le _
 | x::r=>by
  have h1:=j4w r;have h2:=y6b x;rw[List.flatMap_cons,k6o,List.map_cons,List.sum_cons];omega
theorem v5x(ws:List Wd)(p k:Nat):(((ws.drop p).take k).map List.length).sum<=(ws.map List.length).sum:=by
 have e:ws=ws.take p++((ws.drop p).take k++(ws.drop p).drop k):=by rw[List.take_append_drop,List.take_append_drop]
 have h:=congrArg (fun l=>(l.map List.length).sum) e;simp only[List.map_append,List.sum_append]at h;omega
end Go.Proofs.YtfdppahhbpfnoaaGreatDoor
