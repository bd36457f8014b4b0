import Derived.Test.YthcpdohdppkmkaaGreatDoorPl26
import Derived.Lib.Atoi
import Derived.Lib.AtoiErrMem
open Go.Proofs.Tryz
namespace Go.Proofs.YthcpdohdppkmkaaGreatDoor
open Go Go.RowKit
set_option maxRecDepth 100000
set_option maxHeartbeats 8000000
structure y8b(K:LwK)(ws:List Wd)(pl:Nat->Nat)(b:Nat)(e:Wd)(op:Int)(tx:ByteArray)(p:Nat)(w:World)(n:Nat)(ns:List Td)(u:List Wd)(v:Value)(w':World):Prop where
 pr:PR (.args e 0 []) (ws.drop p) (.ok n ns u)
 o:q0w w v (⟨op,tx,(n:Int)⟩::ns) w'
 n:ns.length+u.length<=(ws.drop p).length
 rd:Ry K ws pl b (ws.length-u.length) w'
 bt:But w b w w'
inductive j1r (K:LwK) (ws:List Wd) (pl:Nat->Nat) (b:Nat) (e:Wd) (op:Int) (tx:ByteArray) (p:Nat) (w:World):Ending->World->Prop where
 | ok {n ns u A c w'} (h:y8b K ws pl b e op tx p w n ns u (.slice A (ns.length+1) c) w'):j1r K ws pl b e op tx p w (.returned (.slice A (ns.length+1) c)) w'
 | bad {u w'} (pr:PR (.args e 0 []) (ws.drop p) (.bad u)) (bt:But w b w w'):j1r K ws pl b e op tx p w (.panicked [q4v (pl (ws.length-u.length))]) w'
structure y8d(K:LwK)(ws:List Wd)(pl:Nat->Nat)(b:Nat)(e:Wd)(op:Int)(tx:ByteArray)(p:Nat)(w:World)(q n:Nat)(acc:List Td)(v:Value)(wr:World):Prop where
 n1:1<=n
 nq:n<=q
 lt:p<q
 nn:acc.length+(ws.length-q)<=ws.length-p
 o:q0w (w.heap.size+1) v acc wr
 rd:Ry K ws pl b q wr
 bt:But w b w wr
 bx:wr.heap[w.heap.size]?=some (.cells #[.int .i64 op,.string tx,.int .i64 (n:Int)] 71 (0,0))
 ok:∀r,PR (.args e n acc) (ws.drop q) r->PR (.args e 0 []) (ws.drop p) r
theorem Ry.far{K:LwK}{ws:List Wd}{pl:Nat->Nat}{b q:Nat}{w:World}(h:Ry K ws pl b q w){k i:Nat}{v:Value}(h1:k≠b)(h2:k≠K.gw)(h3:k≠K.ga):Ry K ws pl b q (w.setCell ⟨k,i,none⟩ v):=
 ⟨h.le,(cso (.inl h1)).trans h.c0,(cso (.inl h1)).trans h.c1,h.row.set,fun i hi=>(cso (.inl h2)).trans (h.wd i hi),fun i hi=>(cso (.inl h3)).trans (h.pt i hi),h.nw,h.na,h.lw,h.la,h.few⟩
theorem j2s{w:World}{k:Nat}{a c d d':Value}{T:TypeId}(h:w.heap[k]?=some (.cells #[a,c,d] T (0,0))):(w.setCell ⟨k,2,none⟩ d').heap[k]?=some (.cells #[a,c,d'] T (0,0)):=by
 simp[World.setCell,Array.getElem?_modify,h]
section
variable {K:LwK} {ws:List Wd} {pl:Nat→Nat} {b p q:Nat} {e:Wd} {op:Int} {tx:ByteArray} {w:World}
theorem k2t(he:e≠[])(U:e≠[44])(hS:∀q,p<=q->q<=ws.length->j1w K ws pl b q)(h:Ry K ws pl b p w):
  Calls prog 256 #[.pointer (some ⟨b,0,none⟩),.agg #[.int .i64 op,.string tx,.int .i64 0],.string (wbS e)] w fun r w'=>j1r K ws pl b e op tx p w r w':=by
 have HS:Hid (∀q,p<=q->q<=ws.length->j1w K ws pl b q):=hS;have Bj:b<w.heap.size:=h.row.lt;have A1:=h.le;have Bf:=h.few;have Bl:=h.gwlt;have Bk:=h.galt;have Z:Hid (Ry K ws pl b p (w.alloc (.cells #[.int .i64 op,.string tx,.int .i64 0] 71))):=h.keep (q4c w _);have HE:Hid (e≠[]):=he;have Ak:Hid (e≠[44]):=U;clear h hS he U;by_cases Q:ws[p]?=some e
 ·obtain⟨A4,A0⟩:=List.getElem?_eq_some_iff.1 Q
  have HD:Hid (ws.drop p=e::ws.drop (p+1)):=by
   show _=_;rw[List.drop_eq_getElem_cons A4,A0]
  have R:Hid (Calls prog 150 #[.pointer (some ⟨b,0,none⟩),.string (wbS e)] (w.alloc (.cells #[.int .i64 op,.string tx,.int .i64 0] 71)) fun r w'=>∃I,w'=I/\r=.returned (.bool true)/\Ry K ws pl b (p+1) I/\But w b w I/\I.heap[w.heap.size]?=some (.cells #[.int .i64 op,.string tx,.int .i64 0] 71 (0,0))):=by
   refine(q7i Z.o e Q).mono ?_;rintro r I⟨rfl,h1,b1⟩;have Bu:(w.alloc (.cells #[.int .i64 op,.string tx,.int .i64 0] 71)).heap.size=w.heap.size+1:=World.size_alloc ..;exact⟨I,rfl,rfl,h1,(But.of (q4c w _)).trans (b1.mono (by omega)),(b1.block _ (by omega) (by omega)).trans (heap_alloc_new w _)⟩
  generalize wbS e=S at R⊢;clear Q A0 Z;go_in;go_wp2_with fail;refine R.o.mono ?_;rintro r w'⟨I,rfl,rfl,h1,b1,t⟩;have d0:w'.cell? ⟨w,0,none⟩=some (.int .i64 op):=by rw[Lib.cell_of_heap t];rfl
  have d1:w'.cell? ⟨w,1,none⟩=some (.string tx):=by rw[Lib.cell_of_heap t];rfl
  have d2:w'.cell? ⟨w,2,none⟩=some (.int .i64 0):=by rw[Lib.cell_of_heap t];rfl
  have A7:=b1.size
  have HX:Hid (j1r K ws pl b e op tx p w (.returned (.slice (some ⟨w',0,none⟩) 1 1)) (w'.alloc (.cells #[.int .i64 op,.string tx,.int .i64 0] 71))):=by
   refine j1r.ok (n:=0) (ns:=[]) (u:=ws.drop (p+1)) ⟨by rw[HD.o];exact .aEnd,(q0w.one w' ⟨op,tx,0⟩).down A7,?_,?_,b1.alloc A7 _⟩
   ·rw[q0h,q0h];simp only[List.length_nil];omega
   ·rw[q0h,show ws.length-(ws.length-(p+1))=p+1 by omega];exact h1.keep (q4c w' _)
  clear h1 b1 t R;go_wp2;go_ret;exact HX.o
 ·have R:Hid (Calls prog 150 #[.pointer (some ⟨b,0,none⟩),.string (wbS e)] (w.alloc (.cells #[.int .i64 op,.string tx,.int .i64 0] 71)) fun r w'=>r=.returned (.bool false)/\w'=w.alloc (.cells #[.int .i64 op,.string tx,.int .i64 0] 71)):=q8f Z.o e HE.o Q
  have Am:Hid ((ws.drop p).head?≠some e):=by
   show _≠_;rw[q2n];exact Q
  have a:Hid (∃I,w.alloc (.cells #[.int .i64 op,.string tx,.int .i64 0] 71)=I/\Calls prog 153 #[.pointer (some ⟨b,0,none⟩)] I (fun r w'=>q4k K ws pl b (.level 0) p I r w')/\But w b w I/\I.heap.size=w.heap.size+1/\I.heap[w.heap.size]?=some (.cells #[.int .i64 op,.string tx,.int .i64 0] 71 (0,0))):=
   ⟨_,rfl,HS.o p Zl A1 _ Z.o,But.of (q4c w _),World.size_alloc ..,heap_alloc_new w _⟩
  clear Q Z;go_in;go_wp2_with fail;refine R.o.mono ?_;rintro r w'⟨rfl,rfl⟩;go_wp2_with fail;obtain⟨I,A9,Ab,z,A8,Aa⟩:=a.o;rw[A9];have Ai:Hid (But w b w I):=z;have Aj:=(show Hid (_=_)from Aa);clear z Aa a A9 R;refine Ab.mono ?_;clear Ab;intro r w2 hG;cases hG with
  | @bad u2 _ pr bt=>
   have HB:Hid (j1r K ws pl b e op tx p w (.panicked [q4v (pl (ws.length-u2.length))]) w2):=.bad (.aB0 Am.o pr) (Ai.o.trans (bt.mono (by omega)));clear pr bt;go_wp2;exact⟨rfl,HB.o⟩
  | @ok m2 ns2 u2 A2 c2 _ hg=>
   have M:=q5h hg.pr;have hu:ws.drop (ws.length-u2.length)=u2:=q7b M.1;have Ax:=hg.n;have U:=M.2 m2 ns2 u2 rfl;rw[q0h]at Ax U;simp only[Job.eats]at U;have Br:=hg.bt.size;have N:w2.heap[w.heap.size]?=some (.cells #[.int .i64 op,.string tx,.int .i64 0] 71 (0,0)):=(hg.bt.block _ (by omega) (by omega)).trans Aj.o;have d2:w2.cell? ⟨w,2,none⟩=some (.int .i64 0):=by rw[Lib.cell_of_heap N];rfl
   have f2:w2.frozen? ⟨w,2,none⟩=false:=Lib.frozen_of_heap N 2
   have Aq:Hid (y8d K ws pl b e op tx p w (ws.length-u2.length) 1 ns2 (.slice A2 ns2.length c2) (w2.setCell ⟨w,2,none⟩ (.int .i64 1))):=by
    have ho:q0w (w.heap.size+1) (.slice A2 ns2.length c2) ns2 w2:=by rw[<-A8];exact hg.o
    refine⟨Nat.le_refl _,by omega,by omega,by omega,ho.kept fun g h1 h2=>Below.heap_setCell _ _ _ _ (by show g≠w.heap.size;omega),hg.rd.far (by omega) (by omega) (by omega),(Ai.o.trans (hg.bt.mono (by omega))).setCell (p:=⟨w,2,none⟩) (.inr Zl) _,j2s N,fun r hr=>?_⟩;rw[hu]at hr;exact .aO0 Am.o hg.pr (by simpa using hr)
   clear hg hu Ax U M N;generalize Az:ns2.length=nl at Aq;have Bb:Hid (ns2.length=nl):=Az;clear Az;go_wp2_with fail
   go_loopw [7] (fun x wr=>∃(q n:Nat)(A:List Td)(A':Option Addr)(W c':Nat),x=.slice A' W c'/\A.length=W/\y8d K ws pl b e op tx p w q n A (.slice A' W c') wr) (fun _ wr=>j0j wr b)
   case atStart=>exact⟨_,1,ns2,A2,nl,c2,rfl,Bb.o,Aq.o⟩
   case round=>
    obtain⟨q,n,A,A3,H,c3,rfl,L,G⟩:=hrel;have J:=hid G;have X:Hid (A.length=H):=L;have Bh:=G.rd.le;have hn:=G.nn;have Bp:=G.nq;have Ag:=G.bt.size;have Bi:b<wr.heap.size:=G.rd.row.lt;have Bn:w.heap.size<wr.heap.size:=(Array.getElem?_eq_some_iff.1 G.bx).1;rw[L]at hn;by_cases Q:ws[q]?=some [44]
    ·obtain⟨f,d⟩:=List.getElem?_eq_some_iff.1 Q
     have m:Hid (ws.drop q=[44]::ws.drop (q+1)):=by
      show _=_;rw[List.drop_eq_getElem_cons f,d]
     have R:Hid (Calls prog 150 #[.pointer (some ⟨b,0,none⟩),.string ⟨#[44]⟩] wr fun r w'=>r=.returned (.bool true)/\Ry K ws pl b (q+1) w'/\But wr b wr w'):=q7i G.rd [44] Q;clear G L Q d;go_wp2_with fail;refine R.o.mono ?_;rintro r w4⟨rfl,h4,b4⟩;have j:Hid (But wr b wr w4):=b4;have Bs:=b4.size;have a:Hid (Calls prog 153 #[.pointer (some ⟨b,0,none⟩)] w4 (fun r w'=>q4k K ws pl b (.level 0) (q+1) w4 r w')):=HS.o (q+1) (by have:=J.o.lt;omega) (by omega) _ h4;clear h4 b4 R;go_wp2_with fail;refine a.o.mono ?_;intro r D hG;cases hG with
     | @bad u5 _ pr bt=>
      have HB:Hid (j1r K ws pl b e op tx p w (.panicked [q4v (pl (ws.length-u5.length))]) D):=by
       obtain⟨W,c⟩:∃W,n=W+1:=⟨n-1,by have:=J.o.n1;omega⟩;subst c;exact .bad (J.o.ok _ (by rw[m.o];exact .aB Ak.o pr)) ((J.o.bt.trans (j.o.mono Ag)).trans (bt.mono (by omega)))
      clear pr bt;go_wp2;exact⟨rfl,HB.o⟩
     | @ok m5 ns5 u5 A5 c5 _ hg=>
      have M:=q5h hg.pr;have hu:ws.drop (ws.length-u5.length)=u5:=q7b M.1;have Ay:=hg.n;have Ae:=M.2 m5 ns5 u5 rfl;rw[q0h]at Ay Ae;simp only[Job.eats]at Ae;have Be:=hg.bt.size;have An:Hid (q0w (w.heap.size+1) (.slice A3 H c3) A D):=(J.o.o.but2 j.o (by omega)).but2 hg.bt (by omega);have Bd:Hid (Tds D A5 ns5):=hg.o.tds;have Al:Hid (A5=none->ns5.length=0/\c5=0):=hg.o.none.2;have y:Hid (D.heap[w.heap.size]?=some (.cells #[.int .i64 op,.string tx,.int .i64 (n:Int)] 71 (0,0))):=(hg.bt.block _ (by omega) (by omega)).trans ((j.o.block _ (by omega) (by omega)).trans J.o.bx);have l:Hid (But w b w D):=(J.o.bt.trans (j.o.mono Ag)).trans (hg.bt.mono (by omega));have s:Hid (Ry K ws pl b (ws.length-u5.length) D):=hg.rd
      have Bc:Hid (∀r,PR (.args e (n+1) (A++ns5)) (ws.drop (ws.length-u5.length)) r->PR (.args e 0 []) (ws.drop p) r):=fun r hr=>by
       obtain⟨W,c⟩:∃W,n=W+1:=⟨n-1,by have:=J.o.n1;omega⟩;subst c;rw[hu]at hr;exact J.o.ok _ (by rw[m.o];exact .aO Ak.o hg.pr hr)
      have Bq:q<ws.length-u5.length:=by omega
      clear hg hu M Ae;generalize Ac:ns5.length=n5 at Ay Al;have Y:Hid (ns5.length=n5):=Ac;have Ad:H+n5<=1000000:=by omega
      clear Ac a;go_wp2_with(at_builtin;refine q4m rfl _ _ rfl (w.heap.size+1) _ A rfl An.o A5 n5 ns5 Y.o c5 rfl Bd.o Al.o (H+n5) (by rw[X.o]) Ad (by omega) ?_);intro A6 c6 w6 E C;have Bt:=C.size;have B:Below (w.heap.size+1) D w6:= Zb.grown C (by omega) (fun k hk=>(World.ownsRow.lt An.o k hk).1);have P:w6.heap[w.heap.size]?=some (.cells #[.int .i64 op,.string tx,.int .i64 (n:Int)] 71 (0,0)):=(B.block _ (by omega)).trans y.o;have d6:w6.cell? ⟨w,2,none⟩=some (.int .i64 (n:Int)):=by rw[Lib.cell_of_heap P];rfl
      have f6:w6.frozen? ⟨w,2,none⟩=false:=Lib.frozen_of_heap P 2
      have Ar:Hid (y8d K ws pl b e op tx p w (ws.length-u5.length) (n+1) (A++ns5) (.slice A6 (H+n5) c6) (w6.setCell ⟨w,2,none⟩ (.int .i64 ((n:Int)+1)))):=by
       have At:(A++ns5).length=H+n5:=by rw[List.length_append,X.o,Y.o]
       have h7:=J.o.lt;refine⟨by omega,by omega,by omega,by rw[At];omega,E.kept fun g h1 h2=>Below.heap_setCell _ _ _ _ (by show g≠w.heap.size;omega),(s.o.keepB B (by omega) (by omega) (by omega)).far (by omega) (by omega) (by omega),(l.o.trans (But.of (B.mono (by omega)))).setCell (p:=⟨w,2,none⟩) (.inr Zl) _,?_,Bc.o⟩;rw[show((n+1:Nat):Int)=(n:Int)+1 by omega];exact j2s P
      have Ah:Hid ((A++ns5).length=H+n5):=(show _=_ by rw[List.length_append,X.o,Y.o]);have Bg:(n:Int)+1<=60001:=by omega
      clear E C B P y;go_wp2;refine⟨⟨_,n+1,A++ns5,A6,H+n5,c6,rfl,Ah.o,Ar.o⟩,?_⟩;rw[Ar.o.rd.len_eq,J.o.rd.len_eq];omega
    ·have R:Hid (Calls prog 150 #[.pointer (some ⟨b,0,none⟩),.string ⟨#[44]⟩] wr fun r w'=>r=.returned (.bool false)/\w'=wr):=q8f G.rd [44] (by simp) Q;by_cases V:ws[q]?=some e
     ·obtain⟨f,d⟩:=List.getElem?_eq_some_iff.1 V
      have m:Hid (ws.drop q=e::ws.drop (q+1)):=by
       show _=_;rw[List.drop_eq_getElem_cons f,d]
      have HM:Hid (Calls prog 152 #[.pointer (some ⟨b,0,none⟩),.string (wbS e)] wr fun r w'=>r=.returned (.tuple #[])/\Ry K ws pl b (q+1) w'/\But wr b wr w'):=q6l G.rd e V;clear G L Q V d;go_wp2_with fail;refine R.o.mono ?_;rintro r w4⟨rfl,rfl⟩;go_wp2_with fail;refine HM.o.mono ?_;rintro r D⟨rfl,h5,b5⟩;have Be:=b5.size;have O:D.heap[w.heap.size]?=some (.cells #[.int .i64 op,.string tx,.int .i64 (n:Int)] 71 (0,0)):=(b5.block _ (by omega) (by omega)).trans J.o.bx;have d0:D.cell? ⟨w,0,none⟩=some (.int .i64 op):=by rw[Lib.cell_of_heap O];rfl
      have d1:D.cell? ⟨w,1,none⟩=some (.string tx):=by rw[Lib.cell_of_heap O];rfl
      have d2:D.cell? ⟨w,2,none⟩=some (.int .i64 (n:Int)):=by rw[Lib.cell_of_heap O];rfl
      have Af:q0w (w.heap.size+1) (.slice A3 H c3) A D:=J.o.o.but2 b5 (by omega);have As:Hid (q0w w (.slice (some ⟨D,0,none⟩) 1 1) [⟨op,tx,(n:Int)⟩] (D.alloc (.cells #[.int .i64 op,.string tx,.int .i64 (n:Int)] 71))):=(q0w.one D ⟨op,tx,(n:Int)⟩).down (by omega);have Ap:Hid (Tds (D.alloc (.cells #[.int .i64 op,.string tx,.int .i64 (n:Int)] 71)) A3 A):=Af.tds.alloc _;have Ba:Hid (A3=none->H=0/\c3=0):=Af.none.2;have Ao:Hid ((D.alloc (.cells #[.int .i64 op,.string tx,.int .i64 (n:Int)] 71)).heap.size=D.heap.size+1):=World.size_alloc ..;have s:Hid (Ry K ws pl b (q+1) (D.alloc (.cells #[.int .i64 op,.string tx,.int .i64 (n:Int)] 71))):=h5.keep (q4c D _);have l:Hid (But w b w (D.alloc (.cells #[.int .i64 op,.string tx,.int .i64 (n:Int)] 71))):=(J.o.bt.trans (b5.mono Ag)).alloc (by omega) _;have Ad:1+H<=1000000:=by omega
      have Au:b<D.heap.size:=h5.row.lt;have Aw:=h5.gwlt;have Av:=h5.galt;clear h5 b5 O Af R HM;go_wp2_with(at_builtin;refine q4m rfl _ _ rfl w.heap.size _ [⟨op,tx,(n:Int)⟩] rfl As.o A3 H A X.o c3 rfl Ap.o Ba.o (1+H) rfl Ad (by rw[Ao.o];omega) ?_);intro A6 c6 w6 E C
      have i:∀k',(Value.slice (some ⟨D,0,none⟩) 1 1).ownBlock=some k'->D.heap.size<=k':=fun k' hk=>by
       simp only[Value.ownBlock,Option.some.injEq]at hk;omega
      have B:Below D (D.alloc (.cells #[.int .i64 op,.string tx,.int .i64 (n:Int)] 71)) w6:= Zb.grown C (by rw[Ao.o];omega) i
      have HX:Hid (j1r K ws pl b e op tx p w (.returned (.slice A6 (H+1) c6)) w6):=by
       have L:=X.o;subst L;have G:=J.o;have v:(ws.drop (q+1)).length=ws.length-(q+1):=q0h;have Bm:=G.lt;have Bo:=G.nn;refine j1r.ok (n:=n) (ns:=A) (u:=ws.drop (q+1)) ⟨G.ok _ (by rw[m.o];exact .aEnd),?_,?_,?_,l.o.trans (But.of (B.mono (by omega)))⟩
       ·rw[show A.length+1=1+A.length by omega];exact E
       ·rw[v,q0h];omega
       ·rw[v,show ws.length-(ws.length-(q+1))=q+1 by omega];exact s.o.keepB B Au Aw Av
      clear E C B i s l As Ap;rw[show 1+H=H+1 by omega];go_wp2;go_ret;exact HX.o
     ·have HM:Hid (Calls prog 152 #[.pointer (some ⟨b,0,none⟩),.string (wbS e)] wr fun r w'=>r=.panicked [q4v (pl q)]/\w'=wr):=q7j G.rd e HE.o V
      have HX:Hid (j1r K ws pl b e op tx p w (.panicked [q4v (pl q)]) wr):=by
       have v:(ws.drop q).length=ws.length-q:=q0h;obtain⟨W,c⟩:∃W,n=W+1:=⟨n-1,by have:=G.n1;omega⟩;subst c;have h9:=j1r.bad (K:=K) (pl:=pl) (b:=b) (op:=op) (tx:=tx) (w:=w) (G.ok _ (.aSep (by rw[q2n];exact V) (by rw[q2n];exact Q))) G.bt;rw[v,show ws.length-(ws.length-q)=q by omega]at h9;exact h9
      clear G L Q V;go_wp2_with fail;refine R.o.mono ?_;rintro r w4⟨rfl,rfl⟩;go_wp2_with fail;refine HM.o.mono ?_;rintro r D⟨rfl,rfl⟩;go_wp2;exact⟨rfl,HX.o⟩
end
theorem k6c:∀(w:Wd)(a:Nat),(∀b∈w,q2a b=true)->Lib.decFrom a w=some (w.foldl (fun a c=>a*10+(c.toNat-48)) a)
 | [],a,_=>rfl
 | c::r,a,h=>by
  have hc:=h c (by simp);simp only[q2a,Bool.and_eq_true,decide_eq_true_eq]at hc;have e:Lib.digitVal c=some (c.toNat-48):=by rw[Lib.digitVal,if_pos hc]
  rw[Lib.decFrom,e];exact k6c r _ fun b hb=>h b (by simp[hb])
theorem v2c{w:Wd}(h:∀b∈w,q2a b=true)(h0:w≠[]):Lib.atoi w=some ((z8w w:Nat):Int):=by
 cases w with
 | nil=>exact absurd rfl h0
 | cons c r=>
  have A:=h c (by simp);simp only[q2a,Bool.and_eq_true,decide_eq_true_eq]at A
  have B:(c==45)=false:=by
   rw[beq_eq_false_iff_ne];rintro rfl;revert A;decide
  have C:(c==43)=false:=by
   rw[beq_eq_false_iff_ne];rintro rfl;revert A;decide
  have D:Lib.decNat (c::r)=some (z8w (c::r)):=by
   rw[Lib.decNat];exact k6c (c::r) 0 h
  simp only[Lib.atoi,B,C,D];rfl
theorem v2b(w:Wd)(h:∀b∈w,q2a b=true)(h0:w≠[])(hl:w.length<=6)(W:World):Calls prog 254 #[.string (wbS w)] W fun e w'=>e=.returned (.tuple #[.int .i64 ((z8w w:Nat):Int),.nilIface])/\Below W W w':=by
 refine(atoi_sh (wbS w) ((z8w w:Nat):Int) (by rw[<-q0b];show w.length<=18;omega) (v2c h h0) W).mono ?_;rintro e w'⟨rfl,t,rfl⟩;exact⟨rfl,Lib.bytesWorld_below _ _ _⟩
section
variable {K:LwK} {ws:List Wd} {pl:Nat→Nat} {b p:Nat} {w:World}
theorem q4k.lev2{e:Ending}{w':World}(h:q4k K ws pl b .single p w e w'):q4k K ws pl b (.level 2) p w e w':=by
 cases h with
 | ok h=>exact .ok ⟨.lev2 h.pr,h.o,h.n,h.rd,h.bt⟩
 | bad pr bt=>exact .bad (.lev2 pr) bt
theorem v1k{j:Job}{q:Nat}{w':World}(hq:q<=ws.length)(pr:PR j (ws.drop p) (.bad (ws.drop q)))(bt:But w b w w'):q4k K ws pl b j p w (.panicked [q4v (pl q)]) w':=by
 have A:=q4k.bad (K:=K) (pl:=pl) pr bt;rw[q0h,show ws.length-(ws.length-q)=q by omega]at A;exact A
theorem q4r(h:p<ws.length):ws.drop p=ws[p]::ws.drop (p+1):=List.drop_eq_getElem_cons h
theorem j1i(hS:∀q,p<q->q<=ws.length->j1w K ws pl b q)(hp:p<ws.length)(hn:nmW ws[p]=true)(h:Ry K ws pl b p w):
  Calls prog 255 #[.pointer (some ⟨b,0,none⟩)] w fun e w'=>q4k K ws pl b .single p w e w':=by
 have D:Hid (Calls prog 198 #[.pointer (some ⟨b,0,none⟩)] w fun e w'=>e=.returned (.string (wbS ws[p]))/\Ry K ws pl b (p+1) w'/\But w b w w'):=q8g h hp;have P:Hid (ws.drop p=ws[p]::ws.drop (p+1)):=q4r hp;have g:b<w.heap.size:=h.row.lt;clear h;by_cases G:ws[p+1]?=some [40]
 ·obtain⟨J,I⟩:=List.getElem?_eq_some_iff.1 G
  have H:Hid (ws.drop (p+1)=[40]::ws.drop (p+2)):=by
   show _=_;rw[q4r J,I]
  have Q:Hid (∀W,Ry K ws pl b (p+2) W->But w b w W->Calls prog 256 #[.pointer (some ⟨b,0,none⟩),.agg #[.int .i64 3,.string (wbS ws[p]),.int .i64 0],.string ⟨#[41]⟩] W fun r w'=>q4k K ws pl b .single p w r w'):=fun W hW hB=>by
   refine(k2t (e:=[41]) (op:=3) (tx:=wbS ws[p]) (by simp) (by decide) (fun q C N=>hS q (by omega) N) hW).mono ?_;intro r w' X;have Y:=hB.size;cases X with
   | bad pr bt=>exact .bad (by rw[P.o,H.o];exact .sCB hn pr) (hB.trans (bt.mono Y))
   | @ok n ns u A c _ hg=>
    have i:=hg.n;rw[q0h]at i;refine q4k.ok (m:=0) (ns:=clT ws[p] n::ns) (u:=u) ⟨by rw[P.o,H.o];exact .sCO hn hg.pr,hg.o.down Y,?_,hg.rd,hB.trans (hg.bt.mono Y)⟩;rw[q0h,List.length_cons];omega
  generalize wbS ws[p]=S at D Q;go_in;go_wp2_with fail;refine D.o.mono ?_;rintro e B⟨rfl,C,E⟩;have O:Hid (But w b w B):=E;have Z:=E.size;have M:Hid (Calls prog 150 #[.pointer (some ⟨b,0,none⟩),.string ⟨#[40]⟩] B fun e w'=>e=.returned (.bool true)/\Ry K ws pl b (p+2) w'/\But B b B w'):=q7i C [40] G;clear C E D G I;go_wp2_with fail;refine M.o.mono ?_;rintro e a⟨rfl,N,d⟩;have R:Hid (Calls prog 256 #[.pointer (some ⟨b,0,none⟩),.agg #[.int .i64 3,.string S,.int .i64 0],.string ⟨#[41]⟩] a fun r w'=>q4k K ws pl b .single p w r w'):=Q.o a N (O.o.trans (d.mono Z));clear N d M Q;go_wp2_with fail;refine R.o.mono ?_;intro r f X;cases X with
  | @bad u _ pr bt=>
   have L:Hid (q4k K ws pl b .single p w (.panicked [q4v (pl (ws.length-u.length))]) f):=.bad pr bt;clear pr bt;go_wp2;exact⟨rfl,L.o⟩
  | @ok m ns u A c _ hg=>
   have L:Hid (q4k K ws pl b .single p w (.returned (.slice A ns.length c)) f):=.ok hg;clear hg;generalize ns.length=nl at L⊢;go_wp2;go_ret;exact L.o
 ·have U:Hid (∀W,Ry K ws pl b (p+1) W->But w b w W->q4k K ws pl b .single p w (.returned (.slice (some ⟨W,0,none⟩) 1 1)) (W.alloc (.cells #[.int .i64 2,.string (wbS ws[p]),.int .i64 0] 71))):=fun W hW hB=>by
   refine q4k.ok (m:=0) (ns:=[nmT ws[p]]) (u:=ws.drop (p+1)) ⟨by rw[P.o];exact .sName hn (by rw[q2n];exact G),(q0w.one W (nmT ws[p])).down hB.size,?_,?_,hB.alloc hB.size _⟩
   ·rw[q0h,q0h];simp only[List.length_cons,List.length_nil];omega
   ·rw[q0h,show ws.length-(ws.length-(p+1))=p+1 by omega];exact hW.keep (q4c W _)
  generalize wbS ws[p]=S at D U;go_in;go_wp2_with fail;refine D.o.mono ?_;rintro e B⟨rfl,C,E⟩;have V:=hid (U.o B C E);have M:Hid (Calls prog 150 #[.pointer (some ⟨b,0,none⟩),.string ⟨#[40]⟩] B fun e w'=>e=.returned (.bool false)/\w'=B):=q8f C [40] (by simp) G;clear C E D G U;go_wp2_with fail;refine M.o.mono ?_;rintro e a⟨rfl,rfl⟩;go_wp2;go_ret;exact V.o
end
section
variable {K:LwK} {ws:List Wd} {pl:Nat→Nat} {b p:Nat} {w:World}
theorem v7h{X:Wd}(h:Ry K ws pl b p w)(hX:ws.getD p []=X)(ht:X=[]\/q3a X):
  (Calls prog 93 #[.pointer (some ⟨b,0,none⟩)] w fun e w'=>e=.returned (.string (wbS X))/\w=w')/\(Calls prog 253 #[.string (wbS X)] w fun e w'=>e=.returned (.bool (z0g X))/\w=w')/\(Calls prog 199 #[.string (wbS X)] w fun e w'=>e=.returned (.bool (nmW X))/\w=w'):=by
 subst hX;exact⟨(q6m h).mono fun _ _ h=>⟨h.1,h.2.symm⟩,(j1h _ w).mono fun _ _ h=>⟨h.1,h.2.symm⟩,(k5q _ ht w).mono fun _ _ h=>⟨h.1,h.2.symm⟩⟩
theorem z7i(ht:∀x∈ws,q3a x)(hS:∀q,p<q->q<=ws.length->j1w K ws pl b q):y3s K ws pl b p:=by
 intro w h;have t:=h.le;have Ao:b<w.heap.size:=h.row.lt;show Calls prog 235 #[.pointer (some ⟨b,0,none⟩)] w fun e C=>q4k K ws pl b (.level 2) p w e C
 by_cases j:p<ws.length
 ·have L:=ht _ (List.getElem_mem j);have i:=q3x j;obtain⟨d,O,P⟩:=v7h h i (.inr L);have v:Hid (ws.drop p=ws[p]::ws.drop (p+1)):=q4r j;by_cases E:z0g ws[p]=true
  ·rw[E]at O;have B:=(show Hid (Calls _ _ _ _ _)from d);have D:=(show Hid (Calls _ _ _ _ _)from O);obtain⟨l,h6⟩:=y3f L E;have HN:Hid (Calls prog 198 #[.pointer (some ⟨b,0,none⟩)] w fun e C=>e=.returned (.string (wbS ws[p]))/\Ry K ws pl b (p+1) C/\But w b w C):=q8g h j;have HA:Hid (∀W,Calls prog 254 #[.string (wbS ws[p])] W fun e C=>e=.returned (.tuple #[.int .i64 ((z8w ws[p]:Nat):Int),.nilIface])/\Below W W C):=fun W=>v2b ws[p] l (v9j L) h6 W
   have HX:Hid (∀W,Ry K ws pl b (p+1) W->But w b w W->q4k K ws pl b (.level 2) p w (.returned (.slice (some ⟨W,0,none⟩) 1 1)) (W.alloc (.cells #[.int .i64 1,.string ⟨#[]⟩,.int .i64 ((z8w ws[p]:Nat):Int)] 71))):=fun W hW hB=>by
    refine q4k.ok (m:=0) (ns:=[y5h ws[p]]) (u:=ws.drop (p+1)) ⟨by rw[v.o];exact .lev2 (.sNum E),(q0w.one W (y5h ws[p])).down hB.size,?_,?_,hB.alloc hB.size _⟩
    ·rw[q0h,q0h];simp only[List.length_cons,List.length_nil];omega
    ·rw[q0h,show ws.length-(ws.length-(p+1))=p+1 by omega];exact hW.keep (q4c W _)
   generalize wbS ws[p]=S at B D HN HA
   generalize((z8w ws[p]:Nat):Int)=V at HA HX
   clear d O P h hS ht L i E l h6;go_in;go_wp2_with fail;refine B.o.mono ?_;rintro e f⟨rfl,rfl⟩;go_wp2_with fail;refine D.o.mono ?_;rintro e M⟨rfl,rfl⟩;go_wp2_with fail;refine HN.o.mono ?_;rintro e U⟨rfl,h3,z⟩;have K3:=hid (And.intro h3 z);have a:=z.size;clear h3 z;go_wp2_with fail;refine(HA.o _).mono ?_;rintro e w4⟨rfl,b4⟩;have Am:=hid (HX.o w4 (K3.o.1.keep b4) (K3.o.2.trans (But.of (b4.mono a))));clear b4;go_wp2;go_ret;exact Am.o
  ·have G:z0g ws[p]=false:=by simpa using E
   rw[G]at O;have B:=(show Hid (Calls _ _ _ _ _)from d);have D:=(show Hid (Calls _ _ _ _ _)from O);by_cases N:nmW ws[p]=true
   ·rw[N]at P;have H:=(show Hid (Calls _ _ _ _ _)from P);have HN:Hid (Calls prog 255 #[.pointer (some ⟨b,0,none⟩)] w fun e C=>q4k K ws pl b (.level 2) p w e C):=(j1i hS j N h).mono fun _ _ g=>g.lev2
    generalize wbS ws[p]=S at B D H;clear d O P h hS ht L i E G N;go_in;go_wp2_with fail;refine B.o.mono ?_;rintro e f⟨rfl,rfl⟩;go_wp2_with fail;refine D.o.mono ?_;rintro e M⟨rfl,rfl⟩;go_wp2_with fail;refine B.o.mono ?_;rintro e f⟨rfl,rfl⟩;go_wp2_with fail;refine H.o.mono ?_;rintro e M⟨rfl,rfl⟩;go_wp2_with fail;refine HN.o.mono ?_;intro r U g;cases g with
    | @bad u _ pr bt=>
     have X:Hid (q4k K ws pl b (.level 2) p w (.panicked [q4v (pl (ws.length-u.length))]) U):=.bad pr bt;clear pr bt;go_wp2;exact⟨rfl,X.o⟩
    | @ok m ns u A c _ hg=>
     have X:Hid (q4k K ws pl b (.level 2) p w (.returned (.slice A ns.length c)) U):=.ok hg;clear hg;generalize ns.length=nl at X⊢;go_wp2;go_ret;exact X.o
   ·have J:nmW ws[p]=false:=by simpa using N
    rw[J]at P;have H:=(show Hid (Calls _ _ _ _ _)from P);by_cases I:ws[p]=[91]
    ·have hm:ws[p]?=some [91]:=by rw[List.getElem?_eq_getElem j,I]
     have k:Hid (Calls prog 150 #[.pointer (some ⟨b,0,none⟩),.string ⟨#[91]⟩] w fun e C=>e=.returned (.bool true)/\Ry K ws pl b (p+1) C/\But w b w C):=q7i h [91] hm
     have HK:Hid (∀W,Ry K ws pl b (p+1) W->But w b w W->Calls prog 256 #[.pointer (some ⟨b,0,none⟩),.agg #[.int .i64 4,.string ⟨#[]⟩,.int .i64 0],.string ⟨#[93]⟩] W fun r C=>q4k K ws pl b (.level 2) p w r C):=fun W hW hB=>by
      refine(k2t (e:=[93]) (op:=4) (tx:=⟨#[]⟩) (by simp) (by decide) (fun q h1 h2=>hS q (by omega) h2) hW).mono ?_;intro r C g;have hs:=hB.size;cases g with
      | bad pr bt=>exact .bad (by rw[v.o,I];exact .lev2 (.sLB pr)) (hB.trans (bt.mono hs))
      | @ok n ns u A c _ hg=>
       have hl:=hg.n;rw[q0h]at hl;refine q4k.ok (m:=0) (ns:=lsT n::ns) (u:=u) ⟨by rw[v.o,I];exact .lev2 (.sLO hg.pr),hg.o.down hs,?_,hg.rd,hB.trans (hg.bt.mono hs)⟩;rw[q0h,List.length_cons];omega
     generalize wbS ws[p]=S at B D H;clear d O P h hS ht L i E G N J hm I;go_in;go_wp2_with fail;refine B.o.mono ?_;rintro e f⟨rfl,rfl⟩;go_wp2_with fail;refine D.o.mono ?_;rintro e M⟨rfl,rfl⟩;go_wp2_with fail;refine B.o.mono ?_;rintro e f⟨rfl,rfl⟩;go_wp2_with fail;refine H.o.mono ?_;rintro e M⟨rfl,rfl⟩;go_wp2_with fail;refine k.o.mono ?_;rintro e M⟨rfl,h2,b2⟩;have Ak:Hid (Calls prog 256 #[.pointer (some ⟨b,0,none⟩),.agg #[.int .i64 4,.string ⟨#[]⟩,.int .i64 0],.string ⟨#[93]⟩] M fun r C=>q4k K ws pl b (.level 2) p w r C):=HK.o M h2 b2;clear h2 b2 k HK;go_wp2_with fail;refine Ak.o.mono ?_;intro r U g;cases g with
     | @bad u _ pr bt=>
      have X:Hid (q4k K ws pl b (.level 2) p w (.panicked [q4v (pl (ws.length-u.length))]) U):=.bad pr bt;clear pr bt;go_wp2;exact⟨rfl,X.o⟩
     | @ok m ns u A c _ hg=>
      have X:Hid (q4k K ws pl b (.level 2) p w (.returned (.slice A ns.length c)) U):=.ok hg;clear hg;generalize ns.length=nl at X⊢;go_wp2;go_ret;exact X.o
    ·have hm:ws[p]?≠some [91]:=by rw[List.getElem?_eq_getElem j];simpa using I
     have k:Hid (Calls prog 150 #[.pointer (some ⟨b,0,none⟩),.string ⟨#[91]⟩] w fun e C=>e=.returned (.bool false)/\w=C):=(q8f h [91] (by simp) hm).mono fun _ _ h=>⟨h.1,h.2.symm⟩
     by_cases Q:ws[p]=[40]
     ·have Z:ws[p]?=some [40]:=by rw[List.getElem?_eq_getElem j,Q]
      have HM:Hid (Calls prog 152 #[.pointer (some ⟨b,0,none⟩),.string ⟨#[40]⟩] w fun e C=>e=.returned (.tuple #[])/\Ry K ws pl b (p+1) C/\But w b w C):=q6l h [40] Z
      have y:Hid (ws.drop p=[40]::ws.drop (p+1)):=by
       show _=_;rw[v.o,Q]
      have HS:Hid (j1w K ws pl b (p+1)):=hS (p+1) (by omega) (by omega);generalize wbS ws[p]=S at B D H;clear d O P h hS ht L i E G N J hm I Q Z v;go_in;go_wp2_with fail;refine B.o.mono ?_;rintro e f⟨rfl,rfl⟩;go_wp2_with fail;refine D.o.mono ?_;rintro e M⟨rfl,rfl⟩;go_wp2_with fail;refine B.o.mono ?_;rintro e f⟨rfl,rfl⟩;go_wp2_with fail;refine H.o.mono ?_;rintro e M⟨rfl,rfl⟩;go_wp2_with fail;refine k.o.mono ?_;rintro e M⟨rfl,rfl⟩;go_wp2_with fail;refine HM.o.mono ?_;rintro e U⟨rfl,h3,z⟩;have Ad:Hid (But w b w U):=z;have a:=z.size;have Al:Hid (Calls prog 153 #[.pointer (some ⟨b,0,none⟩)] U fun e C=>q4k K ws pl b (.level 0) (p+1) U e C):=HS.o U h3;clear h3 z HM k;go_wp2_with fail;refine Al.o.mono ?_;intro r w4 g;cases g with
      | @bad u _ pr bt=>
       have X:Hid (q4k K ws pl b (.level 2) p w (.panicked [q4v (pl (ws.length-u.length))]) w4):=.bad (by rw[y.o];exact .lev2 (.sPB pr)) (Ad.o.trans (bt.mono a));clear pr bt;go_wp2;exact⟨rfl,X.o⟩
      | @ok m ns u A c _ hg=>
       have Ab:=q5h hg.pr;have hu:ws.drop (ws.length-u.length)=u:=q7b Ab.1;have hl:=hg.n;rw[q0h]at hl;have Ap:=hg.bt.size;have Ae:But w b w w4:=Ad.o.trans (hg.bt.mono a);by_cases R:ws[ws.length-u.length]?=some [41]
       ·obtain⟨Ag,Af⟩:=List.getElem?_eq_some_iff.1 R
        have Ac:u=[41]::ws.drop (ws.length-u.length+1):=by
         have h9:=q4r Ag;rw[hu,Af]at h9;exact h9
        have Y:Hid (Calls prog 152 #[.pointer (some ⟨b,0,none⟩),.string ⟨#[41]⟩] w4 fun e C=>e=.returned (.tuple #[])/\q4k K ws pl b (.level 2) p w (.returned (.slice A ns.length c)) C):=by
         refine(q6l hg.rd [41] R).mono ?_;rintro e w5⟨rfl,h5,b5⟩
         have Aq:u.length=(ws.drop (ws.length-u.length+1)).length+1:=by
          have h9:=congrArg List.length Ac;rw[List.length_cons]at h9;exact h9
         have Aj:=hg.pr;rw[Ac]at Aj;refine⟨rfl,q4k.ok (m:=0) (ns:=ns) (u:=ws.drop (ws.length-u.length+1)) ⟨by rw[y.o];exact .lev2 (.sPC Aj),(hg.o.but2 b5 (by omega)).down a,?_,?_,Ae.trans (b5.mono (by omega))⟩⟩
         ·rw[q0h (p:=p)];omega
         ·rw[show ws.length-(ws.drop (ws.length-u.length+1)).length=ws.length-u.length+1 by omega];exact h5
        clear hg hu Ac R Af Ab hl;generalize ns.length=nl at Y⊢;go_wp2_with fail;refine Y.o.mono ?_;rintro e w5⟨rfl,h5⟩;have K5:=(show Hid (q4k _ _ _ _ _ _ _ _ _)from h5);clear h5;go_wp2;go_ret;exact K5.o
       ·have Y:Hid (Calls prog 152 #[.pointer (some ⟨b,0,none⟩),.string ⟨#[41]⟩] w4 fun e C=>e=.panicked [q4v (pl (ws.length-u.length))]/\q4k K ws pl b (.level 2) p w (.panicked [q4v (pl (ws.length-u.length))]) C):=by
         refine(q7j hg.rd [41] (by simp) R).mono ?_;rintro e w5⟨rfl,rfl⟩;refine⟨rfl,.bad ?_ Ae⟩;rw[y.o];refine .lev2 (.sPX hg.pr ?_);rw[<-hu,q2n];exact R
        clear hg hu R Ab hl;generalize ns.length=nl;generalize pl (ws.length-u.length)=pp at Y;go_wp2_with fail;refine Y.o.mono ?_;rintro e w5⟨rfl,h5⟩;have K5:=(show Hid (q4k _ _ _ _ _ _ _ _ _)from h5);clear h5;go_wp2;exact⟨rfl,K5.o⟩
     ·have Z:ws[p]?≠some [40]:=by rw[List.getElem?_eq_getElem j];simpa using Q
      have HM:Hid (Calls prog 152 #[.pointer (some ⟨b,0,none⟩),.string ⟨#[40]⟩] w fun e C=>e=.panicked [q4v (pl p)]/\w=C):=(q7j h [40] (by simp) Z).mono fun _ _ h=>⟨h.1,h.2.symm⟩
      have HX:Hid (q4k K ws pl b (.level 2) p w (.panicked [q4v (pl p)]) w):=v1k t (by rw[v.o];exact .lev2 (.sBad Q I G J)) (But.refl _ _ _);generalize wbS ws[p]=S at B D H;clear d O P h hS ht L i E G N J hm I Q Z v;go_in;go_wp2_with fail;refine B.o.mono ?_;rintro e f⟨rfl,rfl⟩;go_wp2_with fail;refine D.o.mono ?_;rintro e M⟨rfl,rfl⟩;go_wp2_with fail;refine B.o.mono ?_;rintro e f⟨rfl,rfl⟩;go_wp2_with fail;refine H.o.mono ?_;rintro e M⟨rfl,rfl⟩;go_wp2_with fail;refine k.o.mono ?_;rintro e M⟨rfl,rfl⟩;go_wp2_with fail;refine HM.o.mono ?_;rintro e U⟨rfl,rfl⟩;go_wp2;exact⟨rfl,HX.o⟩
 ·have An:p=ws.length:=by omega
  have i:=q6t (ws:=ws) (q:=p) (by omega);obtain⟨d,O,P⟩:=v7h h i (.inl rfl);have Ah:z0g []=false:=rfl;have Ai:nmW []=false:=by decide
  rw[Ah]at O;rw[Ai]at P;have B:=(show Hid (Calls _ _ _ _ _)from d);have D:=(show Hid (Calls _ _ _ _ _)from O);have H:=(show Hid (Calls _ _ _ _ _)from P);have Aa:∀s,ws[p]?≠some s:=fun s=>by rw[List.getElem?_eq_none (by omega)];simp
  have k:Hid (Calls prog 150 #[.pointer (some ⟨b,0,none⟩),.string ⟨#[91]⟩] w fun e C=>e=.returned (.bool false)/\w=C):=(q8f h [91] (by simp) (Aa _)).mono fun _ _ h=>⟨h.1,h.2.symm⟩
  have HM:Hid (Calls prog 152 #[.pointer (some ⟨b,0,none⟩),.string ⟨#[40]⟩] w fun e C=>e=.panicked [q4v (pl p)]/\w=C):=(q7j h [40] (by simp) (Aa _)).mono fun _ _ h=>⟨h.1,h.2.symm⟩
  have HX:Hid (q4k K ws pl b (.level 2) p w (.panicked [q4v (pl p)]) w):=by
   refine v1k t ?_ (But.refl _ _ _);rw[List.drop_eq_nil_of_le (by omega)];exact .lev2 .sinN
  generalize wbS []=S at B D H;clear d O P h hS ht i Ah Ai Aa An;go_in;go_wp2_with fail;refine B.o.mono ?_;rintro e f⟨rfl,rfl⟩;go_wp2_with fail;refine D.o.mono ?_;rintro e M⟨rfl,rfl⟩;go_wp2_with fail;refine B.o.mono ?_;rintro e f⟨rfl,rfl⟩;go_wp2_with fail;refine H.o.mono ?_;rintro e M⟨rfl,rfl⟩;go_wp2_with fail;refine k.o.mono ?_;rintro e M⟨rfl,rfl⟩;go_wp2_with fail;refine HM.o.mono ?_;rintro e U⟨rfl,rfl⟩;go_wp2;exact⟨rfl,HX.o⟩
theorem v1m(ht:∀x∈ws,q3a x):∀n p,p<=ws.length->ws.length-p<=n->y3s K ws pl b p/\y3u K ws pl b p/\j1w K ws pl b p:=by
 intro n
 induction n with
 | zero=>
  intro p H G;have B:y3s K ws pl b p:=z7i ht fun q A h2=>by omega
  have A:y3u K ws pl b p:=k2u fun q A h2=>by
   obtain rfl:q=p:=by omega
   exact B
  exact⟨B,A,v1p fun q E h4=>by
   obtain rfl:q=p:=by omega
   exact A⟩
 | succ n ih=>
  intro p H G;have B:y3s K ws pl b p:=z7i ht fun q A h2=>(ih q h2 (by omega)).2.2
  have D:∀q,p<=q->q<=ws.length->y3s K ws pl b q:=fun q A h2=>by
   rcases Nat.eq_or_lt_of_le A with rfl|E
   ·exact B
   ·exact(ih q h2 (by omega)).1
  have A:y3u K ws pl b p:=k2u D
  have C:∀q,p<=q->q<=ws.length->y3u K ws pl b q:=fun q h1q h2=>by
   rcases Nat.eq_or_lt_of_le h1q with rfl|E
   ·exact A
   ·exact(ih q h2 (by omega)).2.1
  exact⟨B,A,v1p C⟩
theorem k8l(ht:∀x∈ws,q3a x)(hp:p<=ws.length):j1w K ws pl b p:=(v1m ht _ p hp Zl).2.2
end
end Go.Proofs.YthcpdohdppkmkaaGreatDoor
