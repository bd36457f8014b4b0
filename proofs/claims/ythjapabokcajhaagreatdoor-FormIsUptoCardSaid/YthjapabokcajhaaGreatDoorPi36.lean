/- Texts as one: SyU, SyV, SyX. -/
import Derived.Test.YthjapabokcajhaaGreatDoorPi35
import Derived.Lib.Atoi
import Derived.Lib.AtoiErrMem
open Go.Proofs.Tryz
namespace Go.Proofs.YthjapabokcajhaaGreatDoor
open Go Go.RowKit
set_option maxRecDepth 100000
set_option maxHeartbeats 8000000
structure y7f(K:LwK)(ws:List Wd)(pl:Nat->Nat)(b:Nat)(e:Wd)(op:Int)(tx:ByteArray)(p:Nat)(w:World)(n:Nat)(ns:List Td)(u:List Wd)(v:Value)(w':World):Prop where
 pr:PR (.args e 0 []) (ws.drop p) (.ok n ns u)
 o:q0x w v (⟨op,tx,(n:Int)⟩::ns) w'
 n:ns.length+u.length<=(ws.drop p).length
 rd:Ry K ws pl b (ws.length-u.length) w'
 bt:But w b w w'
inductive j1d (K:LwK) (ws:List Wd) (pl:Nat->Nat) (b:Nat) (e:Wd) (op:Int) (tx:ByteArray) (p:Nat) (w:World):Ending->World->Prop where
 | ok {n ns u A c w'} (h:y7f K ws pl b e op tx p w n ns u (.slice A (ns.length+1) c) w'):j1d K ws pl b e op tx p w (.returned (.slice A (ns.length+1) c)) w'
 | bad {u w'} (pr:PR (.args e 0 []) (ws.drop p) (.bad u)) (bt:But w b w w'):j1d K ws pl b e op tx p w (.panicked [q5h (pl (ws.length-u.length))]) w'
structure y7g(K:LwK)(ws:List Wd)(pl:Nat->Nat)(b:Nat)(e:Wd)(op:Int)(tx:ByteArray)(p:Nat)(w:World)(q n:Nat)(acc:List Td)(v:Value)(wr:World):Prop where
 n1:1<=n
 nq:n<=q
 lt:p<q
 nn:acc.length+(ws.length-q)<=ws.length-p
 o:q0x (w.heap.size+1) v acc wr
 rd:Ry K ws pl b q wr
 bt:But w b w wr
 bx:wr.heap[w.heap.size]?=some (.cells #[.int .i64 op,.string tx,.int .i64 (n:Int)] 47 (0,0))
 ok:∀r,PR (.args e n acc) (ws.drop q) r->PR (.args e 0 []) (ws.drop p) r
theorem Ry.far{K:LwK}{ws:List Wd}{pl:Nat->Nat}{b q:Nat}{w:World}(h:Ry K ws pl b q w){k i:Nat}{v:Value}(h1:k≠b)(h2:k≠K.gw)(h3:k≠K.ga):Ry K ws pl b q (w.setCell ⟨k,i,none⟩ v):=
 ⟨h.le,(cso (.inl h1)).trans h.c0,(cso (.inl h1)).trans h.c1,h.row.set,fun i hi=>(cso (.inl h2)).trans (h.wd i hi),fun i hi=>(cso (.inl h3)).trans (h.pt i hi),h.nw,h.na,h.lw,h.la,h.few⟩
theorem j2g{w:World}{k:Nat}{a c d d':Value}{T:TypeId}(h:w.heap[k]?=some (.cells #[a,c,d] T (0,0))):(w.setCell (k,2) d').heap[k]?=some (.cells #[a,c,d'] T (0,0)):=by
 simp[World.setCell,Array.getElem?_modify,h]
section
variable {K:LwK} {ws:List Wd} {pl:Nat→Nat} {b p q:Nat} {e:Wd} {op:Int} {tx:ByteArray} {w:World}
theorem k2r(he:e≠[])(he2:e≠[44])(hS:∀q,p<=q->q<=ws.length->v0u K ws pl b q)(h:Ry K ws pl b p w):
  Calls prog 230 #[.pointer b,.agg #[op,.string tx,.int .i64 0],.string (wbS e)] w fun r w'=>j1d K ws pl b e op tx p w r w':=by
 have HS:=hid hS;have hbw:=h.row.lt;have hple:=h.le;have hfew:=h.few;have hgw:=h.gwlt;have hga:=h.galt;have HR0:Hid (Ry K ws pl b p (w.alloc (.cells #[op,.string tx,.int .i64 0] 47))):=h.keep (q3p w _);have HE:=hid he;have HE2:=hid he2;clear h hS he he2;by_cases hm:ws[p]?=some e
 ·obtain⟨hplt,hpe⟩:=List.getElem?_eq_some_iff.1 hm
  have HD:Hid (ws.drop p=e::ws.drop (p+1)):=by
   show _=_;rw[List.drop_eq_getElem_cons hplt,hpe]
  have HH:Hid (Calls prog 127 #[.pointer b,.string (wbS e)] (w.alloc (.cells #[op,.string tx,.int .i64 0] 47)) fun r w'=>∃w1,w'=w1/\r=.returned (.bool true)/\Ry K ws pl b (p+1) w1/\But w b w w1/\w1.heap[w.heap.size]?=some (.cells #[op,.string tx,.int .i64 0] 47 (0,0))):=by
   refine(q5m HR0.o e hm).mono ?_;rintro r w1⟨rfl,h1,b1⟩;have hsz:(w.alloc (.cells #[op,.string tx,.int .i64 0] 47)).heap.size=w.heap.size+1:=World.size_alloc ..;exact⟨w1,rfl,rfl,h1,(But.of (q3p w _)).trans (b1.mono (by omega)),(b1.block _ (by omega) (by omega)).trans (heap_alloc_new w _)⟩
  generalize wbS e=S at HH⊢;clear hm hpe HR0;go_in;go_wp2_with fail;refine HH.o.mono ?_;rintro r w'⟨w1,rfl,rfl,h1,b1,hbx⟩;have d0:w'.cell? w.heap.size=some ↑op:=by rw[Lib.cell_of_heap hbx];rfl
  have d1:w'.cell? (w.heap.size,1)=some (.string tx):=by rw[Lib.cell_of_heap hbx];rfl
  have d2:w'.cell? (w.heap.size,2)=some (.int .i64 0):=by rw[Lib.cell_of_heap hbx];rfl
  have hs1:=b1.size
  have HX:Hid (j1d K ws pl b e op tx p w (.returned (.slice w'.heap.size 1 1)) (w'.alloc (.cells #[op,.string tx,.int .i64 0] 47))):=by
   refine j1d.ok (n:=0) (ns:=[]) (u:=ws.drop (p+1)) ⟨by rw[HD.o];exact .aEnd,(q0x.one w' ⟨op,tx,0⟩).down hs1,?_,?_,b1.alloc hs1 _⟩
   ·rw[q0h,q0h];simp only[List.length_nil];omega
   ·rw[q0h,show ws.length-(ws.length-(p+1))=p+1 by omega];exact h1.keep (q3p w' _)
  clear h1 b1 hbx HH;go_wp2;go_ret;exact HX.o
 ·have HH:=hid (q7i HR0.o e HE.o hm)
  have HNE:Hid ((ws.drop p).head?≠some e):=by
   show _≠_;rw[q1w];exact hm
  have HSC:Hid (∃w1,w.alloc (.cells #[op,.string tx,.int .i64 0] 47)=w1/\Calls prog 130 #[.pointer b] w1 (fun r w'=>q4q K ws pl b (.level 0) p w1 r w')/\But w b w w1/\w1.heap.size=w.heap.size+1/\w1.heap[w.heap.size]?=some (.cells #[op,.string tx,.int .i64 0] 47 (0,0))):=
   ⟨_,rfl,HS.o p Zl hple _ HR0.o,But.of (q3p w _),World.size_alloc ..,heap_alloc_new w _⟩
  clear hm HR0;go_in;go_wp2_with fail;refine HH.o.mono ?_;rintro r w'⟨rfl,rfl⟩;go_wp2_with fail;obtain⟨w1,hw1,hcal,hbt1,hsz1,hbx1⟩:=HSC.o;rw[hw1];have HB1:=hid hbt1;have HBX1:=(show Hid (_=_)from hbx1);clear hbt1 hbx1 HSC hw1 HH;refine hcal.mono ?_;clear hcal;intro r w2 hG;cases hG with
  | @bad u2 _ pr bt=>
   have HB:Hid (j1d K ws pl b e op tx p w (.panicked [q5h (pl (ws.length-u2.length))]) w2):=.bad (.aB0 HNE.o pr) (HB1.o.trans (bt.mono (by omega)));clear pr bt;go_wp2;exact⟨rfl,HB.o⟩
  | @ok m2 ns2 u2 A2 c2 _ hg=>
   have hsf:=q5e hg.pr;have hu:ws.drop (ws.length-u2.length)=u2:=q6z hsf.1;have hn2:=hg.n;have he2:=hsf.2 m2 ns2 u2 rfl;rw[q0h]at hn2 he2;simp only[Job.eats]at he2;have hs2:=hg.bt.size;have hbx2:w2.heap[w.heap.size]?=some (.cells #[op,.string tx,.int .i64 0] 47 (0,0)):=(hg.bt.block _ (by omega) (by omega)).trans HBX1.o;have d2:w2.cell? (w.heap.size,2)=some (.int .i64 0):=by rw[Lib.cell_of_heap hbx2];rfl
   have f2:w2.frozen? (w.heap.size,2)=false:=Lib.frozen_of_heap hbx2 2
   have HV0:Hid (y7g K ws pl b e op tx p w (ws.length-u2.length) 1 ns2 (.slice A2 ns2.length c2) (w2.setCell (w.heap.size,2) (.int .i64 1))):=by
    have ho:q0x (w.heap.size+1) (.slice A2 ns2.length c2) ns2 w2:=by rw[<-hsz1];exact hg.o
    refine⟨Nat.le_refl _,by omega,by omega,by omega,ho.kept fun g h1 h2=>Below.heap_setCell _ _ _ _ (by show g≠w.heap.size;omega),hg.rd.far (by omega) (by omega) (by omega),(HB1.o.trans (hg.bt.mono (by omega))).setCell (p:=(w.heap.size,2)) (.inr Zl) _,j2g hbx2,fun r hr=>?_⟩;rw[hu]at hr;exact .aO0 HNE.o hg.pr (by simpa using hr)
   clear hg hu hn2 he2 hsf hbx2;generalize hnl:ns2.length=nl at HV0;have HNL:Hid (ns2.length=nl):=hnl;clear hnl;go_wp2_with fail
   go_loopw [7] (fun x wr=>∃(q n:Nat)(acc:List Td)(A':Option Addr)(n' c':Nat),x=.slice A' n' c'/\acc.length=n'/\y7g K ws pl b e op tx p w q n acc (.slice A' n' c') wr) (fun _ wr=>k4u wr b)
   case atStart=>exact⟨_,1,ns2,A2,nl,c2,rfl,HNL.o,HV0.o⟩
   case round=>
    obtain⟨q,n,acc,A3,n3,c3,rfl,hal,hV⟩:=hrel;have HV:=(show Hid (_)from hV);have HAL:Hid (acc.length=n3):=hal;have hqle:=hV.rd.le;have hn:=hV.nn;have hnq:=hV.nq;have hwb:=hV.bt.size;have hbr:b<wr.heap.size:=hV.rd.row.lt;have hnb:w.heap.size<wr.heap.size:=(Array.getElem?_eq_some_iff.1 hV.bx).1;rw[hal]at hn;by_cases hm:ws[q]?=some [44]
    ·obtain⟨hqlt,hqe⟩:=List.getElem?_eq_some_iff.1 hm
     have HDR:Hid (ws.drop q=[44]::ws.drop (q+1)):=by
      show _=_;rw[List.drop_eq_getElem_cons hqlt,hqe]
     have HH:Hid (Calls prog 127 #[.pointer b,.string ⟨#[44]⟩] wr fun r w'=>r=.returned (.bool true)/\Ry K ws pl b (q+1) w'/\But wr b wr w'):=q5m hV.rd [44] hm;clear hV hal hm hqe;go_wp2_with fail;refine HH.o.mono ?_;rintro r w4⟨rfl,h4,b4⟩;have HB4:Hid (But wr b wr w4):=b4;have hs4:=b4.size;have HSC:Hid (Calls prog 130 #[.pointer b] w4 (fun r w'=>q4q K ws pl b (.level 0) (q+1) w4 r w')):=HS.o (q+1) (by have:=HV.o.lt;omega) (by omega) _ h4;clear h4 b4 HH;go_wp2_with fail;refine HSC.o.mono ?_;intro r w5 hG;cases hG with
     | @bad u5 _ pr bt=>
      have HB:Hid (j1d K ws pl b e op tx p w (.panicked [q5h (pl (ws.length-u5.length))]) w5):=by
       obtain⟨n',hn'⟩:∃n',n=n'+1:=⟨n-1,by have:=HV.o.n1;omega⟩;subst hn';exact .bad (HV.o.ok _ (by rw[HDR.o];exact .aB HE2.o pr)) ((HV.o.bt.trans (HB4.o.mono hwb)).trans (bt.mono (by omega)))
      clear pr bt;go_wp2;exact⟨rfl,HB.o⟩
     | @ok m5 ns5 u5 A5 c5 _ hg=>
      have hsf:=q5e hg.pr;have hu:ws.drop (ws.length-u5.length)=u5:=q6z hsf.1;have hn5:=hg.n;have he5:=hsf.2 m5 ns5 u5 rfl;rw[q0h]at hn5 he5;simp only[Job.eats]at he5;have hs5:=hg.bt.size;have HO5:Hid (q0x (w.heap.size+1) (.slice A3 n3 c3) acc w5):=(HV.o.o.but2 HB4.o (by omega)).but2 hg.bt (by omega);have HT5:Hid (Tds w5 A5 ns5):=hg.o.tds;have HN5:Hid (A5=none->ns5.length=0/\c5=0):=hg.o.none.2;have HBX5:Hid (w5.heap[w.heap.size]?=some (.cells #[op,.string tx,(n:Int)] 47 (0,0))):=(hg.bt.block _ (by omega) (by omega)).trans ((HB4.o.block _ (by omega) (by omega)).trans HV.o.bx);have HB5:Hid (But w b w w5):=(HV.o.bt.trans (HB4.o.mono hwb)).trans (hg.bt.mono (by omega));have HR5:Hid (Ry K ws pl b (ws.length-u5.length) w5):=hg.rd
      have HOK:Hid (∀r,PR (.args e (n+1) (acc++ns5)) (ws.drop (ws.length-u5.length)) r->PR (.args e 0 []) (ws.drop p) r):=fun r hr=>by
       obtain⟨n',hn'⟩:∃n',n=n'+1:=⟨n-1,by have:=HV.o.n1;omega⟩;subst hn';rw[hu]at hr;exact HV.o.ok _ (by rw[HDR.o];exact .aO HE2.o hg.pr hr)
      have hqq:q<ws.length-u5.length:=by omega
      clear hg hu hsf he5;generalize hnl5:ns5.length=n5 at hn5 HN5;have HNL5:Hid (ns5.length=n5):=hnl5;have hb5:n3+n5<=1000000:=by omega
      clear hnl5 HSC;go_wp2_with(at_builtin;refine q2y rfl _ _ rfl (w.heap.size+1) _ acc rfl HO5.o A5 n5 ns5 HNL5.o c5 rfl HT5.o HN5.o (n3+n5) (by rw[HAL.o]) hb5 (by omega) ?_);intro A6 c6 w6 hown6 hgrow6;have hs6:=hgrow6.size;have hbel6:Below (w.heap.size+1) w5 w6:= Zb.grown hgrow6 (by omega) (fun k hk=>(World.ownsRow.lt HO5.o k hk).1);have hbx6:w6.heap[w.heap.size]?=some (.cells #[op,.string tx,(n:Int)] 47 (0,0)):=(hbel6.block _ (by omega)).trans HBX5.o;have d6:w6.cell? (w.heap.size,2)=some ↑(n:Int):=by rw[Lib.cell_of_heap hbx6];rfl
      have f6:w6.frozen? (w.heap.size,2)=false:=Lib.frozen_of_heap hbx6 2
      have HV6:Hid (y7g K ws pl b e op tx p w (ws.length-u5.length) (n+1) (acc++ns5) (.slice A6 (n3+n5) c6) (w6.setCell ↑(w.heap.size,2) ↑((n:Int)+1))):=by
       have hal6:(acc++ns5).length=n3+n5:=by rw[List.length_append,HAL.o,HNL5.o]
       have h7:=HV.o.lt;refine⟨by omega,by omega,by omega,by rw[hal6];omega,hown6.kept fun g h1 h2=>Below.heap_setCell _ _ _ _ (by show g≠w.heap.size;omega),(HR5.o.keepB hbel6 (by omega) (by omega) (by omega)).far (by omega) (by omega) (by omega),(HB5.o.trans (But.of (hbel6.mono (by omega)))).setCell (p:=(w.heap.size,2)) (.inr Zl) _,?_,HOK.o⟩;rw[show((n+1:Nat):Int)=(n:Int)+1 by omega];exact j2g hbx6
      have HAL6:Hid ((acc++ns5).length=n3+n5):=(show _=_ by rw[List.length_append,HAL.o,HNL5.o]);have hnb6:(n:Int)+1<=60001:=by omega
      clear hown6 hgrow6 hbel6 hbx6 HBX5;go_wp2;refine⟨⟨_,n+1,acc++ns5,A6,n3+n5,c6,rfl,HAL6.o,HV6.o⟩,?_⟩;rw[HV6.o.rd.len_eq,HV.o.rd.len_eq];omega
    ·have HH:Hid (Calls prog 127 #[.pointer b,.string ⟨#[44]⟩] wr fun r w'=>r=.returned (.bool false)/\w'=wr):=q7i hV.rd [44] (by simp) hm;by_cases hm2:ws[q]?=some e
     ·obtain⟨hqlt,hqe⟩:=List.getElem?_eq_some_iff.1 hm2
      have HDR:Hid (ws.drop q=e::ws.drop (q+1)):=by
       show _=_;rw[List.drop_eq_getElem_cons hqlt,hqe]
      have HM:Hid (Calls prog 129 #[.pointer b,.string (wbS e)] wr fun r w'=>r=.returned (.tuple #[])/\Ry K ws pl b (q+1) w'/\But wr b wr w'):=q6j hV.rd e hm2;clear hV hal hm hm2 hqe;go_wp2_with fail;refine HH.o.mono ?_;rintro r w4⟨rfl,rfl⟩;go_wp2_with fail;refine HM.o.mono ?_;rintro r w5⟨rfl,h5,b5⟩;have hs5:=b5.size;have hbx5:w5.heap[w.heap.size]?=some (.cells #[op,.string tx,(n:Int)] 47 (0,0)):=(b5.block _ (by omega) (by omega)).trans HV.o.bx;have d0:w5.cell? w.heap.size=some ↑op:=by rw[Lib.cell_of_heap hbx5];rfl
      have d1:w5.cell? (w.heap.size,1)=some (.string tx):=by rw[Lib.cell_of_heap hbx5];rfl
      have d2:w5.cell? (w.heap.size,2)=some ↑(n:Int):=by rw[Lib.cell_of_heap hbx5];rfl
      have ho5:q0x (w.heap.size+1) (.slice A3 n3 c3) acc w5:=HV.o.o.but2 b5 (by omega);have HX1:Hid (q0x w (.slice w5.heap.size 1 1) [⟨op,tx,(n:Int)⟩] (w5.alloc (.cells #[op,.string tx,(n:Int)] 47))):=(q0x.one w5 ⟨op,tx,(n:Int)⟩).down (by omega);have HT1:Hid (Tds (w5.alloc (.cells #[op,.string tx,(n:Int)] 47)) A3 acc):=ho5.tds.alloc _;have HN1:Hid (A3=none->n3=0/\c3=0):=ho5.none.2;have HSZ:Hid ((w5.alloc (.cells #[op,.string tx,(n:Int)] 47)).heap.size=w5.heap.size+1):=World.size_alloc ..;have HR5:Hid (Ry K ws pl b (q+1) (w5.alloc (.cells #[op,.string tx,(n:Int)] 47))):=h5.keep (q3p w5 _);have HB5:Hid (But w b w (w5.alloc (.cells #[op,.string tx,(n:Int)] 47))):=(HV.o.bt.trans (b5.mono hwb)).alloc (by omega) _;have hb5:1+n3<=1000000:=by omega
      have hbr5:b<w5.heap.size:=h5.row.lt;have hgw5:=h5.gwlt;have hga5:=h5.galt;clear h5 b5 hbx5 ho5 HH HM;go_wp2_with(at_builtin;refine q2y rfl _ _ rfl w.heap.size _ [⟨op,tx,(n:Int)⟩] rfl HX1.o A3 n3 acc HAL.o c3 rfl HT1.o HN1.o (1+n3) rfl hb5 (by rw[HSZ.o];omega) ?_);intro A6 c6 w6 hown6 hgrow6
      have hrow6:∀k',(Value.slice w5.heap.size 1 1).ownBlock=some k'->w5.heap.size<=k':=fun k' hk=>by
       simp only[Value.ownBlock,Option.some.injEq]at hk;omega
      have hbel6:Below w5 (w5.alloc (.cells #[op,.string tx,(n:Int)] 47)) w6:= Zb.grown hgrow6 (by rw[HSZ.o];omega) hrow6
      have HX:Hid (j1d K ws pl b e op tx p w (.returned (.slice A6 (n3+1) c6)) w6):=by
       have hal:=HAL.o;subst hal;have hV:=HV.o;have hdl:(ws.drop (q+1)).length=ws.length-(q+1):=q0h;have hlt:=hV.lt;have hnn:=hV.nn;refine j1d.ok (n:=n) (ns:=acc) (u:=ws.drop (q+1)) ⟨hV.ok _ (by rw[HDR.o];exact .aEnd),?_,?_,?_,HB5.o.trans (But.of (hbel6.mono (by omega)))⟩
       ·rw[show acc.length+1=1+acc.length by omega];exact hown6
       ·rw[hdl,q0h];omega
       ·rw[hdl,show ws.length-(ws.length-(q+1))=q+1 by omega];exact HR5.o.keepB hbel6 hbr5 hgw5 hga5
      clear hown6 hgrow6 hbel6 hrow6 HR5 HB5 HX1 HT1;rw[show 1+n3=n3+1 by omega];go_wp2;go_ret;exact HX.o
     ·have HM:Hid (Calls prog 129 #[.pointer b,.string (wbS e)] wr fun r w'=>r=.panicked [q5h (pl q)]/\w'=wr):=q7j hV.rd e HE.o hm2
      have HX:Hid (j1d K ws pl b e op tx p w (.panicked [q5h (pl q)]) wr):=by
       have hdl:(ws.drop q).length=ws.length-q:=q0h;obtain⟨n',hn'⟩:∃n',n=n'+1:=⟨n-1,by have:=hV.n1;omega⟩;subst hn';have h9:=j1d.bad (K:=K) (pl:=pl) (b:=b) (op:=op) (tx:=tx) (w:=w) (hV.ok _ (.aSep (by rw[q1w];exact hm2) (by rw[q1w];exact hm))) hV.bt;rw[hdl,show ws.length-(ws.length-q)=q by omega]at h9;exact h9
      clear hV hal hm hm2;go_wp2_with fail;refine HH.o.mono ?_;rintro r w4⟨rfl,rfl⟩;go_wp2_with fail;refine HM.o.mono ?_;rintro r w5⟨rfl,rfl⟩;go_wp2;exact⟨rfl,HX.o⟩
end
end Go.Proofs.YthjapabokcajhaaGreatDoor
namespace Go.Proofs.YthjapabokcajhaaGreatDoor
open Go Go.RowKit
set_option maxRecDepth 100000
set_option maxHeartbeats 4000000
theorem k5v:∀(w:Wd)(a:Nat),(∀b∈w,q1z b=true)->Lib.decFrom a w=some (w.foldl (fun a c=>a*10+(c.toNat-48)) a)
 | [],a,_=>rfl
 | c::r,a,h=>by
  have hc:=h c (by simp);simp only[q1z,Bool.and_eq_true,decide_eq_true_eq]at hc;have e:Lib.digitVal c=some (c.toNat-48):=by rw[Lib.digitVal,if_pos hc]
  rw[Lib.decFrom,e];exact k5v r _ fun b hb=>h b (by simp[hb])
theorem v0y{w:Wd}(h:∀b∈w,q1z b=true)(h0:w≠[]):Lib.atoi w=some ((z9b w:Nat):Int):=by
 cases w with
 | nil=>exact absurd rfl h0
 | cons c r=>
  have hc:=h c (by simp);simp only[q1z,Bool.and_eq_true,decide_eq_true_eq]at hc
  have e1:(c==45)=false:=by
   rw[beq_eq_false_iff_ne];rintro rfl;revert hc;decide
  have e2:(c==43)=false:=by
   rw[beq_eq_false_iff_ne];rintro rfl;revert hc;decide
  have e3:Lib.decNat (c::r)=some (z9b (c::r)):=by
   rw[Lib.decNat];exact k5v (c::r) 0 h
  simp only[Lib.atoi,e1,e2,e3];rfl
theorem v0x(w:Wd)(h:∀b∈w,q1z b=true)(h0:w≠[])(hl:w.length<=6)(W:World):Calls prog 228 #[.string (wbS w)] W fun e w'=>e=.returned (.tuple #[.int .i64 ((z9b w:Nat):Int),.nilIface])/\Below W W w':=by
 refine(atoi_sh (wbS w) ((z9b w:Nat):Int) (by rw[<-q0c];show w.length<=18;omega) (v0y h h0) W).mono ?_;rintro e w'⟨rfl,t,rfl⟩;exact⟨rfl,Lib.bytesWorld_below _ _ _⟩
section
variable {K:LwK} {ws:List Wd} {pl:Nat→Nat} {b p:Nat} {w:World}
theorem q4q.lev2{e:Ending}{w':World}(h:q4q K ws pl b .single p w e w'):q4q K ws pl b (.level 2) p w e w':=by
 cases h with
 | ok h=>exact .ok ⟨.lev2 h.pr,h.o,h.n,h.rd,h.bt⟩
 | bad pr bt=>exact .bad (.lev2 pr) bt
theorem v0j{j:Job}{q:Nat}{w':World}(hq:q<=ws.length)(pr:PR j (ws.drop p) (.bad (ws.drop q)))(bt:But w b w w'):q4q K ws pl b j p w (.panicked [q5h (pl q)]) w':=by
 have h9:=q4q.bad (K:=K) (pl:=pl) pr bt;rw[q0h,show ws.length-(ws.length-q)=q by omega]at h9;exact h9
theorem q4m(h:p<ws.length):ws.drop p=ws[p]::ws.drop (p+1):=List.drop_eq_getElem_cons h
theorem j0u(hS:∀q,p<q->q<=ws.length->v0u K ws pl b q)(hp:p<ws.length)(hn:nmW ws[p]=true)(h:Ry K ws pl b p w):
  Calls prog 229 #[.pointer (some ⟨b,0,none⟩)] w fun e w'=>q4q K ws pl b .single p w e w':=by
 have HN:=hid (q8i h hp);have HD:=hid (q4m hp);have hbw:=h.row.lt;clear h;by_cases hm:ws[p+1]?=some [40]
 ·obtain⟨hplt,hpe⟩:=List.getElem?_eq_some_iff.1 hm
  have HD2:Hid (ws.drop (p+1)=[40]::ws.drop (p+2)):=by
   show _=_;rw[q4m hplt,hpe]
  have HK:Hid (∀W,Ry K ws pl b (p+2) W->But w b w W->Calls prog 230 #[.pointer (some ⟨b,0,none⟩),.agg #[.int .i64 3,.string (wbS ws[p]),.int .i64 0],.string ⟨#[41]⟩] W fun r w'=>q4q K ws pl b .single p w r w'):=fun W hW hB=>by
   refine(k2r (e:=[41]) (op:=3) (tx:=wbS ws[p]) (by simp) (by decide) (fun q h1 h2=>hS q (by omega) h2) hW).mono ?_;intro r w' hG;have hs:=hB.size;cases hG with
   | bad pr bt=>exact .bad (by rw[HD.o,HD2.o];exact .sCB hn pr) (hB.trans (bt.mono hs))
   | @ok n ns u A c _ hg=>
    have hl:=hg.n;rw[q0h]at hl;refine q4q.ok (m:=0) (ns:=clT ws[p] n::ns) (u:=u) ⟨by rw[HD.o,HD2.o];exact .sCO hn hg.pr,hg.o.down hs,?_,hg.rd,hB.trans (hg.bt.mono hs)⟩;rw[q0h,List.length_cons];omega
  generalize wbS ws[p]=S at HN HK;go_in;go_wp2_with fail;refine HN.o.mono ?_;rintro e w1⟨rfl,h1,b1⟩;have HB1:=hid b1;have hs1:=b1.size;have HH:=hid (q5m h1 [40] hm);clear h1 b1 HN hm hpe;go_wp2_with fail;refine HH.o.mono ?_;rintro e w2⟨rfl,h2,b2⟩;have HK2:=hid (HK.o w2 h2 (HB1.o.trans (b2.mono hs1)));clear h2 b2 HH HK;go_wp2_with fail;refine HK2.o.mono ?_;intro r w3 hG;cases hG with
  | @bad u _ pr bt=>
   have HB:Hid (q4q K ws pl b .single p w (.panicked [q5h (pl (ws.length-u.length))]) w3):=.bad pr bt;clear pr bt;go_wp2;exact⟨rfl,HB.o⟩
  | @ok m ns u A c _ hg=>
   have HB:Hid (q4q K ws pl b .single p w (.returned (.slice A ns.length c)) w3):=.ok hg;clear hg;generalize ns.length=nl at HB⊢;go_wp2;go_ret;exact HB.o
 ·have HX:Hid (∀W,Ry K ws pl b (p+1) W->But w b w W->q4q K ws pl b .single p w (.returned (.slice (some ⟨W.heap.size,0,none⟩) 1 1)) (W.alloc (.cells #[.int .i64 2,.string (wbS ws[p]),.int .i64 0] 47))):=fun W hW hB=>by
   refine q4q.ok (m:=0) (ns:=[nmT ws[p]]) (u:=ws.drop (p+1)) ⟨by rw[HD.o];exact .sName hn (by rw[q1w];exact hm),(q0x.one W (nmT ws[p])).down hB.size,?_,?_,hB.alloc hB.size _⟩
   ·rw[q0h,q0h];simp only[List.length_cons,List.length_nil];omega
   ·rw[q0h,show ws.length-(ws.length-(p+1))=p+1 by omega];exact hW.keep (q3p W _)
  generalize wbS ws[p]=S at HN HX;go_in;go_wp2_with fail;refine HN.o.mono ?_;rintro e w1⟨rfl,h1,b1⟩;have HX1:=(show Hid (_)from HX.o w1 h1 b1);have HH:=hid (q7i h1 [40] (by simp) hm);clear h1 b1 HN hm HX;go_wp2_with fail;refine HH.o.mono ?_;rintro e w2⟨rfl,rfl⟩;go_wp2;go_ret;exact HX1.o
end
end Go.Proofs.YthjapabokcajhaaGreatDoor
namespace Go.Proofs.YthjapabokcajhaaGreatDoor
open Go Go.RowKit
set_option maxRecDepth 100000
set_option maxHeartbeats 4000000
section
variable {K:LwK} {ws:List Wd} {pl:Nat→Nat} {b p:Nat} {w:World}
theorem v6c{X:Wd}(h:Ry K ws pl b p w)(hX:ws.getD p []=X)(ht:X=[]\/q3k X):
  (Calls prog 80 #[.pointer b] w fun e w'=>e=.returned (.string (wbS X))/\w=w')/\(Calls prog 227 #[.string (wbS X)] w fun e w'=>e=.returned (.bool (z0k X))/\w=w')/\(Calls prog 176 #[.string (wbS X)] w fun e w'=>e=.returned (.bool (nmW X))/\w=w'):=by
 subst hX;exact⟨(q6k h).mono fun _ _ h=>⟨h.1,h.2.symm⟩,(j0t _ w).mono fun _ _ h=>⟨h.1,h.2.symm⟩,(k5j _ ht w).mono fun _ _ h=>⟨h.1,h.2.symm⟩⟩
theorem z7o(ht:∀x∈ws,q3k x)(hS:∀q,p<q->q<=ws.length->v0u K ws pl b q):v8l K ws pl b p:=by
 intro w h;have hple:=h.le;have hbw:=h.row.lt;show Calls prog 204 #[.pointer b] w fun e w'=>q4q K ws pl b (.level 2) p w e w'
 by_cases hp:p<ws.length
 ·have htk:=ht _ (List.getElem_mem hp);have hX:=q3v hp;obtain⟨L1,L2,L3⟩:=v6c h hX (.inr htk);have HD:=hid (q4m hp);by_cases hnum:z0k ws[p]=true
  ·rw[hnum]at L2;have HL1:=(show Hid (Calls _ _ _ _ _)from L1);have HL2:=(show Hid (Calls _ _ _ _ _)from L2);obtain⟨hfig,h6⟩:=y2d htk hnum;have HN:=hid (q8i h hp);have HA:Hid (∀W,Calls prog 228 #[.string (wbS ws[p])] W fun e w'=>e=.returned (.tuple #[((z9b ws[p]:Nat):Int),.nilIface])/\Below W W w'):=fun W=>v0x ws[p] hfig (v8b htk) h6 W
   have HX:Hid (∀W,Ry K ws pl b (p+1) W->But w b w W->q4q K ws pl b (.level 2) p w (.returned (.slice W.heap.size 1 1)) (W.alloc (.cells #[.int .i64 1,.string ⟨#[]⟩,((z9b ws[p]:Nat):Int)] 47))):=fun W hW hB=>by
    refine q4q.ok (m:=0) (ns:=[y4j ws[p]]) (u:=ws.drop (p+1)) ⟨by rw[HD.o];exact .lev2 (.sNum hnum),(q0x.one W (y4j ws[p])).down hB.size,?_,?_,hB.alloc hB.size _⟩
    ·rw[q0h,q0h];simp only[List.length_cons,List.length_nil];omega
    ·rw[q0h,show ws.length-(ws.length-(p+1))=p+1 by omega];exact hW.keep (q3p W _)
   generalize wbS ws[p]=S at HL1 HL2 HN HA
   generalize((z9b ws[p]:Nat):Int)=V at HA HX
   clear L1 L2 L3 h hS ht htk hX hnum hfig h6;go_in;go_wp2_with fail;refine HL1.o.mono ?_;rintro e w1⟨rfl,rfl⟩;go_wp2_with fail;refine HL2.o.mono ?_;rintro e w2⟨rfl,rfl⟩;go_wp2_with fail;refine HN.o.mono ?_;rintro e w3⟨rfl,h3,b3⟩;have K3:=(show Hid (_)from And.intro h3 b3);have hs3:=b3.size;clear h3 b3;go_wp2_with fail;refine(HA.o _).mono ?_;rintro e w4⟨rfl,b4⟩;have HX4:=(show Hid (_)from HX.o w4 (K3.o.1.keep b4) (K3.o.2.trans (But.of (b4.mono hs3))));clear b4;go_wp2;go_ret;exact HX4.o
  ·have hnum':z0k ws[p]=false:=by simpa using hnum
   rw[hnum']at L2;have HL1:=(show Hid (Calls _ _ _ _ _)from L1);have HL2:=(show Hid (Calls _ _ _ _ _)from L2);by_cases hnm:nmW ws[p]=true
   ·rw[hnm]at L3;have HL3:=(show Hid (Calls _ _ _ _ _)from L3);have HN:=hid ((j0u hS hp hnm h).mono fun _ _ hG=>hG.lev2);generalize wbS ws[p]=S at HL1 HL2 HL3;clear L1 L2 L3 h hS ht htk hX hnum hnum' hnm;go_in;go_wp2_with fail;refine HL1.o.mono ?_;rintro e w1⟨rfl,rfl⟩;go_wp2_with fail;refine HL2.o.mono ?_;rintro e w2⟨rfl,rfl⟩;go_wp2_with fail;refine HL1.o.mono ?_;rintro e w1⟨rfl,rfl⟩;go_wp2_with fail;refine HL3.o.mono ?_;rintro e w2⟨rfl,rfl⟩;go_wp2_with fail;refine HN.o.mono ?_;intro r w3 hG;cases hG with
    | @bad u _ pr bt=>
     have HB:Hid (q4q K ws pl b (.level 2) p w (.panicked [q5h (pl (ws.length-u.length))]) w3):=.bad pr bt;clear pr bt;go_wp2;exact⟨rfl,HB.o⟩
    | @ok m ns u A c _ hg=>
     have HB:Hid (q4q K ws pl b (.level 2) p w (.returned (.slice A ns.length c)) w3):=.ok hg;clear hg;generalize ns.length=nl at HB⊢;go_wp2;go_ret;exact HB.o
   ·have hnm':nmW ws[p]=false:=by simpa using hnm
    rw[hnm']at L3;have HL3:=(show Hid (Calls _ _ _ _ _)from L3);by_cases h91:ws[p]=[91]
    ·have hm:ws[p]?=some [91]:=by rw[List.getElem?_eq_getElem hp,h91]
     have HH:=hid (q5m h [91] hm)
     have HK:Hid (∀W,Ry K ws pl b (p+1) W->But w b w W->Calls prog 230 #[.pointer b,.agg #[.int .i64 4,.string ⟨#[]⟩,.int .i64 0],.string ⟨#[93]⟩] W fun r w'=>q4q K ws pl b (.level 2) p w r w'):=fun W hW hB=>by
      refine(k2r (e:=[93]) (op:=4) (tx:=⟨#[]⟩) (by simp) (by decide) (fun q h1 h2=>hS q (by omega) h2) hW).mono ?_;intro r w' hG;have hs:=hB.size;cases hG with
      | bad pr bt=>exact .bad (by rw[HD.o,h91];exact .lev2 (.sLB pr)) (hB.trans (bt.mono hs))
      | @ok n ns u A c _ hg=>
       have hl:=hg.n;rw[q0h]at hl;refine q4q.ok (m:=0) (ns:=lsT n::ns) (u:=u) ⟨by rw[HD.o,h91];exact .lev2 (.sLO hg.pr),hg.o.down hs,?_,hg.rd,hB.trans (hg.bt.mono hs)⟩;rw[q0h,List.length_cons];omega
     generalize wbS ws[p]=S at HL1 HL2 HL3;clear L1 L2 L3 h hS ht htk hX hnum hnum' hnm hnm' hm h91;go_in;go_wp2_with fail;refine HL1.o.mono ?_;rintro e w1⟨rfl,rfl⟩;go_wp2_with fail;refine HL2.o.mono ?_;rintro e w2⟨rfl,rfl⟩;go_wp2_with fail;refine HL1.o.mono ?_;rintro e w1⟨rfl,rfl⟩;go_wp2_with fail;refine HL3.o.mono ?_;rintro e w2⟨rfl,rfl⟩;go_wp2_with fail;refine HH.o.mono ?_;rintro e w2⟨rfl,h2,b2⟩;have HK2:=hid (HK.o w2 h2 b2);clear h2 b2 HH HK;go_wp2_with fail;refine HK2.o.mono ?_;intro r w3 hG;cases hG with
     | @bad u _ pr bt=>
      have HB:Hid (q4q K ws pl b (.level 2) p w (.panicked [q5h (pl (ws.length-u.length))]) w3):=.bad pr bt;clear pr bt;go_wp2;exact⟨rfl,HB.o⟩
     | @ok m ns u A c _ hg=>
      have HB:Hid (q4q K ws pl b (.level 2) p w (.returned (.slice A ns.length c)) w3):=.ok hg;clear hg;generalize ns.length=nl at HB⊢;go_wp2;go_ret;exact HB.o
    ·have hm:ws[p]?≠some [91]:=by rw[List.getElem?_eq_getElem hp];simpa using h91
     have HH:Hid (Calls prog 127 #[.pointer b,.string ⟨#[91]⟩] w fun e w'=>e=.returned (.bool false)/\w=w'):=(q7i h [91] (by simp) hm).mono fun _ _ h=>⟨h.1,h.2.symm⟩
     by_cases h40:ws[p]=[40]
     ·have hm4:ws[p]?=some [40]:=by rw[List.getElem?_eq_getElem hp,h40]
      have HM:=hid (q6j h [40] hm4)
      have HD4:Hid (ws.drop p=[40]::ws.drop (p+1)):=by
       show _=_;rw[HD.o,h40]
      have HS:=hid (hS (p+1) (by omega) (by omega));generalize wbS ws[p]=S at HL1 HL2 HL3;clear L1 L2 L3 h hS ht htk hX hnum hnum' hnm hnm' hm h91 h40 hm4 HD;go_in;go_wp2_with fail;refine HL1.o.mono ?_;rintro e w1⟨rfl,rfl⟩;go_wp2_with fail;refine HL2.o.mono ?_;rintro e w2⟨rfl,rfl⟩;go_wp2_with fail;refine HL1.o.mono ?_;rintro e w1⟨rfl,rfl⟩;go_wp2_with fail;refine HL3.o.mono ?_;rintro e w2⟨rfl,rfl⟩;go_wp2_with fail;refine HH.o.mono ?_;rintro e w2⟨rfl,rfl⟩;go_wp2_with fail;refine HM.o.mono ?_;rintro e w3⟨rfl,h3,b3⟩;have HB3:=hid b3;have hs3:=b3.size;have HSC:=hid (HS.o w3 h3);clear h3 b3 HM HH;go_wp2_with fail;refine HSC.o.mono ?_;intro r w4 hG;cases hG with
      | @bad u _ pr bt=>
       have HB:Hid (q4q K ws pl b (.level 2) p w (.panicked [q5h (pl (ws.length-u.length))]) w4):=.bad (by rw[HD4.o];exact .lev2 (.sPB pr)) (HB3.o.trans (bt.mono hs3));clear pr bt;go_wp2;exact⟨rfl,HB.o⟩
      | @ok m ns u A c _ hg=>
       have hsf:=q5e hg.pr;have hu:ws.drop (ws.length-u.length)=u:=q6z hsf.1;have hl:=hg.n;rw[q0h]at hl;have hs4:=hg.bt.size;have hb4:=HB3.o.trans (hg.bt.mono hs3);by_cases hm5:ws[ws.length-u.length]?=some [41]
       ·obtain⟨hlt5,he5⟩:=List.getElem?_eq_some_iff.1 hm5
        have hu2:u=[41]::ws.drop (ws.length-u.length+1):=by
         have h9:=q4m hlt5;rw[hu,he5]at h9;exact h9
        have HM5:Hid (Calls prog 129 #[.pointer b,.string ⟨#[41]⟩] w4 fun e w'=>e=.returned (.tuple #[])/\q4q K ws pl b (.level 2) p w (.returned (.slice A ns.length c)) w'):=by
         refine(q6j hg.rd [41] hm5).mono ?_;rintro e w5⟨rfl,h5,b5⟩
         have hul:u.length=(ws.drop (ws.length-u.length+1)).length+1:=by
          have h9:=congrArg List.length hu2;rw[List.length_cons]at h9;exact h9
         have hpr:=hg.pr;rw[hu2]at hpr;refine⟨rfl,q4q.ok (m:=0) (ns:=ns) (u:=ws.drop (ws.length-u.length+1)) ⟨by rw[HD4.o];exact .lev2 (.sPC hpr),(hg.o.but2 b5 (by omega)).down hs3,?_,?_,hb4.trans (b5.mono (by omega))⟩⟩
         ·rw[q0h (p:=p)];omega
         ·rw[show ws.length-(ws.drop (ws.length-u.length+1)).length=ws.length-u.length+1 by omega];exact h5
        clear hg hu hu2 hm5 he5 hsf hl;generalize ns.length=nl at HM5⊢;go_wp2_with fail;refine HM5.o.mono ?_;rintro e w5⟨rfl,h5⟩;have K5:=(show Hid (q4q _ _ _ _ _ _ _ _ _)from h5);clear h5;go_wp2;go_ret;exact K5.o
       ·have HM5:Hid (Calls prog 129 #[.pointer b,.string ⟨#[41]⟩] w4 fun e w'=>e=.panicked [q5h (pl (ws.length-u.length))]/\q4q K ws pl b (.level 2) p w (.panicked [q5h (pl (ws.length-u.length))]) w'):=by
         refine(q7j hg.rd [41] (by simp) hm5).mono ?_;rintro e w5⟨rfl,rfl⟩;refine⟨rfl,.bad ?_ hb4⟩;rw[HD4.o];refine .lev2 (.sPX hg.pr ?_);rw[<-hu,q1w];exact hm5
        clear hg hu hm5 hsf hl;generalize ns.length=nl;generalize pl (ws.length-u.length)=pp at HM5;go_wp2_with fail;refine HM5.o.mono ?_;rintro e w5⟨rfl,h5⟩;have K5:=(show Hid (q4q _ _ _ _ _ _ _ _ _)from h5);clear h5;go_wp2;exact⟨rfl,K5.o⟩
     ·have hm4:ws[p]?≠some [40]:=by rw[List.getElem?_eq_getElem hp];simpa using h40
      have HM:Hid (Calls prog 129 #[.pointer b,.string ⟨#[40]⟩] w fun e w'=>e=.panicked [q5h (pl p)]/\w=w'):=(q7j h [40] (by simp) hm4).mono fun _ _ h=>⟨h.1,h.2.symm⟩
      have HX:Hid (q4q K ws pl b (.level 2) p w (.panicked [q5h (pl p)]) w):=v0j hple (by rw[HD.o];exact .lev2 (.sBad h40 h91 hnum' hnm')) (But.refl _ _ _);generalize wbS ws[p]=S at HL1 HL2 HL3;clear L1 L2 L3 h hS ht htk hX hnum hnum' hnm hnm' hm h91 h40 hm4 HD;go_in;go_wp2_with fail;refine HL1.o.mono ?_;rintro e w1⟨rfl,rfl⟩;go_wp2_with fail;refine HL2.o.mono ?_;rintro e w2⟨rfl,rfl⟩;go_wp2_with fail;refine HL1.o.mono ?_;rintro e w1⟨rfl,rfl⟩;go_wp2_with fail;refine HL3.o.mono ?_;rintro e w2⟨rfl,rfl⟩;go_wp2_with fail;refine HH.o.mono ?_;rintro e w2⟨rfl,rfl⟩;go_wp2_with fail;refine HM.o.mono ?_;rintro e w3⟨rfl,rfl⟩;go_wp2;exact⟨rfl,HX.o⟩
 ·have hpe:p=ws.length:=by omega
  have hX:=q6r (ws:=ws) (q:=p) (by omega);obtain⟨L1,L2,L3⟩:=v6c h hX (.inl rfl);have hn1:z0k []=false:=rfl;have hn2:nmW []=false:=by decide
  rw[hn1]at L2;rw[hn2]at L3;have HL1:=(show Hid (Calls _ _ _ _ _)from L1);have HL2:=(show Hid (Calls _ _ _ _ _)from L2);have HL3:=(show Hid (Calls _ _ _ _ _)from L3);have hno:∀s,ws[p]?≠some s:=fun s=>by rw[List.getElem?_eq_none (by omega)];simp
  have HH:Hid (Calls prog 127 #[.pointer b,.string ⟨#[91]⟩] w fun e w'=>e=.returned (.bool false)/\w=w'):=(q7i h [91] (by simp) (hno _)).mono fun _ _ h=>⟨h.1,h.2.symm⟩
  have HM:Hid (Calls prog 129 #[.pointer b,.string ⟨#[40]⟩] w fun e w'=>e=.panicked [q5h (pl p)]/\w=w'):=(q7j h [40] (by simp) (hno _)).mono fun _ _ h=>⟨h.1,h.2.symm⟩
  have HX:Hid (q4q K ws pl b (.level 2) p w (.panicked [q5h (pl p)]) w):=by
   refine v0j hple ?_ (But.refl _ _ _);rw[List.drop_eq_nil_of_le (by omega)];exact .lev2 .sinN
  generalize wbS []=S at HL1 HL2 HL3;clear L1 L2 L3 h hS ht hX hn1 hn2 hno hpe;go_in;go_wp2_with fail;refine HL1.o.mono ?_;rintro e w1⟨rfl,rfl⟩;go_wp2_with fail;refine HL2.o.mono ?_;rintro e w2⟨rfl,rfl⟩;go_wp2_with fail;refine HL1.o.mono ?_;rintro e w1⟨rfl,rfl⟩;go_wp2_with fail;refine HL3.o.mono ?_;rintro e w2⟨rfl,rfl⟩;go_wp2_with fail;refine HH.o.mono ?_;rintro e w2⟨rfl,rfl⟩;go_wp2_with fail;refine HM.o.mono ?_;rintro e w3⟨rfl,rfl⟩;go_wp2;exact⟨rfl,HX.o⟩
theorem v0l(ht:∀x∈ws,q3k x):∀n p,p<=ws.length->ws.length-p<=n->v8l K ws pl b p/\y2r K ws pl b p/\v0u K ws pl b p:=by
 intro n
 induction n with
 | zero=>
  intro p hp hn;have hs:v8l K ws pl b p:=z7o ht fun q h1 h2=>by omega
  have h1:y2r K ws pl b p:=k2s fun q h1 h2=>by
   obtain rfl:q=p:=by omega
   exact hs
  exact⟨hs,h1,v0o fun q h3 h4=>by
   obtain rfl:q=p:=by omega
   exact h1⟩
 | succ n ih=>
  intro p hp hn;have hs:v8l K ws pl b p:=z7o ht fun q h1 h2=>(ih q h2 (by omega)).2.2
  have hs':∀q,p<=q->q<=ws.length->v8l K ws pl b q:=fun q h1 h2=>by
   rcases Nat.eq_or_lt_of_le h1 with rfl|h3
   ·exact hs
   ·exact(ih q h2 (by omega)).1
  have h1:=k2s hs'
  have h1':∀q,p<=q->q<=ws.length->y2r K ws pl b q:=fun q h1q h2=>by
   rcases Nat.eq_or_lt_of_le h1q with rfl|h3
   ·exact h1
   ·exact(ih q h2 (by omega)).2.1
  exact⟨hs,h1,v0o h1'⟩
theorem k7z(ht:∀x∈ws,q3k x)(hp:p<=ws.length):v0u K ws pl b p:=(v0l ht _ p hp Zl).2.2
end
end Go.Proofs.YthjapabokcajhaaGreatDoor
