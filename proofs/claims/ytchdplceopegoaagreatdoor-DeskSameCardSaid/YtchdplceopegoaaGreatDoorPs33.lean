/- Texts as one: SyU, SyV. -/
import Derived.Test.YtchdplceopegoaaGreatDoorPs32
import Derived.Lib.Atoi
import Derived.Lib.AtoiErrMem
namespace Go.Proofs.YtchdplceopegoaaGreatDoor
open Go Go.RowKit
set_option maxRecDepth 100000
set_option maxHeartbeats 8000000
structure y4j (K:LwK) (ws:List Wd) (pl:Nat→Nat) (b:Nat) (e:Wd) (op:Int) (tx:ByteArray) (p:Nat) (w:World) (n:Nat) (ns:List Td) (u:List Wd) (v:Value) (w':World):Prop where
 pr:PR (.args e 0 []) (ws.drop p) (.ok n ns u)
 o:q1o w.heap.size v (⟨op,tx,(n:Int)⟩::ns) w'
 n:ns.length+u.length≤(ws.drop p).length
 rd:Ry K ws pl b (ws.length - u.length) w'
 bt:But w.heap.size b w w'
inductive k8e (K:LwK) (ws:List Wd) (pl:Nat→Nat) (b:Nat) (e:Wd) (op:Int) (tx:ByteArray) (p:Nat) (w:World):Ending→World→Prop where
 | ok {n ns u A c w'} (h:y4j K ws pl b e op tx p w n ns u (.slice A (ns.length+1) c) w'):k8e K ws pl b e op tx p w (.returned (.slice A (ns.length+1) c)) w'
 | bad {u w'} (pr:PR (.args e 0 []) (ws.drop p) (.bad u)) (bt:But w.heap.size b w w'):k8e K ws pl b e op tx p w (.panicked [q4a (pl (ws.length - u.length))]) w'
structure y4l (K:LwK) (ws:List Wd) (pl:Nat→Nat) (b:Nat) (e:Wd) (op:Int) (tx:ByteArray) (p:Nat) (w:World) (q n:Nat) (acc:List Td) (v:Value) (wr:World):Prop where
 n1:1≤n
 nq:n≤q
 lt:p<q
 nn:acc.length+(ws.length - q)≤ws.length - p
 o:q1o (w.heap.size+1) v acc wr
 rd:Ry K ws pl b q wr
 bt:But w.heap.size b w wr
 bx:wr.heap[w.heap.size]? = some (.cells #[.int .i64 op,.string tx,.int .i64 (n:Int)] 71 (0,0))
 ok:∀ r,PR (.args e n acc) (ws.drop q) r→PR (.args e 0 []) (ws.drop p) r
theorem Ry.far {K:LwK} {ws:List Wd} {pl:Nat→Nat} {b q:Nat} {w:World} (h:Ry K ws pl b q w) {k i:Nat} {v:Value} (h1:k≠b) (h2:k≠K.gw) (h3:k≠K.ga):Ry K ws pl b q (w.setCell ⟨k,i,none⟩ v):=
 ⟨h.le,(cso (.inl h1)).trans h.c0,(cso (.inl h1)).trans h.c1,h.row.set,fun i hi=>(cso (.inl h2)).trans (h.wd i hi),fun i hi=>(cso (.inl h3)).trans (h.pt i hi),h.nw,h.na,h.lw,h.la,h.few⟩
theorem k9d {w:World} {k:Nat} {a c d d':Value} {T:TypeId} (h:w.heap[k]? = some (.cells #[a,c,d] T (0,0))):(w.setCell ⟨k,2,none⟩ d').heap[k]? = some (.cells #[a,c,d'] T (0,0)):=by
 simp [World.setCell,Array.getElem?_modify,h]
section
variable {K:LwK} {ws:List Wd} {pl:Nat→Nat} {b p q:Nat} {e:Wd} {op:Int} {tx:ByteArray} {w:World}
theorem k0o (he:e≠[]) (he2:e≠[44]) (hS:∀ q,p≤q→q≤ws.length→k8h K ws pl b q) (h:Ry K ws pl b p w) :
  Calls Tryz.prog 212 #[.pointer (some ⟨b,0,none⟩),.agg #[.int .i64 op,.string tx,.int .i64 0],.string (wbS e)] w fun r w'=>k8e K ws pl b e op tx p w r w':=by
 have HS:Hid (∀ q,p≤q→q≤ws.length→k8h K ws pl b q):=hS
 have hbw:b<w.heap.size:=h.row.lt
 have hple:=h.le
 have hfew:=h.few
 have hgw:=h.gwlt
 have hga:=h.galt
 have HR0:Hid (Ry K ws pl b p (w.alloc (.cells #[.int .i64 op,.string tx,.int .i64 0] 71))):=h.keep (q1j w _)
 have HE:Hid (e≠[]):=he
 have HE2:Hid (e≠[44]):=he2
 clear h hS he he2
 by_cases hm:ws[p]? = some e
 ·obtain ⟨hplt,hpe⟩:=List.getElem?_eq_some_iff.1 hm
  have HD:Hid (ws.drop p=e::ws.drop (p+1)):=by
   show _=_
   rw [List.drop_eq_getElem_cons hplt,hpe]
  have HH:Hid (Calls Tryz.prog 106 #[.pointer (some ⟨b,0,none⟩),.string (wbS e)] (w.alloc (.cells #[.int .i64 op,.string tx,.int .i64 0] 71)) fun r w'=>∃ w1,w'=w1∧r = .returned (.bool true)∧Ry K ws pl b (p+1) w1∧But w.heap.size b w w1∧w1.heap[w.heap.size]? = some (.cells #[.int .i64 op,.string tx,.int .i64 0] 71 (0,0))):=by
   refine (q6a HR0.out e hm).mono ?_
   rintro r w1 ⟨rfl,h1,b1⟩
   have hsz:(w.alloc (.cells #[.int .i64 op,.string tx,.int .i64 0] 71)).heap.size=w.heap.size+1:=World.size_alloc ..
   exact ⟨w1,rfl,rfl,h1,(But.of (q1j w _)).trans (b1.mono (by omega)),(b1.block _ (by omega) (by omega)).trans (heap_alloc_new w _)⟩
  generalize wbS e=S at HH ⊢
  clear hm hpe HR0
  go_enter Tryz.func212,Tryz.ntmps212
  go_wp2_with fail
  refine HH.out.mono ?_
  rintro r w' ⟨w1,rfl,rfl,h1,b1,hbx⟩
  have d0:w'.cell? ⟨w.heap.size,0,none⟩=some (.int .i64 op):=by rw [Lib.cell_of_heap hbx];rfl
  have d1:w'.cell? ⟨w.heap.size,1,none⟩=some (.string tx):=by rw [Lib.cell_of_heap hbx];rfl
  have d2:w'.cell? ⟨w.heap.size,2,none⟩=some (.int .i64 0):=by rw [Lib.cell_of_heap hbx];rfl
  have hs1:=b1.size
  have HX:Hid (k8e K ws pl b e op tx p w (.returned (.slice (some ⟨w'.heap.size,0,none⟩) 1 1)) (w'.alloc (.cells #[.int .i64 op,.string tx,.int .i64 0] 71))):=by
   refine k8e.ok (n:=0) (ns:=[]) (u:=ws.drop (p+1)) ⟨by rw [HD.out];exact .aEnd,(q1o.one w' ⟨op,tx,0⟩).down hs1,?_,?_,b1.alloc hs1 _⟩
   ·rw [q0e,q0e];simp only [List.length_nil];omega
   ·rw [q0e,show ws.length - (ws.length - (p+1))=p+1 by omega]
    exact h1.keep (q1j w' _)
  clear h1 b1 hbx HH
  go_wp2
  go_ret
  exact HX.out
 ·have HH:Hid (Calls Tryz.prog 106 #[.pointer (some ⟨b,0,none⟩),.string (wbS e)] (w.alloc (.cells #[.int .i64 op,.string tx,.int .i64 0] 71)) fun r w'=>r = .returned (.bool false)∧w'=w.alloc (.cells #[.int .i64 op,.string tx,.int .i64 0] 71)):=q7a HR0.out e HE.out hm
  have HNE:Hid ((ws.drop p).head?≠some e):=by
   show _≠_
   rw [q1q];exact hm
  have HSC:Hid (∃ w1,w.alloc (.cells #[.int .i64 op,.string tx,.int .i64 0] 71)=w1∧Calls Tryz.prog 109 #[.pointer (some ⟨b,0,none⟩)] w1 (fun r w'=>q3n K ws pl b (.level 0) p w1 r w')∧But w.heap.size b w w1∧w1.heap.size=w.heap.size+1∧w1.heap[w.heap.size]? = some (.cells #[.int .i64 op,.string tx,.int .i64 0] 71 (0,0))):=
   ⟨_,rfl,HS.out p (Nat.le_refl _) hple _ HR0.out,But.of (q1j w _),World.size_alloc ..,heap_alloc_new w _⟩
  clear hm HR0
  go_enter Tryz.func212,Tryz.ntmps212
  go_wp2_with fail
  refine HH.out.mono ?_
  rintro r w' ⟨rfl,rfl⟩
  go_wp2_with fail
  obtain ⟨w1,hw1,hcal,hbt1,hsz1,hbx1⟩:=HSC.out
  rw [hw1]
  have HB1:Hid (But w.heap.size b w w1):=hbt1
  have HBX1:=(show Hid (_=_) from hbx1)
  clear hbt1 hbx1 HSC hw1 HH
  refine hcal.mono ?_
  clear hcal
  intro r w2 hG
  cases hG with
  | @bad u2 _ pr bt=>
   have HB:Hid (k8e K ws pl b e op tx p w (.panicked [q4a (pl (ws.length - u2.length))]) w2):=.bad (.aB0 HNE.out pr) (HB1.out.trans (bt.mono (by omega)))
   clear pr bt
   go_wp2
   exact ⟨rfl,HB.out⟩
  | @ok m2 ns2 u2 A2 c2 _ hg=>
   have hsf:=q9r hg.pr
   have hu:ws.drop (ws.length - u2.length)=u2:=q5s hsf.1
   have hn2:=hg.n
   have he2:=hsf.2 m2 ns2 u2 rfl
   rw [q0e] at hn2 he2
   simp only [Job.eats] at he2
   have hs2:=hg.bt.size
   have hbx2:w2.heap[w.heap.size]? = some (.cells #[.int .i64 op,.string tx,.int .i64 0] 71 (0,0)):=(hg.bt.block _ (by omega) (by omega)).trans HBX1.out
   have d2:w2.cell? ⟨w.heap.size,2,none⟩=some (.int .i64 0):=by rw [Lib.cell_of_heap hbx2];rfl
   have f2:w2.frozen? ⟨w.heap.size,2,none⟩=false:=Lib.frozen_of_heap hbx2 2
   have HV0:Hid (y4l K ws pl b e op tx p w (ws.length - u2.length) 1 ns2 (.slice A2 ns2.length c2) (w2.setCell ⟨w.heap.size,2,none⟩ (.int .i64 1))):=by
    have ho:q1o (w.heap.size+1) (.slice A2 ns2.length c2) ns2 w2:=by rw [←hsz1];exact hg.o
    refine ⟨Nat.le_refl _,by omega,by omega,by omega,ho.kept fun g h1 h2=>Below.heap_setCell _ _ _ _ (by show g≠w.heap.size;omega),hg.rd.far (by omega) (by omega) (by omega),(HB1.out.trans (hg.bt.mono (by omega))).setCell (p:=⟨w.heap.size,2,none⟩) (.inr (Nat.le_refl _)) _,k9d hbx2,fun r hr=>?_⟩
    rw [hu] at hr
    exact .aO0 HNE.out hg.pr (by simpa using hr)
   clear hg hu hn2 he2 hsf hbx2
   generalize hnl:ns2.length=nl at HV0
   have HNL:Hid (ns2.length=nl):=hnl
   clear hnl
   go_wp2_with fail
   go_loopw [7] (fun x wr=>∃ (q n:Nat) (acc:List Td) (A':Option Addr) (n' c':Nat),x = .slice A' n' c'∧acc.length=n'∧y4l K ws pl b e op tx p w q n acc (.slice A' n' c') wr) (fun _ wr=>k7c wr b)
   case atStart=>exact ⟨_,1,ns2,A2,nl,c2,rfl,HNL.out,HV0.out⟩
   case round=>
    obtain ⟨q,n,acc,A3,n3,c3,rfl,hal,hV⟩:=hrel
    have HV:=(show Hid (_) from hV)
    have HAL:Hid (acc.length=n3):=hal
    have hqle:=hV.rd.le
    have hn:=hV.nn
    have hnq:=hV.nq
    have hwb:=hV.bt.size
    have hbr:b<wr.heap.size:=hV.rd.row.lt
    have hnb:w.heap.size<wr.heap.size:=(Array.getElem?_eq_some_iff.1 hV.bx).1
    rw [hal] at hn
    by_cases hm:ws[q]? = some [44]
    ·obtain ⟨hqlt,hqe⟩:=List.getElem?_eq_some_iff.1 hm
     have HDR:Hid (ws.drop q=[44]::ws.drop (q+1)):=by
      show _=_
      rw [List.drop_eq_getElem_cons hqlt,hqe]
     have HH:Hid (Calls Tryz.prog 106 #[.pointer (some ⟨b,0,none⟩),.string ⟨#[44]⟩] wr fun r w'=>r = .returned (.bool true)∧Ry K ws pl b (q+1) w'∧But wr.heap.size b wr w'):=q6a hV.rd [44] hm
     clear hV hal hm hqe
     go_wp2_with fail
     refine HH.out.mono ?_
     rintro r w4 ⟨rfl,h4,b4⟩
     have HB4:Hid (But wr.heap.size b wr w4):=b4
     have hs4:=b4.size
     have HSC:Hid (Calls Tryz.prog 109 #[.pointer (some ⟨b,0,none⟩)] w4 (fun r w'=>q3n K ws pl b (.level 0) (q+1) w4 r w')):=HS.out (q+1) (by have:=HV.out.lt;omega) (by omega) _ h4
     clear h4 b4 HH
     go_wp2_with fail
     refine HSC.out.mono ?_
     intro r w5 hG
     cases hG with
     | @bad u5 _ pr bt=>
      have HB:Hid (k8e K ws pl b e op tx p w (.panicked [q4a (pl (ws.length - u5.length))]) w5):=by
       obtain ⟨n',hn'⟩:∃ n',n=n'+1:=⟨n - 1,by have:=HV.out.n1;omega⟩
       subst hn'
       exact .bad (HV.out.ok _ (by rw [HDR.out];exact .aB HE2.out pr)) ((HV.out.bt.trans (HB4.out.mono hwb)).trans (bt.mono (by omega)))
      clear pr bt
      go_wp2
      exact ⟨rfl,HB.out⟩
     | @ok m5 ns5 u5 A5 c5 _ hg=>
      have hsf:=q9r hg.pr
      have hu:ws.drop (ws.length - u5.length)=u5:=q5s hsf.1
      have hn5:=hg.n
      have he5:=hsf.2 m5 ns5 u5 rfl
      rw [q0e] at hn5 he5
      simp only [Job.eats] at he5
      have hs5:=hg.bt.size
      have HO5:Hid (q1o (w.heap.size+1) (.slice A3 n3 c3) acc w5):=(HV.out.o.but2 HB4.out (by omega)).but2 hg.bt (by omega)
      have HT5:Hid (Tds w5 A5 ns5):=hg.o.tds
      have HN5:Hid (A5=none→ns5.length=0∧c5=0):=hg.o.none.2
      have HBX5:Hid (w5.heap[w.heap.size]? = some (.cells #[.int .i64 op,.string tx,.int .i64 (n:Int)] 71 (0,0))):=(hg.bt.block _ (by omega) (by omega)).trans ((HB4.out.block _ (by omega) (by omega)).trans HV.out.bx)
      have HB5:Hid (But w.heap.size b w w5):=(HV.out.bt.trans (HB4.out.mono hwb)).trans (hg.bt.mono (by omega))
      have HR5:Hid (Ry K ws pl b (ws.length - u5.length) w5):=hg.rd
      have HOK:Hid (∀ r,PR (.args e (n+1) (acc++ns5)) (ws.drop (ws.length - u5.length)) r→PR (.args e 0 []) (ws.drop p) r):=fun r hr=>by
       obtain ⟨n',hn'⟩:∃ n',n=n'+1:=⟨n - 1,by have:=HV.out.n1;omega⟩
       subst hn'
       rw [hu] at hr
       exact HV.out.ok _ (by rw [HDR.out];exact .aO HE2.out hg.pr hr)
      have hqq:q<ws.length - u5.length:=by omega
      clear hg hu hsf he5
      generalize hnl5:ns5.length=n5 at hn5 HN5
      have HNL5:Hid (ns5.length=n5):=hnl5
      have hb5:n3+n5≤1000000:=by omega
      clear hnl5 HSC
      go_wp2_with (at_builtin;refine k0w rfl _ _ rfl (w.heap.size+1) _ acc rfl HO5.out A5 n5 ns5 HNL5.out c5 rfl HT5.out HN5.out (n3+n5) (by rw [HAL.out]) hb5 (by omega) ?_)
      intro A6 c6 w6 hown6 hgrow6
      have hs6:=hgrow6.size
      have hbel6:Below (w.heap.size+1) w5 w6:=(Below.refl _ _).grown hgrow6 (by omega) (fun k hk=>(World.ownsRow.lt HO5.out k hk).1)
      have hbx6:w6.heap[w.heap.size]? = some (.cells #[.int .i64 op,.string tx,.int .i64 (n:Int)] 71 (0,0)):=(hbel6.block _ (by omega)).trans HBX5.out
      have d6:w6.cell? ⟨w.heap.size,2,none⟩=some (.int .i64 (n:Int)):=by rw [Lib.cell_of_heap hbx6];rfl
      have f6:w6.frozen? ⟨w.heap.size,2,none⟩=false:=Lib.frozen_of_heap hbx6 2
      have HV6:Hid (y4l K ws pl b e op tx p w (ws.length - u5.length) (n+1) (acc++ns5) (.slice A6 (n3+n5) c6) (w6.setCell ⟨w.heap.size,2,none⟩ (.int .i64 ((n:Int)+1)))):=by
       have hal6:(acc++ns5).length=n3+n5:=by rw [List.length_append,HAL.out,HNL5.out]
       have h7:=HV.out.lt
       refine ⟨by omega,by omega,by omega,by rw [hal6];omega,hown6.kept fun g h1 h2=>Below.heap_setCell _ _ _ _ (by show g≠w.heap.size;omega),(HR5.out.keepB hbel6 (by omega) (by omega) (by omega)).far (by omega) (by omega) (by omega),(HB5.out.trans (But.of (hbel6.mono (by omega)))).setCell (p:=⟨w.heap.size,2,none⟩) (.inr (Nat.le_refl _)) _,?_,HOK.out⟩
       rw [show ((n+1:Nat):Int)=(n:Int)+1 by omega]
       exact k9d hbx6
      have HAL6:Hid ((acc++ns5).length=n3+n5):=(show _=_ by rw [List.length_append,HAL.out,HNL5.out])
      have hnb6:(n:Int)+1≤60001:=by omega
      clear hown6 hgrow6 hbel6 hbx6 HBX5
      go_wp2
      refine ⟨⟨_,n+1,acc++ns5,A6,n3+n5,c6,rfl,HAL6.out,HV6.out⟩,?_⟩
      rw [HV6.out.rd.len_eq,HV.out.rd.len_eq]
      omega
    ·have HH:Hid (Calls Tryz.prog 106 #[.pointer (some ⟨b,0,none⟩),.string ⟨#[44]⟩] wr fun r w'=>r = .returned (.bool false)∧w'=wr):=q7a hV.rd [44] (by simp) hm
     by_cases hm2:ws[q]? = some e
     ·obtain ⟨hqlt,hqe⟩:=List.getElem?_eq_some_iff.1 hm2
      have HDR:Hid (ws.drop q=e::ws.drop (q+1)):=by
       show _=_
       rw [List.drop_eq_getElem_cons hqlt,hqe]
      have HM:Hid (Calls Tryz.prog 108 #[.pointer (some ⟨b,0,none⟩),.string (wbS e)] wr fun r w'=>r = .returned (.tuple #[])∧Ry K ws pl b (q+1) w'∧But wr.heap.size b wr w'):=q5h hV.rd e hm2
      clear hV hal hm hm2 hqe
      go_wp2_with fail
      refine HH.out.mono ?_
      rintro r w4 ⟨rfl,rfl⟩
      go_wp2_with fail
      refine HM.out.mono ?_
      rintro r w5 ⟨rfl,h5,b5⟩
      have hs5:=b5.size
      have hbx5:w5.heap[w.heap.size]? = some (.cells #[.int .i64 op,.string tx,.int .i64 (n:Int)] 71 (0,0)):=(b5.block _ (by omega) (by omega)).trans HV.out.bx
      have d0:w5.cell? ⟨w.heap.size,0,none⟩=some (.int .i64 op):=by rw [Lib.cell_of_heap hbx5];rfl
      have d1:w5.cell? ⟨w.heap.size,1,none⟩=some (.string tx):=by rw [Lib.cell_of_heap hbx5];rfl
      have d2:w5.cell? ⟨w.heap.size,2,none⟩=some (.int .i64 (n:Int)):=by rw [Lib.cell_of_heap hbx5];rfl
      have ho5:q1o (w.heap.size+1) (.slice A3 n3 c3) acc w5:=HV.out.o.but2 b5 (by omega)
      have HX1:Hid (q1o w.heap.size (.slice (some ⟨w5.heap.size,0,none⟩) 1 1) [⟨op,tx,(n:Int)⟩] (w5.alloc (.cells #[.int .i64 op,.string tx,.int .i64 (n:Int)] 71))):=(q1o.one w5 ⟨op,tx,(n:Int)⟩).down (by omega)
      have HT1:Hid (Tds (w5.alloc (.cells #[.int .i64 op,.string tx,.int .i64 (n:Int)] 71)) A3 acc):=ho5.tds.alloc _
      have HN1:Hid (A3=none→n3=0∧c3=0):=ho5.none.2
      have HSZ:Hid ((w5.alloc (.cells #[.int .i64 op,.string tx,.int .i64 (n:Int)] 71)).heap.size=w5.heap.size+1):=World.size_alloc ..
      have HR5:Hid (Ry K ws pl b (q+1) (w5.alloc (.cells #[.int .i64 op,.string tx,.int .i64 (n:Int)] 71))):=h5.keep (q1j w5 _)
      have HB5:Hid (But w.heap.size b w (w5.alloc (.cells #[.int .i64 op,.string tx,.int .i64 (n:Int)] 71))):=(HV.out.bt.trans (b5.mono hwb)).alloc (by omega) _
      have hb5:1+n3≤1000000:=by omega
      have hbr5:b<w5.heap.size:=h5.row.lt
      have hgw5:=h5.gwlt
      have hga5:=h5.galt
      clear h5 b5 hbx5 ho5 HH HM
      go_wp2_with (at_builtin;refine k0w rfl _ _ rfl w.heap.size _ [⟨op,tx,(n:Int)⟩] rfl HX1.out A3 n3 acc HAL.out c3 rfl HT1.out HN1.out (1+n3) rfl hb5 (by rw [HSZ.out];omega) ?_)
      intro A6 c6 w6 hown6 hgrow6
      have hrow6:∀ k',(Value.slice (some ⟨w5.heap.size,0,none⟩) 1 1).ownBlock=some k'→w5.heap.size≤k':=fun k' hk=>by
       simp only [Value.ownBlock,Option.some.injEq] at hk;omega
      have hbel6:Below w5.heap.size (w5.alloc (.cells #[.int .i64 op,.string tx,.int .i64 (n:Int)] 71)) w6:=(Below.refl _ _).grown hgrow6 (by rw [HSZ.out];omega) hrow6
      have HX:Hid (k8e K ws pl b e op tx p w (.returned (.slice A6 (n3+1) c6)) w6):=by
       have hal:=HAL.out
       subst hal
       have hV:=HV.out
       have hdl:(ws.drop (q+1)).length=ws.length - (q+1):=q0e
       have hlt:=hV.lt
       have hnn:=hV.nn
       refine k8e.ok (n:=n) (ns:=acc) (u:=ws.drop (q+1)) ⟨hV.ok _ (by rw [HDR.out];exact .aEnd),?_,?_,?_,HB5.out.trans (But.of (hbel6.mono (by omega)))⟩
       ·rw [show acc.length+1=1+acc.length by omega];exact hown6
       ·rw [hdl,q0e];omega
       ·rw [hdl,show ws.length - (ws.length - (q+1))=q+1 by omega]
        exact HR5.out.keepB hbel6 hbr5 hgw5 hga5
      clear hown6 hgrow6 hbel6 hrow6 HR5 HB5 HX1 HT1
      rw [show 1+n3=n3+1 by omega]
      go_wp2
      go_ret
      exact HX.out
     ·have HM:Hid (Calls Tryz.prog 108 #[.pointer (some ⟨b,0,none⟩),.string (wbS e)] wr fun r w'=>r = .panicked [q4a (pl q)]∧w'=wr):=q6b hV.rd e HE.out hm2
      have HX:Hid (k8e K ws pl b e op tx p w (.panicked [q4a (pl q)]) wr):=by
       have hdl:(ws.drop q).length=ws.length - q:=q0e
       obtain ⟨n',hn'⟩:∃ n',n=n'+1:=⟨n - 1,by have:=hV.n1;omega⟩
       subst hn'
       have h9:=k8e.bad (K:=K) (pl:=pl) (b:=b) (op:=op) (tx:=tx) (w:=w) (hV.ok _ (.aSep (by rw [q1q];exact hm2) (by rw [q1q];exact hm))) hV.bt
       rw [hdl,show ws.length - (ws.length - q)=q by omega] at h9
       exact h9
      clear hV hal hm hm2
      go_wp2_with fail
      refine HH.out.mono ?_
      rintro r w4 ⟨rfl,rfl⟩
      go_wp2_with fail
      refine HM.out.mono ?_
      rintro r w5 ⟨rfl,rfl⟩
      go_wp2
      exact ⟨rfl,HX.out⟩
end
end Go.Proofs.YtchdplceopegoaaGreatDoor
namespace Go.Proofs.YtchdplceopegoaaGreatDoor
open Go Go.RowKit
set_option maxRecDepth 100000
set_option maxHeartbeats 4000000
theorem k3r:∀ (w:Wd) (a:Nat),(∀ b∈w,q4c b=true)→Lib.decFrom a w=some (w.foldl (fun a c=>a*10+(c.toNat - 48)) a)
 | [],a,_=>rfl
 | c::r,a,h=>by
  have hc:=h c (by simp)
  simp only [q4c,Bool.and_eq_true,decide_eq_true_eq] at hc
  have e:Lib.digitVal c=some (c.toNat - 48):=by rw [Lib.digitVal,if_pos hc]
  rw [Lib.decFrom,e]
  exact k3r r _ fun b hb=>h b (by simp [hb])
theorem j7f {w:Wd} (h:∀ b∈w,q4c b=true) (h0:w≠[]):Lib.atoi w=some ((j3j w:Nat):Int):=by
 cases w with
 | nil=>exact absurd rfl h0
 | cons c r=>
  have hc:=h c (by simp)
  simp only [q4c,Bool.and_eq_true,decide_eq_true_eq] at hc
  have e1:(c == 45)=false:=by
   rw [beq_eq_false_iff_ne];rintro rfl;revert hc;decide
  have e2:(c == 43)=false:=by
   rw [beq_eq_false_iff_ne];rintro rfl;revert hc;decide
  have e3:Lib.decNat (c::r)=some (j3j (c::r)):=by
   rw [Lib.decNat]
   exact k3r (c::r) 0 h
  simp only [Lib.atoi,e1,e2,e3]
  rfl
theorem j7e (w:Wd) (h:∀ b∈w,q4c b=true) (h0:w≠[]) (hl:w.length≤6) (W:World):Calls Tryz.prog 210 #[.string (wbS w)] W fun e w'=>e = .returned (.tuple #[.int .i64 ((j3j w:Nat):Int),.nilIface])∧Below W.heap.size W w':=by
 refine (atoi_sh (wbS w) ((j3j w:Nat):Int) (by rw [←q0b];show w.length≤18;omega) (j7f h h0) W).mono ?_
 rintro e w' ⟨rfl,t,rfl⟩
 exact ⟨rfl,Lib.bytesWorld_below _ _ _⟩
section
variable {K:LwK} {ws:List Wd} {pl:Nat→Nat} {b p:Nat} {w:World}
theorem q3n.lev2 {e:Ending} {w':World} (h:q3n K ws pl b .single p w e w'):q3n K ws pl b (.level 2) p w e w':=by
 cases h with
 | ok h=>exact .ok ⟨.lev2 h.pr,h.o,h.n,h.rd,h.bt⟩
 | bad pr bt=>exact .bad (.lev2 pr) bt
theorem j6r {j:Job} {q:Nat} {w':World} (hq:q≤ws.length) (pr:PR j (ws.drop p) (.bad (ws.drop q))) (bt:But w.heap.size b w w'):q3n K ws pl b j p w (.panicked [q4a (pl q)]) w':=by
 have h9:=q3n.bad (K:=K) (pl:=pl) pr bt
 rw [q0e,show ws.length - (ws.length - q)=q by omega] at h9
 exact h9
theorem q3v (h:p<ws.length):ws.drop p=ws[p]::ws.drop (p+1):=List.drop_eq_getElem_cons h
theorem k7z (hS:∀ q,p<q→q≤ws.length→k8h K ws pl b q) (hp:p<ws.length) (hn:nmW ws[p]=true) (h:Ry K ws pl b p w) :
  Calls Tryz.prog 211 #[.pointer (some ⟨b,0,none⟩)] w fun e w'=>q3n K ws pl b .single p w e w':=by
 have HN:Hid (Calls Tryz.prog 145 #[.pointer (some ⟨b,0,none⟩)] w fun e w'=>e = .returned (.string (wbS ws[p]))∧Ry K ws pl b (p+1) w'∧But w.heap.size b w w'):=q7b h hp
 have HD:Hid (ws.drop p=ws[p]::ws.drop (p+1)):=q3v hp
 have hbw:b<w.heap.size:=h.row.lt
 clear h
 by_cases hm:ws[p+1]? = some [40]
 ·obtain ⟨hplt,hpe⟩:=List.getElem?_eq_some_iff.1 hm
  have HD2:Hid (ws.drop (p+1)=[40]::ws.drop (p+2)):=by
   show _=_
   rw [q3v hplt,hpe]
  have HK:Hid (∀ W,Ry K ws pl b (p+2) W→But w.heap.size b w W→Calls Tryz.prog 212 #[.pointer (some ⟨b,0,none⟩),.agg #[.int .i64 3,.string (wbS ws[p]),.int .i64 0],.string ⟨#[41]⟩] W fun r w'=>q3n K ws pl b .single p w r w'):=fun W hW hB=>by
   refine (k0o (e:=[41]) (op:=3) (tx:=wbS ws[p]) (by simp) (by decide) (fun q h1 h2=>hS q (by omega) h2) hW).mono ?_
   intro r w' hG
   have hs:=hB.size
   cases hG with
   | bad pr bt=>exact .bad (by rw [HD.out,HD2.out];exact .sCB hn pr) (hB.trans (bt.mono hs))
   | @ok n ns u A c _ hg=>
    have hl:=hg.n
    rw [q0e] at hl
    refine q3n.ok (m:=0) (ns:=clT ws[p] n::ns) (u:=u) ⟨by rw [HD.out,HD2.out];exact .sCO hn hg.pr,hg.o.down hs,?_,hg.rd,hB.trans (hg.bt.mono hs)⟩
    rw [q0e,List.length_cons];omega
  generalize wbS ws[p]=S at HN HK
  go_enter Tryz.func211,Tryz.ntmps211
  go_wp2_with fail
  refine HN.out.mono ?_
  rintro e w1 ⟨rfl,h1,b1⟩
  have HB1:Hid (But w.heap.size b w w1):=b1
  have hs1:=b1.size
  have HH:Hid (Calls Tryz.prog 106 #[.pointer (some ⟨b,0,none⟩),.string ⟨#[40]⟩] w1 fun e w'=>e = .returned (.bool true)∧Ry K ws pl b (p+2) w'∧But w1.heap.size b w1 w'):=q6a h1 [40] hm
  clear h1 b1 HN hm hpe
  go_wp2_with fail
  refine HH.out.mono ?_
  rintro e w2 ⟨rfl,h2,b2⟩
  have HK2:Hid (Calls Tryz.prog 212 #[.pointer (some ⟨b,0,none⟩),.agg #[.int .i64 3,.string S,.int .i64 0],.string ⟨#[41]⟩] w2 fun r w'=>q3n K ws pl b .single p w r w'):=HK.out w2 h2 (HB1.out.trans (b2.mono hs1))
  clear h2 b2 HH HK
  go_wp2_with fail
  refine HK2.out.mono ?_
  intro r w3 hG
  cases hG with
  | @bad u _ pr bt=>
   have HB:Hid (q3n K ws pl b .single p w (.panicked [q4a (pl (ws.length - u.length))]) w3):=.bad pr bt
   clear pr bt
   go_wp2
   exact ⟨rfl,HB.out⟩
  | @ok m ns u A c _ hg=>
   have HB:Hid (q3n K ws pl b .single p w (.returned (.slice A ns.length c)) w3):=.ok hg
   clear hg
   generalize ns.length=nl at HB ⊢
   go_wp2
   go_ret
   exact HB.out
 ·have HX:Hid (∀ W,Ry K ws pl b (p+1) W→But w.heap.size b w W→q3n K ws pl b .single p w (.returned (.slice (some ⟨W.heap.size,0,none⟩) 1 1)) (W.alloc (.cells #[.int .i64 2,.string (wbS ws[p]),.int .i64 0] 71))):=fun W hW hB=>by
   refine q3n.ok (m:=0) (ns:=[nmT ws[p]]) (u:=ws.drop (p+1)) ⟨by rw [HD.out];exact .sName hn (by rw [q1q];exact hm),(q1o.one W (nmT ws[p])).down hB.size,?_,?_,hB.alloc hB.size _⟩
   ·rw [q0e,q0e];simp only [List.length_cons,List.length_nil];omega
   ·rw [q0e,show ws.length - (ws.length - (p+1))=p+1 by omega]
    exact hW.keep (q1j W _)
  generalize wbS ws[p]=S at HN HX
  go_enter Tryz.func211,Tryz.ntmps211
  go_wp2_with fail
  refine HN.out.mono ?_
  rintro e w1 ⟨rfl,h1,b1⟩
  have HX1:=(show Hid (_) from HX.out w1 h1 b1)
  have HH:Hid (Calls Tryz.prog 106 #[.pointer (some ⟨b,0,none⟩),.string ⟨#[40]⟩] w1 fun e w'=>e = .returned (.bool false)∧w'=w1):=q7a h1 [40] (by simp) hm
  clear h1 b1 HN hm HX
  go_wp2_with fail
  refine HH.out.mono ?_
  rintro e w2 ⟨rfl,rfl⟩
  go_wp2
  go_ret
  exact HX1.out
end
end Go.Proofs.YtchdplceopegoaaGreatDoor
