/- Texts as one: SyT. -/
import Derived.Test.YthjapabokcajhaaGreatDoorPb35
namespace Go.Proofs.YthjapabokcajhaaGreatDoor
open Go Go.RowKit
set_option maxRecDepth 100000
set_option maxHeartbeats 8000000
theorem q0d {ws:List Wd} {p:Nat}:(ws.drop p).length=ws.length - p:=List.length_drop
theorem q1m (ws:List Wd) (p:Nat):(ws.drop p).head? = ws[p]?:=List.head?_drop
theorem q5w {ws:List Wd} {p:Nat} {r:List Wd} (h:r <:+ ws.drop p):ws.drop (ws.length - r.length)=r:=by
 obtain ⟨t,ht⟩:=h.trans (List.drop_suffix p ws)
 have hl:=congrArg List.length ht
 rw [List.length_append] at hl
 have e:ws.length - r.length=t.length:=by omega
 rw [e,←ht,List.drop_left]
structure j6d (K:LwK) (ws:List Wd) (pl:Nat→Nat) (b:Nat) (j:Job) (p:Nat) (w:World) (m:Nat) (ns:List Td) (u:List Wd) (v:Value) (w':World):Prop where
 pr:PR j (ws.drop p) (.ok m ns u)
 o:q1k w.heap.size v ns w'
 n:ns.length+u.length≤(ws.drop p).length
 rd:Ry K ws pl b (ws.length - u.length) w'
 bt:But w.heap.size b w w'
inductive q3a (K:LwK) (ws:List Wd) (pl:Nat→Nat) (b:Nat) (j:Job) (p:Nat) (w:World):Ending→World→Prop where
 | ok {m ns u A c w'} (h:j6d K ws pl b j p w m ns u (.slice A ns.length c) w'):q3a K ws pl b j p w (.returned (.slice A ns.length c)) w'
 | bad {u w'} (pr:PR j (ws.drop p) (.bad u)) (bt:But w.heap.size b w w'):q3a K ws pl b j p w (.panicked [q3t (pl (ws.length - u.length))]) w'
abbrev k7w (K:LwK) (ws:List Wd) (pl:Nat→Nat) (b p:Nat):Prop:=∀ w:World,Ry K ws pl b p w→Calls Tryz.prog 130 #[.pointer (some ⟨b,0,none⟩)] w fun e w'=>q3a K ws pl b (.level 0) p w e w'
abbrev v1h (K:LwK) (ws:List Wd) (pl:Nat→Nat) (b p:Nat):Prop:=∀ w:World,Ry K ws pl b p w→Calls Tryz.prog 179 #[.pointer (some ⟨b,0,none⟩)] w fun e w'=>q3a K ws pl b (.level 1) p w e w'
abbrev v1g (K:LwK) (ws:List Wd) (pl:Nat→Nat) (b p:Nat):Prop:=∀ w:World,Ry K ws pl b p w→Calls Tryz.prog 204 #[.pointer (some ⟨b,0,none⟩)] w fun e w'=>q3a K ws pl b (.level 2) p w e w'
def k2d (w:World) (b:Nat):Nat:=match w.cell? ⟨b,0,none⟩ with
 | some (.slice _ n _)=>n
 | _=>0
section
variable {K:LwK} {ws:List Wd} {pl:Nat→Nat} {b q p:Nat} {w w':World}
theorem Ry.len_eq (h:Ry K ws pl b q w):k2d w b=ws.length+1 - q:=by
 unfold k2d
 rw [h.c0]
theorem q1k.but2 {B:Nat} {v:Value} {xs:List Td} (h:q1k B v xs w) (hb:But w.heap.size b w w') (hB:b<B):q1k B v xs w':=h.kept fun g _ h2=>hb.block g h2 (by omega)
structure z5o (K:LwK) (ws:List Wd) (pl:Nat→Nat) (b k p:Nat) (w:World) (q:Nat) (acc:List Td) (v:Value) (wr:World):Prop where
 lt:p<q
 n:acc.length+(ws.length - q)≤ws.length - p
 o:q1k w.heap.size v acc wr
 rd:Ry K ws pl b q wr
 bt:But w.heap.size b w wr
 ok:∀ r,PR (.loop k acc) (ws.drop q) r→PR (.level k) (ws.drop p) r
theorem k3s {k m:Nat} {ns:List Td} {u:List Wd} {v:Value} {w1:World} (hk:k<2) (h:j6d K ws pl b (.level (k+1)) p w m ns u v w1):z5o K ws pl b k p w (ws.length - u.length) ns v w1:=by
 have hsf:=q9j h.pr
 have h1:ws.drop (ws.length - u.length)=u:=q5w hsf.1
 have hn:=h.n
 have h2:=hsf.2 m ns u rfl
 rw [q0d] at h2 hn
 simp only [Job.eats] at h2
 exact ⟨by omega,by omega,h.o,h.rd,h.bt,fun r hr=>by rw [h1] at hr;exact .levO hk h.pr hr⟩
theorem j2c {k q m:Nat} {acc ns:List Td} {u:List Wd} {v v4 v5:Value} {wr w3 w4 w5:World} (hV:z5o K ws pl b k p w q acc v wr) (hq:q<ws.length) (hd:ws.drop q=sgn k::ws.drop (q+1)) (bt3:But w.heap.size b w w3) (hs3:w.heap.size≤w3.heap.size)
  (hG:j6d K ws pl b (.level (k+1)) (q+1) w3 m ns u v4 w4) (b5:Below w4.heap.size w4 w5) (ho:q1k w.heap.size v5 (sgT k::(acc++ns)) w5) :
  z5o K ws pl b k p w (ws.length - u.length) (sgT k::(acc++ns)) v5 w5∧q<ws.length - u.length:=by
 have hsf:=q9j hG.pr
 have h1:ws.drop (ws.length - u.length)=u:=q5w hsf.1
 have hn:=hG.n
 have h2:=hsf.2 m ns u rfl
 rw [q0d] at hn h2
 simp only [Job.eats] at h2
 have hVn:=hV.n
 have hVp:=hV.lt
 have hal:(sgT k::(acc++ns)).length=1+acc.length+ns.length:=by simp;omega
 have hs4:=hG.bt.size
 exact ⟨⟨by omega,by rw [hal];omega,ho,hG.rd.keep b5,(bt3.trans (hG.bt.mono hs3)).trans (But.of (b5.mono (by omega))),fun r hr=>by rw [h1] at hr;exact hV.ok _ (by rw [hd];exact .lopO hG.pr hr)⟩,by omega⟩
end
theorem v1a {K:LwK} {ws:List Wd} {pl:Nat→Nat} {b p:Nat} (hL:∀ q,p≤q→q≤ws.length→v1h K ws pl b q) (w:World) (h:Ry K ws pl b p w) :
  Calls Tryz.prog 178 #[.pointer (some ⟨b,0,none⟩),.string ⟨#[43]⟩,.int .i64 5,.func (.func 179) #[.pointer (some ⟨b,0,none⟩)] #[]] w fun e w'=>q3a K ws pl b (.level 0) p w e w':=by
 have HL:Hid (∀ q,p≤q→q≤ws.length→v1h K ws pl b q):=hL
 have HL0:Hid (Calls Tryz.prog 179 #[.pointer (some ⟨b,0,none⟩)] w fun e w'=>q3a K ws pl b (.level (0+1)) p w e w'):=hL p (Nat.le_refl _) h.le w h
 have hbw:b<w.heap.size:=h.row.lt
 have hle:=h.le
 have hfew:=h.few
 clear h hL
 go_enter Tryz.func178,Tryz.ntmps178
 go_wp2_with fail
 refine HL0.out.mono ?_
 intro e w1 hG
 cases hG with
 | bad pr bt=>
  have HB:Hid (q3a K ws pl b (.level 0) p w (.panicked [q3t (pl (ws.length - _))]) w1):=.bad (.levB (by omega) pr) bt
  clear pr bt
  go_wp2
  exact ⟨rfl,HB.out⟩
 | @ok m ns u A c _ hg=>
  have HV0:Hid (z5o K ws pl b 0 p w (ws.length - u.length) ns (.slice A ns.length c) w1):=k3s (by omega) hg
  clear hg HL0
  generalize hnl:ns.length=nl at HV0
  have HNL:Hid (ns.length=nl):=hnl
  clear hnl
  go_wp2_with fail
  go_loopw [9] (fun x wr=>∃ (q:Nat) (acc:List Td) (A':Option Addr) (n' c':Nat),x = .slice A' n' c'∧acc.length=n'∧z5o K ws pl b 0 p w q acc (.slice A' n' c') wr) (fun _ wr=>k2d wr b)
  case atStart=>exact ⟨_,ns,A,nl,c,rfl,HNL.out,HV0.out⟩
  case round=>
   obtain ⟨q,acc,A1,n1,c1,rfl,hal,hV⟩:=hrel
   have HV:=(show Hid (_) from hV)
   have HAL:Hid (acc.length=n1):=hal
   have hqle:=hV.rd.le
   have hn:=hV.n
   have hwb:=hV.bt.size
   rw [hal] at hn
   by_cases hmr:ws[q]? = some (sgn 0)
   ·obtain ⟨hqlt,hqe⟩:=List.getElem?_eq_some_iff.1 hmr
    have HDR:Hid (ws.drop q=sgn 0::ws.drop (q+1)):=by
     show _=_
     rw [List.drop_eq_getElem_cons hqlt,hqe]
    have HH:Hid (Calls Tryz.prog 127 #[.pointer (some ⟨b,0,none⟩),.string ⟨#[43]⟩] wr fun e w'=>e = .returned (.bool true)∧Ry K ws pl b (q+1) w'∧But wr.heap.size b wr w'):=q4s hV.rd (sgn 0) hmr
    clear hV hal hmr hqe
    go_wp2_with fail
    refine HH.out.mono ?_
    rintro e w2 ⟨rfl,h2,b2⟩
    have HB2:Hid (But wr.heap.size b wr w2):=b2
    have hs2:=b2.size
    have hb2:b<w2.heap.size:=h2.row.lt
    have HPC:Hid (∃ w3,w2.alloc (.cells #[.int .i64 5,.string ⟨#[]⟩,.int .i64 0] 47)=w3∧Calls Tryz.prog 179 #[.pointer (some ⟨b,0,none⟩)] w3 (fun e w'=>q3a K ws pl b (.level (0+1)) (q+1) w3 e w')∧q1k w2.heap.size (.slice (some ⟨w2.heap.size,0,none⟩) 1 1) [sgT 0] w3∧q1k w.heap.size (.slice A1 n1 c1) acc w3∧But w.heap.size b w w3∧w3.heap.size=w2.heap.size+1):=by
     refine ⟨_,rfl,HL.out (q+1) (by have:=HV.out.lt;omega) (by omega) _ (h2.keep (q3e w2 _)),q1k.one w2 (sgT 0),?_,(HV.out.bt.trans (HB2.out.mono hwb)).alloc (by omega) _,World.size_alloc ..⟩
     have ho:=HV.out.o.but2 HB2.out hbw
     exact ho.kept fun g _ h5=>Lib.alloc_old w2 _ g h5
    clear h2 b2 HH
    go_wp2_with fail
    obtain ⟨w3,hw3,hcal,ht0,ho1,hbt,hsz3⟩:=HPC.out
    rw [hw3]
    have HT0:Hid (q1k w2.heap.size (.slice (some ⟨w2.heap.size,0,none⟩) 1 1) [sgT 0] w3):=ht0
    have HO1:Hid (q1k w.heap.size (.slice A1 n1 c1) acc w3):=ho1
    have HBT:Hid (But w.heap.size b w w3):=hbt
    clear ht0 ho1 hbt HPC hw3
    refine hcal.mono ?_
    clear hcal
    intro e w4 hG
    cases hG with
    | @bad u4 _ pr bt=>
     have HB:Hid (q3a K ws pl b (.level 0) p w (.panicked [q3t (pl (ws.length - u4.length))]) w4):=.bad (HV.out.ok _ (by rw [HDR.out];exact .lopB pr)) (HBT.out.trans (bt.mono (by omega)))
     clear pr bt
     go_wp2
     exact ⟨rfl,HB.out⟩
    | @ok m4 ns4 u4 A4 c4 _ hg=>
     have HG:=(show Hid (_) from hg)
     have hs4:=hg.bt.size
     have hn4:=hg.n
     rw [q0d] at hn4
     have HTW:Hid (q1k w2.heap.size (.slice (some ⟨w2.heap.size,0,none⟩) 1 1) [sgT 0] w4):=HT0.out.but2 hg.bt hb2
     have HO4:Hid (q1k w.heap.size (.slice A1 n1 c1) acc w4):=HO1.out.but2 hg.bt hbw
     have HP5:Hid (∀ W,Below w4.heap.size w4 W→W.heap[w4.heap.size]? = some (.cells #[.slice (some ⟨w2.heap.size,0,none⟩) 1 1,.slice A1 n1 c1,.slice A4 ns4.length c4] 22 (0,0))→v3m W (some ⟨w4.heap.size,0,none⟩) [[sgT 0],acc,ns4]):=by
      intro W hW hk
      have hlt:w4.heap.size<W.heap.size:=(Array.getElem?_eq_some_iff.1 hk).1
      have hcell:∀ i,W.cell? ⟨w4.heap.size,i,none⟩=#[Value.slice (some ⟨w2.heap.size,0,none⟩) 1 1,.slice A1 n1 c1,.slice A4 ns4.length c4][i]?:=fun i=>by simp [World.cell?,hk]
      intro i hi
      have h3:i=0∨i=1∨i=2:=by simp at hi;omega
      have e1:=z3c HO4.out
      have e2:=z3c HG.out.o
      rcases h3 with rfl | rfl | rfl
      ·exact ⟨w4.heap.size,0,some ⟨w2.heap.size,0,none⟩,1,rfl,hlt,hcell 0,Nat.le_refl _,HTW.out.tds.below hW,fun e=>by cases e⟩
      ·exact ⟨w4.heap.size,0,A1,c1,rfl,hlt,by rw [show (([[sgT 0],acc,ns4]:List (List Td))[1]).length=n1 from HAL.out];exact hcell 1,e1.2.1,e1.2.2.below hW,fun e=>by
        have:=HO4.out.none.2 e
        exact ⟨by show acc.length=0;rw [HAL.out];exact this.1,this.2⟩⟩
      ·exact ⟨w4.heap.size,0,A4,c4,rfl,hlt,hcell 2,e2.2.1,e2.2.2.below hW,fun e=>HG.out.o.none.2 e⟩
     have hfl:[[sgT 0],acc,ns4].flatten=sgT 0::(acc++ns4):=by simp
     have hfn:(sgT 0::(acc++ns4)).length=1+n1+ns4.length:=by rw [List.length_cons,List.length_append,HAL.out];omega
     have HCC:Hid (∀ W,Below w4.heap.size w4 W→W.heap[w4.heap.size]? = some (.cells #[.slice (some ⟨w2.heap.size,0,none⟩) 1 1,.slice A1 n1 c1,.slice A4 ns4.length c4] 22 (0,0))→Calls Tryz.prog 203 #[.slice (some ⟨w4.heap.size,0,none⟩) 3 3] W fun e w'=>∃ A c',e = .returned (.slice A (1+n1+ns4.length) c')∧z5o K ws pl b 0 p w (ws.length - u4.length) (sgT 0::(acc++ns4)) (.slice A (1+n1+ns4.length) c') w'∧q<ws.length - u4.length):=by
      intro W hW hk
      have h9:=z3v [[sgT 0],acc,ns4] (some ⟨w4.heap.size,0,none⟩) 3 W (HP5.out W hW hk) (by rw [hfl,hfn];omega) (by rw [hfl,hfn];omega) (by simp)
      rw [hfl,hfn] at h9
      refine h9.mono ?_
      rintro e w6 ⟨A6,c6,rfl,ho6,hb6⟩
      have hsW:=hW.size
      exact ⟨A6,c6,rfl,j2c HV.out hqlt HDR.out HBT.out (by omega) HG.out (hW.trans (hb6.mono hsW)) (ho6.down (by omega))⟩
     have HFN:=(show Hid (_=_) from hfn)
     clear hg hfl hfn hn4
     generalize ns4.length=n4 at HCC HFN ⊢
     go_wp2_with fail
     refine (HCC.out _ (q3e w4 _) (heap_alloc_new w4 _)).mono ?_
     rintro e w6 ⟨A6,c6,rfl,h6,hq6⟩
     have H6:=(show Hid (_) from And.intro h6 hq6)
     clear h6 hq6
     go_wp2
     refine ⟨⟨_,_,A6,_,c6,rfl,HFN.out,H6.out.1⟩,?_⟩
     rw [H6.out.1.rd.len_eq,HV.out.rd.len_eq]
     have:=H6.out.2
     omega
   ·have HNE:Hid ((ws.drop q).head?≠some (sgn 0)):=by
     show _≠_
     rw [q1m];exact hmr
    have HH:Hid (Calls Tryz.prog 127 #[.pointer (some ⟨b,0,none⟩),.string ⟨#[43]⟩] wr fun e w'=>e = .returned (.bool false)∧w'=wr):=q6e hV.rd (sgn 0) (by decide) hmr
    clear hV hal hmr
    go_wp2_with fail
    refine HH.out.mono ?_
    rintro e w2 ⟨rfl,rfl⟩
    go_wp2
    go_ret
    have hV:=HV.out
    obtain rfl:=HAL.out
    have hdl:(ws.drop q).length=ws.length - q:=q0d
    refine .ok (m:=0) (u:=ws.drop q) ⟨hV.ok _ (.lopE HNE.out),hV.o,?_,?_,hV.bt⟩
    ·rw [hdl,q0d];have:=hV.n;omega
    ·rw [hdl,show ws.length - (ws.length - q)=q by omega]
     exact hV.rd
theorem v1b {K:LwK} {ws:List Wd} {pl:Nat→Nat} {b p:Nat} (hL:∀ q,p≤q→q≤ws.length→v1g K ws pl b q) (w:World) (h:Ry K ws pl b p w) :
  Calls Tryz.prog 178 #[.pointer (some ⟨b,0,none⟩),.string ⟨#[42]⟩,.int .i64 6,.func (.func 204) #[.pointer (some ⟨b,0,none⟩)] #[]] w fun e w'=>q3a K ws pl b (.level 1) p w e w':=by
 have HL:Hid (∀ q,p≤q→q≤ws.length→v1g K ws pl b q):=hL
 have HL0:Hid (Calls Tryz.prog 204 #[.pointer (some ⟨b,0,none⟩)] w fun e w'=>q3a K ws pl b (.level (1+1)) p w e w'):=hL p (Nat.le_refl _) h.le w h
 have hbw:b<w.heap.size:=h.row.lt
 have hle:=h.le
 have hfew:=h.few
 clear h hL
 go_enter Tryz.func178,Tryz.ntmps178
 go_wp2_with fail
 refine HL0.out.mono ?_
 intro e w1 hG
 cases hG with
 | bad pr bt=>
  have HB:Hid (q3a K ws pl b (.level 1) p w (.panicked [q3t (pl (ws.length - _))]) w1):=.bad (.levB (by omega) pr) bt
  clear pr bt
  go_wp2
  exact ⟨rfl,HB.out⟩
 | @ok m ns u A c _ hg=>
  have HV0:Hid (z5o K ws pl b 1 p w (ws.length - u.length) ns (.slice A ns.length c) w1):=k3s (by omega) hg
  clear hg HL0
  generalize hnl:ns.length=nl at HV0
  have HNL:Hid (ns.length=nl):=hnl
  clear hnl
  go_wp2_with fail
  go_loopw [9] (fun x wr=>∃ (q:Nat) (acc:List Td) (A':Option Addr) (n' c':Nat),x = .slice A' n' c'∧acc.length=n'∧z5o K ws pl b 1 p w q acc (.slice A' n' c') wr) (fun _ wr=>k2d wr b)
  case atStart=>exact ⟨_,ns,A,nl,c,rfl,HNL.out,HV0.out⟩
  case round=>
   obtain ⟨q,acc,A1,n1,c1,rfl,hal,hV⟩:=hrel
   have HV:=(show Hid (_) from hV)
   have HAL:Hid (acc.length=n1):=hal
   have hqle:=hV.rd.le
   have hn:=hV.n
   have hwb:=hV.bt.size
   rw [hal] at hn
   by_cases hmr:ws[q]? = some (sgn 1)
   ·obtain ⟨hqlt,hqe⟩:=List.getElem?_eq_some_iff.1 hmr
    have HDR:Hid (ws.drop q=sgn 1::ws.drop (q+1)):=by
     show _=_
     rw [List.drop_eq_getElem_cons hqlt,hqe]
    have HH:Hid (Calls Tryz.prog 127 #[.pointer (some ⟨b,0,none⟩),.string ⟨#[42]⟩] wr fun e w'=>e = .returned (.bool true)∧Ry K ws pl b (q+1) w'∧But wr.heap.size b wr w'):=q4s hV.rd (sgn 1) hmr
    clear hV hal hmr hqe
    go_wp2_with fail
    refine HH.out.mono ?_
    rintro e w2 ⟨rfl,h2,b2⟩
    have HB2:Hid (But wr.heap.size b wr w2):=b2
    have hs2:=b2.size
    have hb2:b<w2.heap.size:=h2.row.lt
    have HPC:Hid (∃ w3,w2.alloc (.cells #[.int .i64 6,.string ⟨#[]⟩,.int .i64 0] 47)=w3∧Calls Tryz.prog 204 #[.pointer (some ⟨b,0,none⟩)] w3 (fun e w'=>q3a K ws pl b (.level (1+1)) (q+1) w3 e w')∧q1k w2.heap.size (.slice (some ⟨w2.heap.size,0,none⟩) 1 1) [sgT 1] w3∧q1k w.heap.size (.slice A1 n1 c1) acc w3∧But w.heap.size b w w3∧w3.heap.size=w2.heap.size+1):=by
     refine ⟨_,rfl,HL.out (q+1) (by have:=HV.out.lt;omega) (by omega) _ (h2.keep (q3e w2 _)),q1k.one w2 (sgT 1),?_,(HV.out.bt.trans (HB2.out.mono hwb)).alloc (by omega) _,World.size_alloc ..⟩
     have ho:=HV.out.o.but2 HB2.out hbw
     exact ho.kept fun g _ h5=>Lib.alloc_old w2 _ g h5
    clear h2 b2 HH
    go_wp2_with fail
    obtain ⟨w3,hw3,hcal,ht0,ho1,hbt,hsz3⟩:=HPC.out
    rw [hw3]
    have HT0:Hid (q1k w2.heap.size (.slice (some ⟨w2.heap.size,0,none⟩) 1 1) [sgT 1] w3):=ht0
    have HO1:Hid (q1k w.heap.size (.slice A1 n1 c1) acc w3):=ho1
    have HBT:Hid (But w.heap.size b w w3):=hbt
    clear ht0 ho1 hbt HPC hw3
    refine hcal.mono ?_
    clear hcal
    intro e w4 hG
    cases hG with
    | @bad u4 _ pr bt=>
     have HB:Hid (q3a K ws pl b (.level 1) p w (.panicked [q3t (pl (ws.length - u4.length))]) w4):=.bad (HV.out.ok _ (by rw [HDR.out];exact .lopB pr)) (HBT.out.trans (bt.mono (by omega)))
     clear pr bt
     go_wp2
     exact ⟨rfl,HB.out⟩
    | @ok m4 ns4 u4 A4 c4 _ hg=>
     have HG:=(show Hid (_) from hg)
     have hs4:=hg.bt.size
     have hn4:=hg.n
     rw [q0d] at hn4
     have HTW:Hid (q1k w2.heap.size (.slice (some ⟨w2.heap.size,0,none⟩) 1 1) [sgT 1] w4):=HT0.out.but2 hg.bt hb2
     have HO4:Hid (q1k w.heap.size (.slice A1 n1 c1) acc w4):=HO1.out.but2 hg.bt hbw
     have HP5:Hid (∀ W,Below w4.heap.size w4 W→W.heap[w4.heap.size]? = some (.cells #[.slice (some ⟨w2.heap.size,0,none⟩) 1 1,.slice A1 n1 c1,.slice A4 ns4.length c4] 22 (0,0))→v3m W (some ⟨w4.heap.size,0,none⟩) [[sgT 1],acc,ns4]):=by
      intro W hW hk
      have hlt:w4.heap.size<W.heap.size:=(Array.getElem?_eq_some_iff.1 hk).1
      have hcell:∀ i,W.cell? ⟨w4.heap.size,i,none⟩=#[Value.slice (some ⟨w2.heap.size,0,none⟩) 1 1,.slice A1 n1 c1,.slice A4 ns4.length c4][i]?:=fun i=>by simp [World.cell?,hk]
      intro i hi
      have h3:i=0∨i=1∨i=2:=by simp at hi;omega
      have e1:=z3c HO4.out
      have e2:=z3c HG.out.o
      rcases h3 with rfl | rfl | rfl
      ·exact ⟨w4.heap.size,0,some ⟨w2.heap.size,0,none⟩,1,rfl,hlt,hcell 0,Nat.le_refl _,HTW.out.tds.below hW,fun e=>by cases e⟩
      ·exact ⟨w4.heap.size,0,A1,c1,rfl,hlt,by rw [show (([[sgT 1],acc,ns4]:List (List Td))[1]).length=n1 from HAL.out];exact hcell 1,e1.2.1,e1.2.2.below hW,fun e=>by
        have:=HO4.out.none.2 e
        exact ⟨by show acc.length=0;rw [HAL.out];exact this.1,this.2⟩⟩
      ·exact ⟨w4.heap.size,0,A4,c4,rfl,hlt,hcell 2,e2.2.1,e2.2.2.below hW,fun e=>HG.out.o.none.2 e⟩
     have hfl:[[sgT 1],acc,ns4].flatten=sgT 1::(acc++ns4):=by simp
     have hfn:(sgT 1::(acc++ns4)).length=1+n1+ns4.length:=by rw [List.length_cons,List.length_append,HAL.out];omega
     have HCC:Hid (∀ W,Below w4.heap.size w4 W→W.heap[w4.heap.size]? = some (.cells #[.slice (some ⟨w2.heap.size,0,none⟩) 1 1,.slice A1 n1 c1,.slice A4 ns4.length c4] 22 (0,0))→Calls Tryz.prog 203 #[.slice (some ⟨w4.heap.size,0,none⟩) 3 3] W fun e w'=>∃ A c',e = .returned (.slice A (1+n1+ns4.length) c')∧z5o K ws pl b 1 p w (ws.length - u4.length) (sgT 1::(acc++ns4)) (.slice A (1+n1+ns4.length) c') w'∧q<ws.length - u4.length):=by
      intro W hW hk
      have h9:=z3v [[sgT 1],acc,ns4] (some ⟨w4.heap.size,0,none⟩) 3 W (HP5.out W hW hk) (by rw [hfl,hfn];omega) (by rw [hfl,hfn];omega) (by simp)
      rw [hfl,hfn] at h9
      refine h9.mono ?_
      rintro e w6 ⟨A6,c6,rfl,ho6,hb6⟩
      have hsW:=hW.size
      exact ⟨A6,c6,rfl,j2c HV.out hqlt HDR.out HBT.out (by omega) HG.out (hW.trans (hb6.mono hsW)) (ho6.down (by omega))⟩
     have HFN:=(show Hid (_=_) from hfn)
     clear hg hfl hfn hn4
     generalize ns4.length=n4 at HCC HFN ⊢
     go_wp2_with fail
     refine (HCC.out _ (q3e w4 _) (heap_alloc_new w4 _)).mono ?_
     rintro e w6 ⟨A6,c6,rfl,h6,hq6⟩
     have H6:=(show Hid (_) from And.intro h6 hq6)
     clear h6 hq6
     go_wp2
     refine ⟨⟨_,_,A6,_,c6,rfl,HFN.out,H6.out.1⟩,?_⟩
     rw [H6.out.1.rd.len_eq,HV.out.rd.len_eq]
     have:=H6.out.2
     omega
   ·have HNE:Hid ((ws.drop q).head?≠some (sgn 1)):=by
     show _≠_
     rw [q1m];exact hmr
    have HH:Hid (Calls Tryz.prog 127 #[.pointer (some ⟨b,0,none⟩),.string ⟨#[42]⟩] wr fun e w'=>e = .returned (.bool false)∧w'=wr):=q6e hV.rd (sgn 1) (by decide) hmr
    clear hV hal hmr
    go_wp2_with fail
    refine HH.out.mono ?_
    rintro e w2 ⟨rfl,rfl⟩
    go_wp2
    go_ret
    have hV:=HV.out
    obtain rfl:=HAL.out
    have hdl:(ws.drop q).length=ws.length - q:=q0d
    refine .ok (m:=0) (u:=ws.drop q) ⟨hV.ok _ (.lopE HNE.out),hV.o,?_,?_,hV.bt⟩
    ·rw [hdl,q0d];have:=hV.n;omega
    ·rw [hdl,show ws.length - (ws.length - q)=q by omega]
     exact hV.rd
theorem j5y {K:LwK} {ws:List Wd} {pl:Nat→Nat} {b p:Nat} (hL:∀ q,p≤q→q≤ws.length→v1h K ws pl b q):k7w K ws pl b p:=by
 intro w h
 have hmf:∀ (fn:Fn) (first cap:Array Value) (w:World),(Instr.makeFunc fn first cap).run Tryz.prog w = .ok (.func fn first cap) w:=fun _ _ _ _=>rfl
 have HC:Hid (Calls Tryz.prog 178 #[.pointer (some ⟨b,0,none⟩),.string ⟨#[43]⟩,.int .i64 5,.func (.func 179) #[.pointer (some ⟨b,0,none⟩)] #[]] w fun e w'=>q3a K ws pl b (.level 0) p w e w'):=v1a hL w h
 clear h hL
 go_enter Tryz.func130,Tryz.ntmps130
 go_wp2_with fail
 refine HC.out.mono ?_
 intro e w1 hG
 cases hG with
 | @bad u _ pr bt=>
  have HB:Hid (q3a K ws pl b (.level 0) p w (.panicked [q3t (pl (ws.length - u.length))]) w1):=.bad pr bt
  clear pr bt
  go_wp2
  exact ⟨rfl,HB.out⟩
 | @ok m ns u A c _ hg=>
  have HB:Hid (q3a K ws pl b (.level 0) p w (.returned (.slice A ns.length c)) w1):=.ok hg
  clear hg
  generalize ns.length=nl at HB ⊢
  go_wp2
  go_ret
  exact HB.out
theorem k0i {K:LwK} {ws:List Wd} {pl:Nat→Nat} {b p:Nat} (hL:∀ q,p≤q→q≤ws.length→v1g K ws pl b q):v1h K ws pl b p:=by
 intro w h
 have hmf:∀ (fn:Fn) (first cap:Array Value) (w:World),(Instr.makeFunc fn first cap).run Tryz.prog w = .ok (.func fn first cap) w:=fun _ _ _ _=>rfl
 have HC:Hid (Calls Tryz.prog 178 #[.pointer (some ⟨b,0,none⟩),.string ⟨#[42]⟩,.int .i64 6,.func (.func 204) #[.pointer (some ⟨b,0,none⟩)] #[]] w fun e w'=>q3a K ws pl b (.level 1) p w e w'):=v1b hL w h
 clear h hL
 go_enter Tryz.func179,Tryz.ntmps179
 go_wp2_with fail
 refine HC.out.mono ?_
 intro e w1 hG
 cases hG with
 | @bad u _ pr bt=>
  have HB:Hid (q3a K ws pl b (.level 1) p w (.panicked [q3t (pl (ws.length - u.length))]) w1):=.bad pr bt
  clear pr bt
  go_wp2
  exact ⟨rfl,HB.out⟩
 | @ok m ns u A c _ hg=>
  have HB:Hid (q3a K ws pl b (.level 1) p w (.returned (.slice A ns.length c)) w1):=.ok hg
  clear hg
  generalize ns.length=nl at HB ⊢
  go_wp2
  go_ret
  exact HB.out
end Go.Proofs.YthjapabokcajhaaGreatDoor
