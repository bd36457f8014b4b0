/- Texts as one: SyZ. -/
/- Texts as one: SyK. -/
import Derived.Test.YtchdplceopegoaaGreatDoorPw40
import Derived.RegionDies
import Derived.Recover
namespace Go.Proofs.YtchdplceopegoaaGreatDoor
open Go Go.RowKit
set_option maxRecDepth 100000
set_option maxHeartbeats 8000000
section
variable {K:LwK} {ws:List Wd} {pl:Nat→Nat} {b p q:Nat} {w:World}
theorem j9t (htk:∀ x∈ws,q3i x) (hq:q<ws.length) (hn:nmW ws[q]=true) (h:Ry K ws pl b q w) :
  Calls Tryz.prog 107 #[.pointer (some ⟨b,0,none⟩)] w fun e w'=>e = .returned (.string (wbS ws[q]))∧Ry K ws pl b (q+1) w'∧But w.heap.size b w w':=by
 obtain ⟨L1,_,L3⟩:=j9r h (q2w hq) (.inr (htk _ (List.getElem_mem hq)))
 rw [hn] at L3
 have HL1:=(show Hid (Calls _ _ _ _ _) from L1)
 have HL3:=(show Hid (Calls _ _ _ _ _) from L3)
 have HN:Hid (Calls Tryz.prog 145 #[.pointer (some ⟨b,0,none⟩)] w fun e w'=>e = .returned (.string (wbS ws[q]))∧Ry K ws pl b (q+1) w'∧But w.heap.size b w w'):=q6l h hq
 generalize wbS ws[q]=S at HL1 HL3 HN ⊢
 clear L1 L3 h hn
 go_enter Tryz.func107,Tryz.ntmps107
 go_wp2_with fail
 refine HL1.out.mono ?_
 rintro e w1 ⟨rfl,rfl⟩
 go_wp2_with fail
 refine HL3.out.mono ?_
 rintro e w1 ⟨rfl,rfl⟩
 go_wp2_with fail
 refine HN.out.mono ?_
 rintro e w1 ⟨rfl,h1,b1⟩
 have K1:=(show Hid (_) from And.intro h1 b1)
 clear h1 b1
 go_wp2
 go_ret
 exact ⟨rfl,K1.out⟩
theorem j9s (htk:∀ x∈ws,q3i x) (hn:∀ x,ws[q]? = some x→nmW x=false) (h:Ry K ws pl b q w) :
  Calls Tryz.prog 107 #[.pointer (some ⟨b,0,none⟩)] w fun e w'=>e = .panicked [q3t (pl q)]∧w=w':=by
 have hX:(ws.getD q [])=[]∨q3i (ws.getD q []):=by
  by_cases hq:q<ws.length
  ·rw [q2w hq];exact .inr (htk _ (List.getElem_mem hq))
  ·exact .inl (q5e (by omega))
 have hnm:nmW (ws.getD q [])=false:=by
  by_cases hq:q<ws.length
  ·rw [q2w hq];exact hn _ (List.getElem?_eq_getElem hq)
  ·rw [q5e (by omega)];decide
 obtain ⟨L1,_,L3⟩:=j9r h rfl hX
 rw [hnm] at L3
 have HL1:=(show Hid (Calls _ _ _ _ _) from L1)
 have HL3:=(show Hid (Calls _ _ _ _ _) from L3)
 have HF:Hid (Calls Tryz.prog 147 #[.pointer (some ⟨b,0,none⟩)] w fun e w'=>e = .panicked [q3t (pl q)]∧w=w'):=(z9o h).mono fun _ _ h=>⟨h.1,h.2.symm⟩
 generalize wbS (ws.getD q [])=S at HL1 HL3
 generalize pl q=pp at HF ⊢
 clear L1 L3 h hn hX hnm
 go_enter Tryz.func107,Tryz.ntmps107
 go_wp2_with fail
 refine HL1.out.mono ?_
 rintro e w1 ⟨rfl,rfl⟩
 go_wp2_with fail
 refine HL3.out.mono ?_
 rintro e w1 ⟨rfl,rfl⟩
 go_wp2_with fail
 refine HF.out.mono ?_
 rintro e w1 ⟨rfl,rfl⟩
 go_wp2
 exact ⟨rfl,rfl,rfl⟩
theorem j2x (h:k7a K ws pl b q):(∃ m ns u,PR (.level 0) (ws.drop q) (.ok m ns u)∧∀ w:World,Ry K ws pl b q w→Calls Tryz.prog 109 #[.pointer (some ⟨b,0,none⟩)] w fun e w'=>∃ A c,e = .returned (.slice A ns.length c)∧j5a K ws pl b (.level 0) q w m ns u (.slice A ns.length c) w')∨
  (∀ w:World,Ry K ws pl b q w→Calls Tryz.prog 109 #[.pointer (some ⟨b,0,none⟩)] w fun e w'=>∃ u,e = .panicked [q3t (pl (ws.length - u.length))]∧PR (.level 0) (ws.drop q) (.bad u)∧But w.heap.size b w w'):=by
 by_cases hx:∃ m ns u,PR (.level 0) (ws.drop q) (.ok m ns u)
 ·obtain ⟨m,ns,u,hp⟩:=hx
  refine .inl ⟨m,ns,u,hp,fun w hw=>(h w hw).mono fun e w' hG=>?_⟩
  cases hG with
  | bad pr _=>cases q2h hp pr
  | @ok m2 ns2 u2 A c _ hg=>
   cases q2h hp hg.pr
   exact ⟨A,c,rfl,hg⟩
 ·refine .inr fun w hw=>(h w hw).mono fun e w' hG=>?_
  cases hG with
  | @bad u _ pr bt=>exact ⟨u,rfl,pr,bt⟩
  | ok hg=>exact absurd ⟨_,_,_,hg.pr⟩ hx
structure z6x (K:LwK) (ws:List Wd) (pl:Nat→Nat) (b:Nat) (w:World) (q:Nat) (x:Td) (wc:World):Prop where
 rd:Ry K ws pl b q wc
 bt:But w.heap.size b w wc
 bx:wc.heap[w.heap.size]? = some (.cells #[.int .i64 x.op,.string x.tx,.int .i64 x.n] 71 (0,0))
 gw:K.gw<w.heap.size
 ga:K.ga<w.heap.size
 lb:b<w.heap.size
theorem z6x.but {x:Td} {wc w':World} {q':Nat} (h:z6x K ws pl b w q x wc) (hb:But wc.heap.size b wc w') (hr:Ry K ws pl b q' w'):z6x K ws pl b w q' x w':=by
 have hlt:=(Array.getElem?_eq_some_iff.1 h.bx).1
 have:=h.lb
 exact ⟨hr,h.bt.trans (hb.mono (by omega)),(hb.block _ hlt (by omega)).trans h.bx,h.gw,h.ga,h.lb⟩
theorem z6x.put {x:Td} {wc:World} (h:z6x K ws pl b w q x wc) (y:Td):z6x K ws pl b w q y (((wc.setCell ⟨w.heap.size,0,none⟩ (.int .i64 y.op)).setCell ⟨w.heap.size,1,none⟩ (.string y.tx)).setCell ⟨w.heap.size,2,none⟩ (.int .i64 y.n)):=by
 have h1:=h.gw
 have h2:=h.ga
 have h3:=h.lb
 refine ⟨((h.rd.far (by omega) (by omega) (by omega)).far (by omega) (by omega) (by omega)).far (by omega) (by omega) (by omega),((h.bt.setCell (p:=⟨w.heap.size,0,none⟩) (.inr (Nat.le_refl _)) _).setCell (p:=⟨w.heap.size,1,none⟩) (.inr (Nat.le_refl _)) _).setCell (p:=⟨w.heap.size,2,none⟩) (.inr (Nat.le_refl _)) _,?_,h1,h2,h3⟩
 simp [World.setCell,Array.getElem?_modify,h.bx]
structure v1t (K:LwK) (ws:List Wd) (pl:Nat→Nat) (b p:Nat) (w:World) (q:Nat) (x:Td) (wc:World):Prop where
 le:p≤q
 rd:Ry K ws pl b q wc
 bt:But w.heap.size b w wc
 bx:wc.heap[w.heap.size]? = some (.cells #[.int .i64 x.op,.string x.tx,.int .i64 x.n] 71 (0,0))
 ok:∀ m ns u,PR (.level 0) (ws.drop q) (.ok m ns ([59]::u))→∀ pv acc r,PG false (acc++[x::ns]) u r→PG pv acc (ws.drop p) r
 bad1:∀ u,PR (.level 0) (ws.drop q) (.bad u)→∀ pv acc,PG pv acc (ws.drop p) (.bad u)
 bad2:∀ m ns u,PR (.level 0) (ws.drop q) (.ok m ns u)→u.head?≠some [59]→∀ pv acc,PG pv acc (ws.drop p) (.bad u)
theorem v1t.kept {x:Td} {wc w':World} (h:v1t K ws pl b p w q x wc) (hb:Below wc.heap.size wc w') (hw:w.heap.size≤wc.heap.size):v1t K ws pl b p w q x w':=
 ⟨h.le,h.rd.keep hb,h.bt.trans (But.of (hb.mono hw)),(hb.block _ (Array.getElem?_eq_some_iff.1 h.bx).1).trans h.bx,h.ok,h.bad1,h.bad2⟩
structure k4h (K:LwK) (ws:List Wd) (pl:Nat→Nat) (b:Nat) (w:World) (q:Nat) (t:List Td) (v:Value) (w':World):Prop where
 o:q1o w.heap.size v t w'
 rd:Ry K ws pl b q w'
 bt:But w.heap.size b w w'
 sz:w.heap.size≤w'.heap.size
theorem k4h.grown {t t2:List Td} {v v2 v3:Value} {w1 w2:World} (h:k4h K ws pl b w q t v w1) (hw:w.heap.size≤w1.heap.size) (hb:b<w.heap.size) (hgw:K.gw<w.heap.size) (hga:K.ga<w.heap.size) (hg:w1.grownBy w2 v2.ownBlock) (ho:∀ k,v2.ownBlock=some k→w.heap.size≤k) (ht:q1o w.heap.size v3 t2 w2):k4h K ws pl b w q t2 v3 w2:=by
 have hbel:Below w.heap.size w1 w2:=(Below.refl _ _).grown hg hw ho
 exact ⟨ht,h.rd.keepB hbel hb hgw hga,h.bt.trans (But.of hbel),Nat.le_trans hw hg.size⟩
end
theorem j4v {K:LwK} {ws:List Wd} {pl:Nat→Nat} {b p:Nat} {w:World} (htk:∀ x∈ws,q3i x) (htot:(ws.map List.length).sum≤60000) (hp:p<ws.length) (hbV:∀ w',But w.heap.size b w w'→q6n w') (h:Ry K ws pl b p w) :
  Calls Tryz.prog 80 #[.pointer (some ⟨b,0,none⟩)] w fun e w'=>q9d K ws pl b p w e w':=by
 have hX:=q2w hp
 have HL1:Hid (Calls Tryz.prog 79 #[.pointer (some ⟨b,0,none⟩)] w fun e w'=>e = .returned (.string (wbS ws[p]))∧w=w'):=by
  have h1:=(q5a h).mono fun _ _ h=>And.intro h.1 h.2.symm
  rw [hX] at h1
  exact h1
 have HL2:Hid (Calls Tryz.prog 104 #[.string (wbS ws[p])] w fun e w'=>e = .returned (.bool (decide (ws[p].headD 0=35)))∧w=w'):=(z3c _ w).mono fun _ _ h=>⟨h.1,h.2.symm⟩
 have hbw:b<w.heap.size:=h.row.lt
 have hgw:=h.gwlt
 have hga:=h.galt
 have hfew:=h.few
 by_cases hnt:ws[p].headD 0=35
 ·rw [decide_eq_true hnt] at HL2
  have HN:Hid (Calls Tryz.prog 105 #[.pointer (some ⟨b,0,none⟩)] w fun e w'=>q9d K ws pl b p w e w'):=k6r htk htot hp hnt hbV h
  generalize wbS ws[p]=S at HL1 HL2
  clear h htk hbV hX hnt htot
  go_enter Tryz.func80,Tryz.ntmps80
  go_wp2_with fail
  refine HL1.out.mono ?_
  rintro e w1 ⟨rfl,rfl⟩
  go_wp2_with fail
  refine HL2.out.mono ?_
  rintro e w1 ⟨rfl,rfl⟩
  go_wp2_with fail
  refine HN.out.mono ?_
  intro e w1 hG
  cases hG with
  | @bad u _ pg bt=>
   have HB:Hid (q9d K ws pl b p w (.panicked [q3t (pl (ws.length - u.length))]) w1):=.bad pg bt
   clear pg bt
   go_wp2
   exact ⟨rfl,HB.out⟩
  | @ok q n t A c _ hg=>
   have HB:Hid (q9d K ws pl b p w (.returned (.slice A t.length c)) w1):=.ok hg
   clear hg
   generalize t.length=nl at HB ⊢
   go_wp2
   go_ret
   exact HB.out
 ·rw [decide_eq_false hnt] at HL2
  have hR0:Ry K ws pl b p (w.alloc (.cells #[.int .i64 8,.string ⟨#[]⟩,.int .i64 0] 71)):=h.keep (q1j w _)
  have HD:Hid (ws.drop p=ws[p]::ws.drop (p+1)):=q3p hp
  by_cases hlet:ws[p]=z0t
  ·have hm:ws[p]? = some z0t:=by rw [List.getElem?_eq_getElem hp,hlet]
   have HH:Hid (Calls Tryz.prog 106 #[.pointer (some ⟨b,0,none⟩),.string ⟨#[108,101,116]⟩] (w.alloc (.cells #[.int .i64 8,.string ⟨#[]⟩,.int .i64 0] 71)) fun e w'=>e = .returned (.bool true)∧z6x K ws pl b w (p+1) doT w'):=by
    refine (q5s hR0 z0t hm).mono ?_
    rintro e w' ⟨rfl,h1,b1⟩
    exact ⟨rfl,z6x.but (q:=p) ⟨hR0,But.of (q1j w _),heap_alloc_new w _,hgw,hga,hbw⟩ b1 h1⟩
   have HDL:Hid (ws.drop p=z0t::ws.drop (p+1)):=by
    show _=_
    rw [HD.out,hlet]
   by_cases hnm:∃ h:p+1<ws.length,nmW ws[p+1]=true
   ·obtain ⟨hp1,hnm⟩:=hnm
    have HD1:Hid (ws.drop (p+1)=ws[p+1]::ws.drop (p+2)):=q3p hp1
    have HN:Hid (∀ W,z6x K ws pl b w (p+1) doT W→Calls Tryz.prog 107 #[.pointer (some ⟨b,0,none⟩)] W fun e w'=>e = .returned (.string (wbS ws[p+1]))∧z6x K ws pl b w (p+2) doT w'):=fun W hW=>by
     refine (j9t htk hp1 hnm hW.rd).mono ?_
     rintro e w' ⟨rfl,h1,b1⟩
     exact ⟨rfl,hW.but b1 h1⟩
    by_cases hm2:ws[p+2]? = some [61]
    ·obtain ⟨hp2,he2⟩:=List.getElem?_eq_some_iff.1 hm2
     have HD2:Hid (ws.drop (p+2)=[61]::ws.drop (p+3)):=by
      show _=_
      rw [q3p hp2,he2]
     have HM:Hid (∀ W,z6x K ws pl b w (p+2) (k6t ws[p+1]) W→Calls Tryz.prog 108 #[.pointer (some ⟨b,0,none⟩),.string ⟨#[61]⟩] W fun e w'=>e = .returned (.tuple #[])∧v1t K ws pl b p w (p+3) (k6t ws[p+1]) w'):=fun W hW=>by
      refine (q4z hW.rd [61] hm2).mono ?_
      rintro e w' ⟨rfl,h1,b1⟩
      have h2:=hW.but b1 h1
      refine ⟨rfl,by omega,h2.rd,h2.bt,h2.bx,fun m ns u hpr pv acc r hr=>?_,fun u hpr pv acc=>?_,fun m ns u hpr hu pv acc=>?_⟩
      ·rw [HDL.out,HD1.out,HD2.out];exact .letO hnm hpr hr
      ·rw [HDL.out,HD1.out,HD2.out];exact .letB hnm hpr
      ·rw [HDL.out,HD1.out,HD2.out];exact .letX hnm hpr hu
     have HSU:Hid (k7a K ws pl b (p+3)):=k4g htk (by omega)
     have HPT:Hid (∀ wc,z6x K ws pl b w (p+2) doT wc→z6x K ws pl b w (p+2) (k6t ws[p+1]) (((wc.setCell ⟨w.heap.size,0,none⟩ (.int .i64 7)).setCell ⟨w.heap.size,1,none⟩ (.string (wbS ws[p+1]))).setCell ⟨w.heap.size,2,none⟩ (.int .i64 0))):=fun wc h=>h.put (k6t ws[p+1])
     have HLT:Hid ((k6t ws[p+1])=⟨7,wbS ws[p+1],0⟩):=rfl
     generalize k6t ws[p+1]=xL at HM HPT HLT
     generalize wbS ws[p+1]=S1 at HN HPT HLT
     generalize wbS ws[p]=S at HL1 HL2
     clear h htk hbV hX hnt htot hR0 hlet hm hnm hm2 he2 HD HD1 HD2 HDL
     go_enter Tryz.func80,Tryz.ntmps80
     go_wp2_with fail
     refine HL1.out.mono ?_
     rintro e w1 ⟨rfl,rfl⟩
     go_wp2_with fail
     refine HL2.out.mono ?_
     rintro e w1 ⟨rfl,rfl⟩
     go_wp2_with fail
     refine HH.out.mono ?_
     rintro e w1 ⟨rfl,h1⟩
     have K1:=(show Hid (_) from h1)
     clear h1 HH
     go_wp2_with fail
     refine (HN.out _ K1.out).mono ?_
     rintro e w2 ⟨rfl,h2⟩
     have K2:=(show Hid (_) from h2)
     have bx2:=h2.bx
     have d0:w2.cell? ⟨w.heap.size,0,none⟩=some (.int .i64 8):=by rw [Lib.cell_of_heap bx2];rfl
     have d1:w2.cell? ⟨w.heap.size,1,none⟩=some (.string ⟨#[]⟩):=by rw [Lib.cell_of_heap bx2];rfl
     have d2:w2.cell? ⟨w.heap.size,2,none⟩=some (.int .i64 0):=by rw [Lib.cell_of_heap bx2];rfl
     have f0:w2.frozen? ⟨w.heap.size,0,none⟩=false:=Lib.frozen_of_heap bx2 0
     have f1:w2.frozen? ⟨w.heap.size,1,none⟩=false:=Lib.frozen_of_heap bx2 1
     have f2:w2.frozen? ⟨w.heap.size,2,none⟩=false:=Lib.frozen_of_heap bx2 2
     clear h2 bx2 K1 HN
     go_wp2_with fail
     refine (HM.out _ (HPT.out _ K2.out)).mono ?_
     rintro e wc ⟨rfl,hS⟩
     have HS:Hid (v1t K ws pl b p w (p+3) xL wc):=hS
     clear hS HM HPT K2 d0 d1 d2 f0 f1 f2
     have hLT:=HLT.out
     subst hLT
     clear HLT
     have hws:=HS.out.bt.size
     have hwc:w.heap.size<wc.heap.size:=(Array.getElem?_eq_some_iff.1 HS.out.bx).1
     have hbc:b<wc.heap.size:=HS.out.rd.row.lt
     have bxc:=HS.out.bx
     have d0:wc.cell? ⟨w.heap.size,0,none⟩=some (.int .i64 7):=by rw [Lib.cell_of_heap bxc];rfl
     have d1:wc.cell? ⟨w.heap.size,1,none⟩=some (.string S1):=by rw [Lib.cell_of_heap bxc];rfl
     have d2:wc.cell? ⟨w.heap.size,2,none⟩=some (.int .i64 0):=by rw [Lib.cell_of_heap bxc];rfl
     clear bxc
     rcases j2x HSU.out with ⟨m,ns,u,hpr,hcal⟩ | hcal
     ·have hsf:=q8q hpr
      have hu:ws.drop (ws.length - u.length)=u:=q5k hsf.1
      have heat:=hsf.2 m ns u rfl
      rw [q0e] at heat
      simp only [Job.eats] at heat
      have hle:=HS.out.le
      have hrdle:=HS.out.rd.le
      have HC:Hid (∀ W,Below wc.heap.size wc W→Calls Tryz.prog 109 #[.pointer (some ⟨b,0,none⟩)] W fun e w'=>∃ A c,e = .returned (.slice A ns.length c)∧k4h K ws pl b w (ws.length - u.length) ns (.slice A ns.length c) w'∧ns.length≤60000∧w'.heap[w.heap.size]? = some (.cells #[.int .i64 7,.string S1,.int .i64 0] 71 (0,0))∧But W.heap.size b W w'):=fun W hW=>by
       refine (hcal W (HS.out.rd.keep hW)).mono ?_
       rintro e w' ⟨A,c,rfl,hg⟩
       have hsW:=hW.size
       have hK:=HS.out.kept hW hws
       have hs':=hg.bt.size
       have hgn:=hg.n
       rw [q0e] at hgn
       exact ⟨A,c,rfl,⟨hg.o.down (by omega),hg.rd,hK.bt.trans (hg.bt.mono (by omega)),by omega⟩,by omega,(hg.bt.block _ (by omega) (by omega)).trans hK.bx,hg.bt⟩
      clear hcal
      generalize hnl:ns.length=nl at HC
      have HNL:Hid (ns.length=nl):=hnl
      clear hnl
      by_cases hsm:ws[ws.length - u.length]? = some [59]
      ·obtain ⟨hlt5,he5⟩:=List.getElem?_eq_some_iff.1 hsm
       have hu2:u=[59]::ws.drop (ws.length - u.length+1):=by
        have h9:=q3p hlt5
        rw [hu,he5] at h9
        exact h9
       have HM:Hid (∀ A c w6,k4h K ws pl b w (ws.length - u.length) ((⟨7,S1,0⟩:Td)::ns) (.slice A (1+nl) c) w6→nl≤60000→Calls Tryz.prog 108 #[.pointer (some ⟨b,0,none⟩),.string ⟨#[59]⟩] w6 fun e w'=>e = .returned (.tuple #[])∧q9d K ws pl b p w (.returned (.slice A (1+nl) c)) w'):=fun A c w6 hF hnn=>by
        refine (q4z hF.rd [59] hsm).mono ?_
        rintro e w7 ⟨rfl,h7,b7⟩
        have hnl:=HNL.out
        subst hnl
        have hz:=hF.sz
        refine ⟨rfl,?_⟩
        have hlen:((⟨7,S1,0⟩:Td)::ns).length=1+ns.length:=by rw [List.length_cons];omega
        have hpr2:=hpr
        rw [hu2] at hpr2
        have h9:=q9d.ok (K:=K) (ws:=ws) (pl:=pl) (b:=b) (p:=p) (w:=w) (q:=ws.length - u.length+1) (n:=false) (t:=(⟨7,S1,0⟩:Td)::ns) (A:=A) (c:=c) (w':=w7) ⟨by omega,by rw [hlen];exact hF.o.but2 b7 hbw,by simp,by rw [hlen];omega,h7,hF.bt.trans (b7.mono hz),fun pv acc r _ hr=>HS.out.ok m ns _ hpr2 pv acc r hr,fun e=>by cases e⟩
        rw [hlen] at h9
        exact h9
       clear hu2 he5 hsm hlt5 hu hsf heat hpr
       go_wp2_with fail
       go_region_law (first
        | (refine q1l rfl _ _ rfl w.heap.size (.slice (some ⟨wc.heap.size,0,none⟩) 1 1) [(⟨7,S1,0⟩:Td)] rfl (((show q1o wc.heap.size (.slice (some ⟨wc.heap.size,0,none⟩) 1 1) [(⟨7,S1,0⟩:Td)] (wc.alloc _).drew from q1o.one wc (⟨7,S1,0⟩:Td)).but2 hB4 hbc).down hws) A4 nl ns HNL.out c4 rfl hf4.o.tds hf4.o.none.2 (1+nl) rfl (by omega) hf4.sz ?_;intro A6 c6 w6 hown6 hgrow6;have hfin:=hf4.grown hf4.sz hbw hgw hga hgrow6 (fun k hk=>by have e9:wc.heap.size=k:=(by simpa [Value.ownBlock] using hk);omega) hown6)
        | (refine q1l rfl _ _ rfl w.heap.size (.slice (some ⟨w4.heap.size,0,none⟩) 1 1) [(⟨7,S1,0⟩:Td)] rfl ((q1o.one w4 (⟨7,S1,0⟩:Td)).down hf4.sz) A4 nl ns HNL.out c4 rfl (hf4.o.tds.alloc _) hf4.o.none.2 (1+nl) rfl (by omega) (by rw [World.size_alloc];have:=hf4.sz;omega) ?_;intro A6 c6 w6 hown6 hgrow6;have hfin:=k4h.grown ⟨hf4.o.kept fun g _ h5=>Lib.alloc_old w4 _ g h5,hf4.rd.keep (q1j w4 _),hf4.bt.alloc hf4.sz _,by rw [World.size_alloc];have:=hf4.sz;omega⟩ (by rw [World.size_alloc];have:=hf4.sz;omega) hbw hgw hga hgrow6 (fun k hk=>by have e9:w4.heap.size=k:=(by simpa [Value.ownBlock] using hk);have:=hf4.sz;omega) hown6)
        | (go_simp;refine (HC.out _ (by first | exact z0r _ _ | exact Below.drew (Below.refl _ _))).mono ?_;rintro e w4 ⟨A4,c4,rfl,hf4,hn4,hbx4,hB4⟩;have g0:w4.cell? ⟨w.heap.size,0,none⟩=some (.int .i64 7):=(by rw [Lib.cell_of_heap hbx4];rfl);have g1:w4.cell? ⟨w.heap.size,1,none⟩=some (.string S1):=(by rw [Lib.cell_of_heap hbx4];rfl);have g2:w4.cell? ⟨w.heap.size,2,none⟩=some (.int .i64 0):=(by rw [Lib.cell_of_heap hbx4];rfl);clear hbx4))
       all_goals
        have K6:=(show Hid (_) from HM.out _ _ _ hfin hn4)
        clear hfin hown6 hgrow6 hn4 hf4 hB4
        go_wp2_with fail
        refine (Calls.mono K6.out ?_)
        rintro e w7 ⟨rfl,h7⟩
        have K7:Hid (q9d K ws pl b p w (.returned (.slice A6 (1+nl) c6)) w7):=h7
        clear h7
        go_wp2
        go_ret
        exact K7.out
      ·have HM:Hid (∀ A c w6,k4h K ws pl b w (ws.length - u.length) ((⟨7,S1,0⟩:Td)::ns) (.slice A (1+nl) c) w6→Calls Tryz.prog 108 #[.pointer (some ⟨b,0,none⟩),.string ⟨#[59]⟩] w6 fun e w'=>e = .panicked [q3t (pl (ws.length - u.length))]∧q9d K ws pl b p w (.panicked [q3t (pl (ws.length - u.length))]) w'):=fun A c w6 hF=>by
        refine (q5t hF.rd [59] (by simp) hsm).mono ?_
        rintro e w7 ⟨rfl,rfl⟩
        refine ⟨rfl,.bad (fun pv acc=>HS.out.bad2 m ns u hpr ?_ pv acc) hF.bt⟩
        rw [←hu,q1q]
        exact hsm
       clear hsm hu hsf heat hpr
       generalize pl (ws.length - u.length)=pp at HM
       go_wp2_with fail
       go_region_law (first
        | (refine q1l rfl _ _ rfl w.heap.size (.slice (some ⟨wc.heap.size,0,none⟩) 1 1) [(⟨7,S1,0⟩:Td)] rfl (((show q1o wc.heap.size (.slice (some ⟨wc.heap.size,0,none⟩) 1 1) [(⟨7,S1,0⟩:Td)] (wc.alloc _).drew from q1o.one wc (⟨7,S1,0⟩:Td)).but2 hB4 hbc).down hws) A4 nl ns HNL.out c4 rfl hf4.o.tds hf4.o.none.2 (1+nl) rfl (by omega) hf4.sz ?_;intro A6 c6 w6 hown6 hgrow6;have hfin:=hf4.grown hf4.sz hbw hgw hga hgrow6 (fun k hk=>by have e9:wc.heap.size=k:=(by simpa [Value.ownBlock] using hk);omega) hown6)
        | (refine q1l rfl _ _ rfl w.heap.size (.slice (some ⟨w4.heap.size,0,none⟩) 1 1) [(⟨7,S1,0⟩:Td)] rfl ((q1o.one w4 (⟨7,S1,0⟩:Td)).down hf4.sz) A4 nl ns HNL.out c4 rfl (hf4.o.tds.alloc _) hf4.o.none.2 (1+nl) rfl (by omega) (by rw [World.size_alloc];have:=hf4.sz;omega) ?_;intro A6 c6 w6 hown6 hgrow6;have hfin:=k4h.grown ⟨hf4.o.kept fun g _ h5=>Lib.alloc_old w4 _ g h5,hf4.rd.keep (q1j w4 _),hf4.bt.alloc hf4.sz _,by rw [World.size_alloc];have:=hf4.sz;omega⟩ (by rw [World.size_alloc];have:=hf4.sz;omega) hbw hgw hga hgrow6 (fun k hk=>by have e9:w4.heap.size=k:=(by simpa [Value.ownBlock] using hk);have:=hf4.sz;omega) hown6)
        | (go_simp;refine (HC.out _ (by first | exact z0r _ _ | exact Below.drew (Below.refl _ _))).mono ?_;rintro e w4 ⟨A4,c4,rfl,hf4,hn4,hbx4,hB4⟩;have g0:w4.cell? ⟨w.heap.size,0,none⟩=some (.int .i64 7):=(by rw [Lib.cell_of_heap hbx4];rfl);have g1:w4.cell? ⟨w.heap.size,1,none⟩=some (.string S1):=(by rw [Lib.cell_of_heap hbx4];rfl);have g2:w4.cell? ⟨w.heap.size,2,none⟩=some (.int .i64 0):=(by rw [Lib.cell_of_heap hbx4];rfl);clear hbx4))
       all_goals
        have K6:=(show Hid (_) from HM.out _ _ _ hfin)
        clear hfin hown6 hgrow6 hn4 hf4 hB4
        go_wp2_with fail
        refine (Calls.mono K6.out ?_)
        rintro e w7 ⟨rfl,h7⟩
        have K7:Hid (q9d K ws pl b p w (.panicked [q3t pp]) w7):=h7
        clear h7
        go_wp2
        exact ⟨rfl,K7.out⟩
     ·have HC:Hid (∀ W,Below wc.heap.size wc W→Calls Tryz.prog 109 #[.pointer (some ⟨b,0,none⟩)] W fun e w'=>∃ u:List Wd,e = .panicked [q3t (pl (ws.length - u.length))]∧q9d K ws pl b p w (.panicked [q3t (pl (ws.length - u.length))]) w'):=fun W hW=>by
       refine (hcal W (HS.out.rd.keep hW)).mono ?_
       rintro e w' ⟨u,rfl,pr,bt⟩
       have:=hW.size
       exact ⟨u,rfl,.bad (HS.out.bad1 u pr) ((HS.out.kept hW hws).bt.trans (bt.mono (by omega)))⟩
      clear hcal
      go_wp2_with fail
      go_region_dies
      all_goals
       refine (HC.out _ (by first | exact z0r _ _ | exact Below.drew (Below.refl _ _))).mono ?_
       rintro e w' ⟨u,rfl,h9⟩
       exact ⟨rfl,h9⟩
    ·have HM:Hid (∀ W,z6x K ws pl b w (p+2) (k6t ws[p+1]) W→Calls Tryz.prog 108 #[.pointer (some ⟨b,0,none⟩),.string ⟨#[61]⟩] W fun e w'=>e = .panicked [q3t (pl (p+2))]∧q9d K ws pl b p w (.panicked [q3t (pl (p+2))]) w'):=fun W hW=>by
      refine (q5t hW.rd [61] (by simp) hm2).mono ?_
      rintro e w' ⟨rfl,rfl⟩
      have h9:=q9d.bad (K:=K) (ws:=ws) (pl:=pl) (b:=b) (p:=p) (w:=w) (u:=ws.drop (p+2)) (w':=w') (fun pv acc=>by rw [HDL.out,HD1.out];exact .letE hnm (by rw [q1q];exact hm2)) hW.bt
      rw [q0e,show ws.length - (ws.length - (p+2))=p+2 by omega] at h9
      exact ⟨rfl,h9⟩
     have HPT:Hid (∀ wc,z6x K ws pl b w (p+2) doT wc→z6x K ws pl b w (p+2) (k6t ws[p+1]) (((wc.setCell ⟨w.heap.size,0,none⟩ (.int .i64 7)).setCell ⟨w.heap.size,1,none⟩ (.string (wbS ws[p+1]))).setCell ⟨w.heap.size,2,none⟩ (.int .i64 0))):=fun wc h=>h.put (k6t ws[p+1])
     generalize k6t ws[p+1]=xL at HM HPT
     generalize wbS ws[p+1]=S1 at HN HPT
     generalize wbS ws[p]=S at HL1 HL2
     generalize pl (p+2)=pp at HM
     clear h htk hbV hX hnt htot hR0 hlet hm hnm hm2 HD HD1 HDL
     go_enter Tryz.func80,Tryz.ntmps80
     go_wp2_with fail
     refine HL1.out.mono ?_
     rintro e w1 ⟨rfl,rfl⟩
     go_wp2_with fail
     refine HL2.out.mono ?_
     rintro e w1 ⟨rfl,rfl⟩
     go_wp2_with fail
     refine HH.out.mono ?_
     rintro e w1 ⟨rfl,h1⟩
     have K1:=(show Hid (_) from h1)
     clear h1 HH
     go_wp2_with fail
     refine (HN.out _ K1.out).mono ?_
     rintro e w2 ⟨rfl,h2⟩
     have K2:=(show Hid (_) from h2)
     have bx2:=h2.bx
     have d0:w2.cell? ⟨w.heap.size,0,none⟩=some (.int .i64 8):=by rw [Lib.cell_of_heap bx2];rfl
     have d1:w2.cell? ⟨w.heap.size,1,none⟩=some (.string ⟨#[]⟩):=by rw [Lib.cell_of_heap bx2];rfl
     have d2:w2.cell? ⟨w.heap.size,2,none⟩=some (.int .i64 0):=by rw [Lib.cell_of_heap bx2];rfl
     have f0:w2.frozen? ⟨w.heap.size,0,none⟩=false:=Lib.frozen_of_heap bx2 0
     have f1:w2.frozen? ⟨w.heap.size,1,none⟩=false:=Lib.frozen_of_heap bx2 1
     have f2:w2.frozen? ⟨w.heap.size,2,none⟩=false:=Lib.frozen_of_heap bx2 2
     clear h2 bx2 K1 HN
     go_wp2_with fail
     refine (HM.out _ (HPT.out _ K2.out)).mono ?_
     rintro e wc ⟨rfl,h9⟩
     have K9:Hid (q9d K ws pl b p w (.panicked [q3t pp]) wc):=h9
     clear h9
     go_wp2
     exact ⟨rfl,K9.out⟩
   ·have hno:∀ x,ws[p+1]? = some x→nmW x=false:=fun x hx=>by
     obtain ⟨h1,rfl⟩:=List.getElem?_eq_some_iff.1 hx
     cases hq:nmW ws[p+1] with
     | false=>rfl
     | true=>exact absurd ⟨h1,hq⟩ hnm
    have HN:Hid (∀ W,z6x K ws pl b w (p+1) doT W→Calls Tryz.prog 107 #[.pointer (some ⟨b,0,none⟩)] W fun e w'=>e = .panicked [q3t (pl (p+1))]∧q9d K ws pl b p w (.panicked [q3t (pl (p+1))]) w'):=fun W hW=>by
     refine (j9s htk hno hW.rd).mono ?_
     rintro e w' ⟨rfl,rfl⟩
     have h9:=q9d.bad (K:=K) (ws:=ws) (pl:=pl) (b:=b) (p:=p) (w:=w) (u:=ws.drop (p+1)) (w':=W) (fun pv acc=>by rw [HDL.out];exact .letN (fun x hx=>hno x (by rw [←q1q];exact hx))) hW.bt
     rw [q0e,show ws.length - (ws.length - (p+1))=p+1 by omega] at h9
     exact ⟨rfl,h9⟩
    generalize wbS ws[p]=S at HL1 HL2
    generalize pl (p+1)=pp at HN
    clear h htk hbV hX hnt htot hR0 hlet hm hnm hno HD HDL
    go_enter Tryz.func80,Tryz.ntmps80
    go_wp2_with fail
    refine HL1.out.mono ?_
    rintro e w1 ⟨rfl,rfl⟩
    go_wp2_with fail
    refine HL2.out.mono ?_
    rintro e w1 ⟨rfl,rfl⟩
    go_wp2_with fail
    refine HH.out.mono ?_
    rintro e w1 ⟨rfl,h1⟩
    have K1:=(show Hid (_) from h1)
    clear h1 HH
    go_wp2_with fail
    refine (HN.out _ K1.out).mono ?_
    rintro e w2 ⟨rfl,h9⟩
    have K9:Hid (q9d K ws pl b p w (.panicked [q3t pp]) w2):=h9
    clear h9
    go_wp2
    exact ⟨rfl,K9.out⟩
  ·have hm:ws[p]?≠some z0t:=by rw [List.getElem?_eq_getElem hp];simpa using hlet
   have HH:Hid (Calls Tryz.prog 106 #[.pointer (some ⟨b,0,none⟩),.string ⟨#[108,101,116]⟩] (w.alloc (.cells #[.int .i64 8,.string ⟨#[]⟩,.int .i64 0] 71)) fun e w'=>e = .returned (.bool false)∧v1t K ws pl b p w p doT w'):=by
    refine (q6k hR0 z0t (by simp) hm).mono ?_
    rintro e w' ⟨rfl,rfl⟩
    refine ⟨rfl,Nat.le_refl _,hR0,But.of (q1j w _),heap_alloc_new w _,fun m ns u hpr pv acc r hr=>?_,fun u hpr pv acc=>?_,fun m ns u hpr hu pv acc=>?_⟩
    ·rw [HD.out] at hpr ⊢;exact .doO hnt hlet hpr hr
    ·rw [HD.out] at hpr ⊢;exact .doB hnt hlet hpr
    ·rw [HD.out] at hpr ⊢;exact .doX hnt hlet hpr hu
   have HSU:Hid (k7a K ws pl b p):=k4g htk (by omega)
   generalize wbS ws[p]=S at HL1 HL2
   clear h htk hbV hX hnt htot hR0 hlet hm
   go_enter Tryz.func80,Tryz.ntmps80
   go_wp2_with fail
   refine HL1.out.mono ?_
   rintro e w1 ⟨rfl,rfl⟩
   go_wp2_with fail
   refine HL2.out.mono ?_
   rintro e w1 ⟨rfl,rfl⟩
   go_wp2_with fail
   refine HH.out.mono ?_
   rintro e wc ⟨rfl,hS⟩
   have HS:Hid (v1t K ws pl b p w p doT wc):=hS
   clear hS HH
   have hws:=HS.out.bt.size
   have hwc:w.heap.size<wc.heap.size:=(Array.getElem?_eq_some_iff.1 HS.out.bx).1
   have hbc:b<wc.heap.size:=HS.out.rd.row.lt
   have bxc:=HS.out.bx
   have d0:wc.cell? ⟨w.heap.size,0,none⟩=some (.int .i64 8):=by rw [Lib.cell_of_heap bxc];rfl
   have d1:wc.cell? ⟨w.heap.size,1,none⟩=some (.string ⟨#[]⟩):=by rw [Lib.cell_of_heap bxc];rfl
   have d2:wc.cell? ⟨w.heap.size,2,none⟩=some (.int .i64 0):=by rw [Lib.cell_of_heap bxc];rfl
   clear bxc
   rcases j2x HSU.out with ⟨m,ns,u,hpr,hcal⟩ | hcal
   ·have hsf:=q8q hpr
    have hu:ws.drop (ws.length - u.length)=u:=q5k hsf.1
    have heat:=hsf.2 m ns u rfl
    rw [q0e] at heat
    simp only [Job.eats] at heat
    have hle:=HS.out.le
    have hrdle:=HS.out.rd.le
    have HC:Hid (∀ W,Below wc.heap.size wc W→Calls Tryz.prog 109 #[.pointer (some ⟨b,0,none⟩)] W fun e w'=>∃ A c,e = .returned (.slice A ns.length c)∧k4h K ws pl b w (ws.length - u.length) ns (.slice A ns.length c) w'∧ns.length≤60000∧w'.heap[w.heap.size]? = some (.cells #[.int .i64 8,.string ⟨#[]⟩,.int .i64 0] 71 (0,0))∧But W.heap.size b W w'):=fun W hW=>by
     refine (hcal W (HS.out.rd.keep hW)).mono ?_
     rintro e w' ⟨A,c,rfl,hg⟩
     have hsW:=hW.size
     have hK:=HS.out.kept hW hws
     have hs':=hg.bt.size
     have hgn:=hg.n
     rw [q0e] at hgn
     exact ⟨A,c,rfl,⟨hg.o.down (by omega),hg.rd,hK.bt.trans (hg.bt.mono (by omega)),by omega⟩,by omega,(hg.bt.block _ (by omega) (by omega)).trans hK.bx,hg.bt⟩
    clear hcal
    generalize hnl:ns.length=nl at HC
    have HNL:Hid (ns.length=nl):=hnl
    clear hnl
    by_cases hsm:ws[ws.length - u.length]? = some [59]
    ·obtain ⟨hlt5,he5⟩:=List.getElem?_eq_some_iff.1 hsm
     have hu2:u=[59]::ws.drop (ws.length - u.length+1):=by
      have h9:=q3p hlt5
      rw [hu,he5] at h9
      exact h9
     have HM:Hid (∀ A c w6,k4h K ws pl b w (ws.length - u.length) (doT::ns) (.slice A (1+nl) c) w6→nl≤60000→Calls Tryz.prog 108 #[.pointer (some ⟨b,0,none⟩),.string ⟨#[59]⟩] w6 fun e w'=>e = .returned (.tuple #[])∧q9d K ws pl b p w (.returned (.slice A (1+nl) c)) w'):=fun A c w6 hF hnn=>by
      refine (q4z hF.rd [59] hsm).mono ?_
      rintro e w7 ⟨rfl,h7,b7⟩
      have hnl:=HNL.out
      subst hnl
      have hz:=hF.sz
      refine ⟨rfl,?_⟩
      have hlen:(doT::ns).length=1+ns.length:=by rw [List.length_cons];omega
      have hpr2:=hpr
      rw [hu2] at hpr2
      have h9:=q9d.ok (K:=K) (ws:=ws) (pl:=pl) (b:=b) (p:=p) (w:=w) (q:=ws.length - u.length+1) (n:=false) (t:=doT::ns) (A:=A) (c:=c) (w':=w7) ⟨by omega,by rw [hlen];exact hF.o.but2 b7 hbw,by simp,by rw [hlen];omega,h7,hF.bt.trans (b7.mono hz),fun pv acc r _ hr=>HS.out.ok m ns _ hpr2 pv acc r hr,fun e=>by cases e⟩
      rw [hlen] at h9
      exact h9
     clear hu2 he5 hsm hlt5 hu hsf heat hpr
     go_wp2_with fail
     go_region_law (first
      | (refine q1l rfl _ _ rfl w.heap.size (.slice (some ⟨wc.heap.size,0,none⟩) 1 1) [doT] rfl (((show q1o wc.heap.size (.slice (some ⟨wc.heap.size,0,none⟩) 1 1) [doT] (wc.alloc _).drew from q1o.one wc doT).but2 hB4 hbc).down hws) A4 nl ns HNL.out c4 rfl hf4.o.tds hf4.o.none.2 (1+nl) rfl (by omega) hf4.sz ?_;intro A6 c6 w6 hown6 hgrow6;have hfin:=hf4.grown hf4.sz hbw hgw hga hgrow6 (fun k hk=>by have e9:wc.heap.size=k:=(by simpa [Value.ownBlock] using hk);omega) hown6)
      | (refine q1l rfl _ _ rfl w.heap.size (.slice (some ⟨w4.heap.size,0,none⟩) 1 1) [doT] rfl ((q1o.one w4 doT).down hf4.sz) A4 nl ns HNL.out c4 rfl (hf4.o.tds.alloc _) hf4.o.none.2 (1+nl) rfl (by omega) (by rw [World.size_alloc];have:=hf4.sz;omega) ?_;intro A6 c6 w6 hown6 hgrow6;have hfin:=k4h.grown ⟨hf4.o.kept fun g _ h5=>Lib.alloc_old w4 _ g h5,hf4.rd.keep (q1j w4 _),hf4.bt.alloc hf4.sz _,by rw [World.size_alloc];have:=hf4.sz;omega⟩ (by rw [World.size_alloc];have:=hf4.sz;omega) hbw hgw hga hgrow6 (fun k hk=>by have e9:w4.heap.size=k:=(by simpa [Value.ownBlock] using hk);have:=hf4.sz;omega) hown6)
      | (go_simp;refine (HC.out _ (by first | exact z0r _ _ | exact Below.drew (Below.refl _ _))).mono ?_;rintro e w4 ⟨A4,c4,rfl,hf4,hn4,hbx4,hB4⟩;have g0:w4.cell? ⟨w.heap.size,0,none⟩=some (.int .i64 8):=(by rw [Lib.cell_of_heap hbx4];rfl);have g1:w4.cell? ⟨w.heap.size,1,none⟩=some (.string ⟨#[]⟩):=(by rw [Lib.cell_of_heap hbx4];rfl);have g2:w4.cell? ⟨w.heap.size,2,none⟩=some (.int .i64 0):=(by rw [Lib.cell_of_heap hbx4];rfl);clear hbx4))
     all_goals
      have K6:=(show Hid (_) from HM.out _ _ _ hfin hn4)
      clear hfin hown6 hgrow6 hn4 hf4 hB4
      go_wp2_with fail
      refine (Calls.mono K6.out ?_)
      rintro e w7 ⟨rfl,h7⟩
      have K7:Hid (q9d K ws pl b p w (.returned (.slice A6 (1+nl) c6)) w7):=h7
      clear h7
      go_wp2
      go_ret
      exact K7.out
    ·have HM:Hid (∀ A c w6,k4h K ws pl b w (ws.length - u.length) (doT::ns) (.slice A (1+nl) c) w6→Calls Tryz.prog 108 #[.pointer (some ⟨b,0,none⟩),.string ⟨#[59]⟩] w6 fun e w'=>e = .panicked [q3t (pl (ws.length - u.length))]∧q9d K ws pl b p w (.panicked [q3t (pl (ws.length - u.length))]) w'):=fun A c w6 hF=>by
      refine (q5t hF.rd [59] (by simp) hsm).mono ?_
      rintro e w7 ⟨rfl,rfl⟩
      refine ⟨rfl,.bad (fun pv acc=>HS.out.bad2 m ns u hpr ?_ pv acc) hF.bt⟩
      rw [←hu,q1q]
      exact hsm
     clear hsm hu hsf heat hpr
     generalize pl (ws.length - u.length)=pp at HM
     go_wp2_with fail
     go_region_law (first
      | (refine q1l rfl _ _ rfl w.heap.size (.slice (some ⟨wc.heap.size,0,none⟩) 1 1) [doT] rfl (((show q1o wc.heap.size (.slice (some ⟨wc.heap.size,0,none⟩) 1 1) [doT] (wc.alloc _).drew from q1o.one wc doT).but2 hB4 hbc).down hws) A4 nl ns HNL.out c4 rfl hf4.o.tds hf4.o.none.2 (1+nl) rfl (by omega) hf4.sz ?_;intro A6 c6 w6 hown6 hgrow6;have hfin:=hf4.grown hf4.sz hbw hgw hga hgrow6 (fun k hk=>by have e9:wc.heap.size=k:=(by simpa [Value.ownBlock] using hk);omega) hown6)
      | (refine q1l rfl _ _ rfl w.heap.size (.slice (some ⟨w4.heap.size,0,none⟩) 1 1) [doT] rfl ((q1o.one w4 doT).down hf4.sz) A4 nl ns HNL.out c4 rfl (hf4.o.tds.alloc _) hf4.o.none.2 (1+nl) rfl (by omega) (by rw [World.size_alloc];have:=hf4.sz;omega) ?_;intro A6 c6 w6 hown6 hgrow6;have hfin:=k4h.grown ⟨hf4.o.kept fun g _ h5=>Lib.alloc_old w4 _ g h5,hf4.rd.keep (q1j w4 _),hf4.bt.alloc hf4.sz _,by rw [World.size_alloc];have:=hf4.sz;omega⟩ (by rw [World.size_alloc];have:=hf4.sz;omega) hbw hgw hga hgrow6 (fun k hk=>by have e9:w4.heap.size=k:=(by simpa [Value.ownBlock] using hk);have:=hf4.sz;omega) hown6)
      | (go_simp;refine (HC.out _ (by first | exact z0r _ _ | exact Below.drew (Below.refl _ _))).mono ?_;rintro e w4 ⟨A4,c4,rfl,hf4,hn4,hbx4,hB4⟩;have g0:w4.cell? ⟨w.heap.size,0,none⟩=some (.int .i64 8):=(by rw [Lib.cell_of_heap hbx4];rfl);have g1:w4.cell? ⟨w.heap.size,1,none⟩=some (.string ⟨#[]⟩):=(by rw [Lib.cell_of_heap hbx4];rfl);have g2:w4.cell? ⟨w.heap.size,2,none⟩=some (.int .i64 0):=(by rw [Lib.cell_of_heap hbx4];rfl);clear hbx4))
     all_goals
      have K6:=(show Hid (_) from HM.out _ _ _ hfin)
      clear hfin hown6 hgrow6 hn4 hf4 hB4
      go_wp2_with fail
      refine (Calls.mono K6.out ?_)
      rintro e w7 ⟨rfl,h7⟩
      have K7:Hid (q9d K ws pl b p w (.panicked [q3t pp]) w7):=h7
      clear h7
      go_wp2
      exact ⟨rfl,K7.out⟩
   ·have HC:Hid (∀ W,Below wc.heap.size wc W→Calls Tryz.prog 109 #[.pointer (some ⟨b,0,none⟩)] W fun e w'=>∃ u:List Wd,e = .panicked [q3t (pl (ws.length - u.length))]∧q9d K ws pl b p w (.panicked [q3t (pl (ws.length - u.length))]) w'):=fun W hW=>by
     refine (hcal W (HS.out.rd.keep hW)).mono ?_
     rintro e w' ⟨u,rfl,pr,bt⟩
     have:=hW.size
     exact ⟨u,rfl,.bad (HS.out.bad1 u pr) ((HS.out.kept hW hws).bt.trans (bt.mono (by omega)))⟩
    clear hcal
    go_wp2_with fail
    go_region_dies
    all_goals
     refine (HC.out _ (by first | exact z0r _ _ | exact Below.drew (Below.refl _ _))).mono ?_
     rintro e w' ⟨u,rfl,h9⟩
     exact ⟨rfl,h9⟩
end Go.Proofs.YtchdplceopegoaaGreatDoor
namespace Go.Proofs.YtchdplceopegoaaGreatDoor
open Go Go.RowKit
set_option maxRecDepth 100000
set_option maxHeartbeats 2000000
theorem k1v (a c d:Addr) (w:World):CallsD Tryz.prog 78 #[.pointer (some a),.pointer (some c),.pointer (some d)] .returning w fun e u' w'=>e = .returned (.tuple #[])∧u' = .returning∧Below w.heap.size w w':=by
 have hta:∀ W:World,(Instr.typeAssert .nilIface 20 156 true).run Tryz.prog W = .ok (.tuple #[.agg #[.int .i64 0],.bool false]) W:=fun W=>by kernel_rfl
 refine callsD_of_wpS Tryz.func78 rfl fun c₀ cs hu=>?_
 apply wpS_seq
 apply wpS_region
 simp [wpOpsS,go_sem,recoverD,hu,Tryz.ntmps78,Exit.thenS]
 refine wpS_of_wp ?_
 change Code.wp _ _ _ { tmps:=#[.pointer (some a),.pointer (some c),.pointer (some d),.nilIface,undef,undef,.nilIface,undef,undef,undef,undef,undef,undef,undef,undef,undef,undef,undef,undef],defers:=[] } _
 go_wp2
 refine ⟨rfl,.returning,?_,_,results_none rfl _ _ _,rfl,rfl,q1j w _⟩
 cases c₀
 simp_all
theorem z3b (ba bc bd:Nat) (k:Nat) (w:World) (va vc vd:Value) (ha:w.cell? ⟨ba,0,none⟩=some va) (hc:w.cell? ⟨bc,0,none⟩=some vc) (hd:w.cell? ⟨bd,0,none⟩=some vd) (fa:w.frozen? ⟨ba,0,none⟩=false) (fc:w.frozen? ⟨bc,0,none⟩=false) (fd:w.frozen? ⟨bd,0,none⟩=false) (la:ba<w.heap.size) (lc:bc<w.heap.size) (ld:bd<w.heap.size) (n1:¬ ba=bc) (n2:¬ ba=bd) (n3:¬ bc=bd) :
  CallsD Tryz.prog 78 #[.pointer (some ⟨ba,0,none⟩),.pointer (some ⟨bc,0,none⟩),.pointer (some ⟨bd,0,none⟩)] (.panicking [q3t k]) w fun e u' w'=>e = .returned (.tuple #[])∧u' = .panicking [{ v:=.iface 156 (.agg #[.int .i64 (k:Int)]),recovered:=true }]∧w'.cell? ⟨ba,0,none⟩=some (.slice none 0 0)∧w'.cell? ⟨bc,0,none⟩=some (.int .i64 (k:Int))∧w'.cell? ⟨bd,0,none⟩=some (.iface 24 (.int .i64 5))∧∀ B,B≤ba→B≤bc→B≤bd→Below B w w':=by
 have hta:∀ W:World,(Instr.typeAssert (.iface 156 (.agg #[.int .i64 (k:Int)])) 20 156 true).run Tryz.prog W = .ok (.tuple #[.agg #[.int .i64 (k:Int)],.bool true]) W:=fun W=>by kernel_rfl
 refine callsD_of_wpS Tryz.func78 rfl fun c₀ cs hu=>?_
 apply wpS_seq
 apply wpS_region
 simp [wpOpsS,go_sem,recoverD,hu,Tryz.ntmps78,Exit.thenS]
 refine wpS_of_wp ?_
 change Code.wp _ _ _ { tmps:=#[.pointer (some ⟨ba,0,none⟩),.pointer (some ⟨bc,0,none⟩),.pointer (some ⟨bd,0,none⟩),.iface 156 (.agg #[.int .i64 (k:Int)]),undef,undef,.iface 156 (.agg #[.int .i64 (k:Int)]),undef,undef,undef,undef,undef,undef,undef,undef,undef,undef,undef,undef],defers:=[] } _
 go_wp2_with fail
 go_region
 all_goals go_wp2
 generalize hW:((w.setCell ⟨ba,0,none⟩ (.slice none 0 0)).setCell ⟨bc,0,none⟩ (.int .i64 (k:Int))).setCell ⟨bd,0,none⟩ (.iface 24 (.int .i64 5))=W
 have hz:W.heap.size=w.heap.size:=by rw [←hW,World.size_setCell,World.size_setCell,World.size_setCell]
 have r1:W.cell? ⟨ba,0,none⟩=some (.slice none 0 0):=by
  rw [←hW];exact (cso (.inl (Ne.symm n2))).trans ((cso (.inl (Ne.symm n1))).trans (css ha))
 have r2:W.cell? ⟨bc,0,none⟩=some (.int .i64 (k:Int)):=by
  rw [←hW];exact (cso (.inl (Ne.symm n3))).trans (css ((cso (.inl n1)).trans hc))
 have r3:W.cell? ⟨bd,0,none⟩=some (.iface 24 (.int .i64 5)):=by
  rw [←hW];exact css ((cso (.inl n3)).trans ((cso (.inl n2)).trans hd))
 have r4:∀ B,B≤ba→B≤bc→B≤bd→Below B w W:=fun B h1 h2 h3=>by
  rw [←hW]
  exact (((Below.refl B w).setCell (p:=⟨ba,0,none⟩) h1 _).setCell (p:=⟨bc,0,none⟩) h2 _).setCell (p:=⟨bd,0,none⟩) h3 _
 clear hW
 have hb:=z0r W (.cells #[.int .i64 (k:Int)] 156)
 obtain ⟨bc1,_⟩:=q0v hb
 refine ⟨rfl,_,rfl,_,results_none rfl _ _ _,rfl,rfl,(bc1 _ _ (by omega)).trans r1,(bc1 _ _ (by omega)).trans r2,(bc1 _ _ (by omega)).trans r3,fun B h1 h2 h3=>(r4 B h1 h2 h3).trans (hb.mono (by omega))⟩
end Go.Proofs.YtchdplceopegoaaGreatDoor
