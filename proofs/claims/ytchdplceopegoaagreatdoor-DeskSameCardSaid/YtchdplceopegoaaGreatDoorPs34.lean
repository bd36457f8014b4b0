/- Texts as one: SyX, SyM. -/
import Derived.Test.YtchdplceopegoaaGreatDoorPs33
namespace Go.Proofs.YtchdplceopegoaaGreatDoor
open Go Go.RowKit
set_option maxRecDepth 100000
set_option maxHeartbeats 4000000
section
variable {K:LwK} {ws:List Wd} {pl:Nat→Nat} {b p:Nat} {w:World}
theorem v2b {X:Wd} (h:Ry K ws pl b p w) (hX:ws.getD p []=X) (ht:X=[]∨q3p X) :
  (Calls Tryz.prog 79 #[.pointer (some ⟨b,0,none⟩)] w fun e w'=>e = .returned (.string (wbS X))∧w=w')∧(Calls Tryz.prog 209 #[.string (wbS X)] w fun e w'=>e = .returned (.bool (k0s X))∧w=w')∧(Calls Tryz.prog 146 #[.string (wbS X)] w fun e w'=>e = .returned (.bool (nmW X))∧w=w'):=by
 subst hX
 exact ⟨(q5i h).mono fun _ _ h=>⟨h.1,h.2.symm⟩,(k7y _ w).mono fun _ _ h=>⟨h.1,h.2.symm⟩,(k3b _ ht w).mono fun _ _ h=>⟨h.1,h.2.symm⟩⟩
theorem z5o (ht:∀ x∈ws,q3p x) (hS:∀ q,p<q→q≤ws.length→k8h K ws pl b q):v9m K ws pl b p:=by
 intro w h
 have hple:=h.le
 have hbw:b<w.heap.size:=h.row.lt
 show Calls Tryz.prog 179 #[.pointer (some ⟨b,0,none⟩)] w fun e w'=>q3n K ws pl b (.level 2) p w e w'
 by_cases hp:p<ws.length
 ·have htk:=ht _ (List.getElem_mem hp)
  have hX:=q3a hp
  obtain ⟨L1,L2,L3⟩:=v2b h hX (.inr htk)
  have HD:Hid (ws.drop p=ws[p]::ws.drop (p+1)):=q3v hp
  by_cases hnum:k0s ws[p]=true
  ·rw [hnum] at L2
   have HL1:=(show Hid (Calls _ _ _ _ _) from L1)
   have HL2:=(show Hid (Calls _ _ _ _ _) from L2)
   obtain ⟨hfig,h6⟩:=v9a htk hnum
   have HN:Hid (Calls Tryz.prog 145 #[.pointer (some ⟨b,0,none⟩)] w fun e w'=>e = .returned (.string (wbS ws[p]))∧Ry K ws pl b (p+1) w'∧But w.heap.size b w w'):=q7b h hp
   have HA:Hid (∀ W,Calls Tryz.prog 210 #[.string (wbS ws[p])] W fun e w'=>e = .returned (.tuple #[.int .i64 ((j3j ws[p]:Nat):Int),.nilIface])∧Below W.heap.size W w'):=fun W=>j7e ws[p] hfig (v4d htk) h6 W
   have HX:Hid (∀ W,Ry K ws pl b (p+1) W→But w.heap.size b w W→q3n K ws pl b (.level 2) p w (.returned (.slice (some ⟨W.heap.size,0,none⟩) 1 1)) (W.alloc (.cells #[.int .i64 1,.string ⟨#[]⟩,.int .i64 ((j3j ws[p]:Nat):Int)] 71))):=fun W hW hB=>by
    refine q3n.ok (m:=0) (ns:=[v3d ws[p]]) (u:=ws.drop (p+1)) ⟨by rw [HD.out];exact .lev2 (.sNum hnum),(q1o.one W (v3d ws[p])).down hB.size,?_,?_,hB.alloc hB.size _⟩
    ·rw [q0e,q0e];simp only [List.length_cons,List.length_nil];omega
    ·rw [q0e,show ws.length - (ws.length - (p+1))=p+1 by omega]
     exact hW.keep (q1j W _)
   generalize wbS ws[p]=S at HL1 HL2 HN HA
   generalize ((j3j ws[p]:Nat):Int)=V at HA HX
   clear L1 L2 L3 h hS ht htk hX hnum hfig h6
   go_enter Tryz.func179,Tryz.ntmps179
   go_wp2_with fail
   refine HL1.out.mono ?_
   rintro e w1 ⟨rfl,rfl⟩
   go_wp2_with fail
   refine HL2.out.mono ?_
   rintro e w2 ⟨rfl,rfl⟩
   go_wp2_with fail
   refine HN.out.mono ?_
   rintro e w3 ⟨rfl,h3,b3⟩
   have K3:=(show Hid (_) from And.intro h3 b3)
   have hs3:=b3.size
   clear h3 b3
   go_wp2_with fail
   refine (HA.out _).mono ?_
   rintro e w4 ⟨rfl,b4⟩
   have HX4:=(show Hid (_) from HX.out w4 (K3.out.1.keep b4) (K3.out.2.trans (But.of (b4.mono hs3))))
   clear b4
   go_wp2
   go_ret
   exact HX4.out
  ·have hnum':k0s ws[p]=false:=by simpa using hnum
   rw [hnum'] at L2
   have HL1:=(show Hid (Calls _ _ _ _ _) from L1)
   have HL2:=(show Hid (Calls _ _ _ _ _) from L2)
   by_cases hnm:nmW ws[p]=true
   ·rw [hnm] at L3
    have HL3:=(show Hid (Calls _ _ _ _ _) from L3)
    have HN:Hid (Calls Tryz.prog 211 #[.pointer (some ⟨b,0,none⟩)] w fun e w'=>q3n K ws pl b (.level 2) p w e w'):=(k7z hS hp hnm h).mono fun _ _ hG=>hG.lev2
    generalize wbS ws[p]=S at HL1 HL2 HL3
    clear L1 L2 L3 h hS ht htk hX hnum hnum' hnm
    go_enter Tryz.func179,Tryz.ntmps179
    go_wp2_with fail
    refine HL1.out.mono ?_
    rintro e w1 ⟨rfl,rfl⟩
    go_wp2_with fail
    refine HL2.out.mono ?_
    rintro e w2 ⟨rfl,rfl⟩
    go_wp2_with fail
    refine HL1.out.mono ?_
    rintro e w1 ⟨rfl,rfl⟩
    go_wp2_with fail
    refine HL3.out.mono ?_
    rintro e w2 ⟨rfl,rfl⟩
    go_wp2_with fail
    refine HN.out.mono ?_
    intro r w3 hG
    cases hG with
    | @bad u _ pr bt=>
     have HB:Hid (q3n K ws pl b (.level 2) p w (.panicked [q4a (pl (ws.length - u.length))]) w3):=.bad pr bt
     clear pr bt
     go_wp2
     exact ⟨rfl,HB.out⟩
    | @ok m ns u A c _ hg=>
     have HB:Hid (q3n K ws pl b (.level 2) p w (.returned (.slice A ns.length c)) w3):=.ok hg
     clear hg
     generalize ns.length=nl at HB ⊢
     go_wp2
     go_ret
     exact HB.out
   ·have hnm':nmW ws[p]=false:=by simpa using hnm
    rw [hnm'] at L3
    have HL3:=(show Hid (Calls _ _ _ _ _) from L3)
    by_cases h91:ws[p]=[91]
    ·have hm:ws[p]? = some [91]:=by rw [List.getElem?_eq_getElem hp,h91]
     have HH:Hid (Calls Tryz.prog 106 #[.pointer (some ⟨b,0,none⟩),.string ⟨#[91]⟩] w fun e w'=>e = .returned (.bool true)∧Ry K ws pl b (p+1) w'∧But w.heap.size b w w'):=q6a h [91] hm
     have HK:Hid (∀ W,Ry K ws pl b (p+1) W→But w.heap.size b w W→Calls Tryz.prog 212 #[.pointer (some ⟨b,0,none⟩),.agg #[.int .i64 4,.string ⟨#[]⟩,.int .i64 0],.string ⟨#[93]⟩] W fun r w'=>q3n K ws pl b (.level 2) p w r w'):=fun W hW hB=>by
      refine (k0o (e:=[93]) (op:=4) (tx:=⟨#[]⟩) (by simp) (by decide) (fun q h1 h2=>hS q (by omega) h2) hW).mono ?_
      intro r w' hG
      have hs:=hB.size
      cases hG with
      | bad pr bt=>exact .bad (by rw [HD.out,h91];exact .lev2 (.sLB pr)) (hB.trans (bt.mono hs))
      | @ok n ns u A c _ hg=>
       have hl:=hg.n
       rw [q0e] at hl
       refine q3n.ok (m:=0) (ns:=lsT n::ns) (u:=u) ⟨by rw [HD.out,h91];exact .lev2 (.sLO hg.pr),hg.o.down hs,?_,hg.rd,hB.trans (hg.bt.mono hs)⟩
       rw [q0e,List.length_cons];omega
     generalize wbS ws[p]=S at HL1 HL2 HL3
     clear L1 L2 L3 h hS ht htk hX hnum hnum' hnm hnm' hm h91
     go_enter Tryz.func179,Tryz.ntmps179
     go_wp2_with fail
     refine HL1.out.mono ?_
     rintro e w1 ⟨rfl,rfl⟩
     go_wp2_with fail
     refine HL2.out.mono ?_
     rintro e w2 ⟨rfl,rfl⟩
     go_wp2_with fail
     refine HL1.out.mono ?_
     rintro e w1 ⟨rfl,rfl⟩
     go_wp2_with fail
     refine HL3.out.mono ?_
     rintro e w2 ⟨rfl,rfl⟩
     go_wp2_with fail
     refine HH.out.mono ?_
     rintro e w2 ⟨rfl,h2,b2⟩
     have HK2:Hid (Calls Tryz.prog 212 #[.pointer (some ⟨b,0,none⟩),.agg #[.int .i64 4,.string ⟨#[]⟩,.int .i64 0],.string ⟨#[93]⟩] w2 fun r w'=>q3n K ws pl b (.level 2) p w r w'):=HK.out w2 h2 b2
     clear h2 b2 HH HK
     go_wp2_with fail
     refine HK2.out.mono ?_
     intro r w3 hG
     cases hG with
     | @bad u _ pr bt=>
      have HB:Hid (q3n K ws pl b (.level 2) p w (.panicked [q4a (pl (ws.length - u.length))]) w3):=.bad pr bt
      clear pr bt
      go_wp2
      exact ⟨rfl,HB.out⟩
     | @ok m ns u A c _ hg=>
      have HB:Hid (q3n K ws pl b (.level 2) p w (.returned (.slice A ns.length c)) w3):=.ok hg
      clear hg
      generalize ns.length=nl at HB ⊢
      go_wp2
      go_ret
      exact HB.out
    ·have hm:ws[p]?≠some [91]:=by rw [List.getElem?_eq_getElem hp];simpa using h91
     have HH:Hid (Calls Tryz.prog 106 #[.pointer (some ⟨b,0,none⟩),.string ⟨#[91]⟩] w fun e w'=>e = .returned (.bool false)∧w=w'):=(q7a h [91] (by simp) hm).mono fun _ _ h=>⟨h.1,h.2.symm⟩
     by_cases h40:ws[p]=[40]
     ·have hm4:ws[p]? = some [40]:=by rw [List.getElem?_eq_getElem hp,h40]
      have HM:Hid (Calls Tryz.prog 108 #[.pointer (some ⟨b,0,none⟩),.string ⟨#[40]⟩] w fun e w'=>e = .returned (.tuple #[])∧Ry K ws pl b (p+1) w'∧But w.heap.size b w w'):=q5h h [40] hm4
      have HD4:Hid (ws.drop p=[40]::ws.drop (p+1)):=by
       show _=_
       rw [HD.out,h40]
      have HS:Hid (k8h K ws pl b (p+1)):=hS (p+1) (by omega) (by omega)
      generalize wbS ws[p]=S at HL1 HL2 HL3
      clear L1 L2 L3 h hS ht htk hX hnum hnum' hnm hnm' hm h91 h40 hm4 HD
      go_enter Tryz.func179,Tryz.ntmps179
      go_wp2_with fail
      refine HL1.out.mono ?_
      rintro e w1 ⟨rfl,rfl⟩
      go_wp2_with fail
      refine HL2.out.mono ?_
      rintro e w2 ⟨rfl,rfl⟩
      go_wp2_with fail
      refine HL1.out.mono ?_
      rintro e w1 ⟨rfl,rfl⟩
      go_wp2_with fail
      refine HL3.out.mono ?_
      rintro e w2 ⟨rfl,rfl⟩
      go_wp2_with fail
      refine HH.out.mono ?_
      rintro e w2 ⟨rfl,rfl⟩
      go_wp2_with fail
      refine HM.out.mono ?_
      rintro e w3 ⟨rfl,h3,b3⟩
      have HB3:Hid (But w.heap.size b w w3):=b3
      have hs3:=b3.size
      have HSC:Hid (Calls Tryz.prog 109 #[.pointer (some ⟨b,0,none⟩)] w3 fun e w'=>q3n K ws pl b (.level 0) (p+1) w3 e w'):=HS.out w3 h3
      clear h3 b3 HM HH
      go_wp2_with fail
      refine HSC.out.mono ?_
      intro r w4 hG
      cases hG with
      | @bad u _ pr bt=>
       have HB:Hid (q3n K ws pl b (.level 2) p w (.panicked [q4a (pl (ws.length - u.length))]) w4):=.bad (by rw [HD4.out];exact .lev2 (.sPB pr)) (HB3.out.trans (bt.mono hs3))
       clear pr bt
       go_wp2
       exact ⟨rfl,HB.out⟩
      | @ok m ns u A c _ hg=>
       have hsf:=q9r hg.pr
       have hu:ws.drop (ws.length - u.length)=u:=q5s hsf.1
       have hl:=hg.n
       rw [q0e] at hl
       have hs4:=hg.bt.size
       have hb4:But w.heap.size b w w4:=HB3.out.trans (hg.bt.mono hs3)
       by_cases hm5:ws[ws.length - u.length]? = some [41]
       ·obtain ⟨hlt5,he5⟩:=List.getElem?_eq_some_iff.1 hm5
        have hu2:u=[41]::ws.drop (ws.length - u.length+1):=by
         have h9:=q3v hlt5
         rw [hu,he5] at h9
         exact h9
        have HM5:Hid (Calls Tryz.prog 108 #[.pointer (some ⟨b,0,none⟩),.string ⟨#[41]⟩] w4 fun e w'=>e = .returned (.tuple #[])∧q3n K ws pl b (.level 2) p w (.returned (.slice A ns.length c)) w'):=by
         refine (q5h hg.rd [41] hm5).mono ?_
         rintro e w5 ⟨rfl,h5,b5⟩
         have hul:u.length=(ws.drop (ws.length - u.length+1)).length+1:=by
          have h9:=congrArg List.length hu2
          rw [List.length_cons] at h9
          exact h9
         have hpr:=hg.pr
         rw [hu2] at hpr
         refine ⟨rfl,q3n.ok (m:=0) (ns:=ns) (u:=ws.drop (ws.length - u.length+1)) ⟨by rw [HD4.out];exact .lev2 (.sPC hpr),(hg.o.but2 b5 (by omega)).down hs3,?_,?_,hb4.trans (b5.mono (by omega))⟩⟩
         ·rw [q0e (p:=p)];omega
         ·rw [show ws.length - (ws.drop (ws.length - u.length+1)).length=ws.length - u.length+1 by omega]
          exact h5
        clear hg hu hu2 hm5 he5 hsf hl
        generalize ns.length=nl at HM5 ⊢
        go_wp2_with fail
        refine HM5.out.mono ?_
        rintro e w5 ⟨rfl,h5⟩
        have K5:=(show Hid (q3n _ _ _ _ _ _ _ _ _) from h5)
        clear h5
        go_wp2
        go_ret
        exact K5.out
       ·have HM5:Hid (Calls Tryz.prog 108 #[.pointer (some ⟨b,0,none⟩),.string ⟨#[41]⟩] w4 fun e w'=>e = .panicked [q4a (pl (ws.length - u.length))]∧q3n K ws pl b (.level 2) p w (.panicked [q4a (pl (ws.length - u.length))]) w'):=by
         refine (q6b hg.rd [41] (by simp) hm5).mono ?_
         rintro e w5 ⟨rfl,rfl⟩
         refine ⟨rfl,.bad ?_ hb4⟩
         rw [HD4.out]
         refine .lev2 (.sPX hg.pr ?_)
         rw [←hu,q1q]
         exact hm5
        clear hg hu hm5 hsf hl
        generalize ns.length=nl
        generalize pl (ws.length - u.length)=pp at HM5
        go_wp2_with fail
        refine HM5.out.mono ?_
        rintro e w5 ⟨rfl,h5⟩
        have K5:=(show Hid (q3n _ _ _ _ _ _ _ _ _) from h5)
        clear h5
        go_wp2
        exact ⟨rfl,K5.out⟩
     ·have hm4:ws[p]?≠some [40]:=by rw [List.getElem?_eq_getElem hp];simpa using h40
      have HM:Hid (Calls Tryz.prog 108 #[.pointer (some ⟨b,0,none⟩),.string ⟨#[40]⟩] w fun e w'=>e = .panicked [q4a (pl p)]∧w=w'):=(q6b h [40] (by simp) hm4).mono fun _ _ h=>⟨h.1,h.2.symm⟩
      have HX:Hid (q3n K ws pl b (.level 2) p w (.panicked [q4a (pl p)]) w):=j6r hple (by rw [HD.out];exact .lev2 (.sBad h40 h91 hnum' hnm')) (But.refl _ _ _)
      generalize wbS ws[p]=S at HL1 HL2 HL3
      clear L1 L2 L3 h hS ht htk hX hnum hnum' hnm hnm' hm h91 h40 hm4 HD
      go_enter Tryz.func179,Tryz.ntmps179
      go_wp2_with fail
      refine HL1.out.mono ?_
      rintro e w1 ⟨rfl,rfl⟩
      go_wp2_with fail
      refine HL2.out.mono ?_
      rintro e w2 ⟨rfl,rfl⟩
      go_wp2_with fail
      refine HL1.out.mono ?_
      rintro e w1 ⟨rfl,rfl⟩
      go_wp2_with fail
      refine HL3.out.mono ?_
      rintro e w2 ⟨rfl,rfl⟩
      go_wp2_with fail
      refine HH.out.mono ?_
      rintro e w2 ⟨rfl,rfl⟩
      go_wp2_with fail
      refine HM.out.mono ?_
      rintro e w3 ⟨rfl,rfl⟩
      go_wp2
      exact ⟨rfl,HX.out⟩
 ·have hpe:p=ws.length:=by omega
  have hX:=q5m (ws:=ws) (q:=p) (by omega)
  obtain ⟨L1,L2,L3⟩:=v2b h hX (.inl rfl)
  have hn1:k0s []=false:=rfl
  have hn2:nmW []=false:=by decide
  rw [hn1] at L2
  rw [hn2] at L3
  have HL1:=(show Hid (Calls _ _ _ _ _) from L1)
  have HL2:=(show Hid (Calls _ _ _ _ _) from L2)
  have HL3:=(show Hid (Calls _ _ _ _ _) from L3)
  have hno:∀ s,ws[p]?≠some s:=fun s=>by rw [List.getElem?_eq_none (by omega)];simp
  have HH:Hid (Calls Tryz.prog 106 #[.pointer (some ⟨b,0,none⟩),.string ⟨#[91]⟩] w fun e w'=>e = .returned (.bool false)∧w=w'):=(q7a h [91] (by simp) (hno _)).mono fun _ _ h=>⟨h.1,h.2.symm⟩
  have HM:Hid (Calls Tryz.prog 108 #[.pointer (some ⟨b,0,none⟩),.string ⟨#[40]⟩] w fun e w'=>e = .panicked [q4a (pl p)]∧w=w'):=(q6b h [40] (by simp) (hno _)).mono fun _ _ h=>⟨h.1,h.2.symm⟩
  have HX:Hid (q3n K ws pl b (.level 2) p w (.panicked [q4a (pl p)]) w):=by
   refine j6r hple ?_ (But.refl _ _ _)
   rw [List.drop_eq_nil_of_le (by omega)]
   exact .lev2 .sinN
  generalize wbS []=S at HL1 HL2 HL3
  clear L1 L2 L3 h hS ht hX hn1 hn2 hno hpe
  go_enter Tryz.func179,Tryz.ntmps179
  go_wp2_with fail
  refine HL1.out.mono ?_
  rintro e w1 ⟨rfl,rfl⟩
  go_wp2_with fail
  refine HL2.out.mono ?_
  rintro e w2 ⟨rfl,rfl⟩
  go_wp2_with fail
  refine HL1.out.mono ?_
  rintro e w1 ⟨rfl,rfl⟩
  go_wp2_with fail
  refine HL3.out.mono ?_
  rintro e w2 ⟨rfl,rfl⟩
  go_wp2_with fail
  refine HH.out.mono ?_
  rintro e w2 ⟨rfl,rfl⟩
  go_wp2_with fail
  refine HM.out.mono ?_
  rintro e w3 ⟨rfl,rfl⟩
  go_wp2
  exact ⟨rfl,HX.out⟩
theorem j6t (ht:∀ x∈ws,q3p x):∀ n p,p≤ws.length→ws.length - p≤n→v9m K ws pl b p∧v9n K ws pl b p∧k8h K ws pl b p:=by
 intro n
 induction n with
 | zero=>
  intro p hp hn
  have hs:v9m K ws pl b p:=z5o ht fun q h1 h2=>by omega
  have h1:v9n K ws pl b p:=k0p fun q h1 h2=>by
   obtain rfl:q=p:=by omega
   exact hs
  exact ⟨hs,h1,j6w fun q h3 h4=>by
   obtain rfl:q=p:=by omega
   exact h1⟩
 | succ n ih=>
  intro p hp hn
  have hs:v9m K ws pl b p:=z5o ht fun q h1 h2=>(ih q h2 (by omega)).2.2
  have hs':∀ q,p≤q→q≤ws.length→v9m K ws pl b q:=fun q h1 h2=>by
   rcases Nat.eq_or_lt_of_le h1 with rfl | h3
   ·exact hs
   ·exact (ih q h2 (by omega)).1
  have h1:v9n K ws pl b p:=k0p hs'
  have h1':∀ q,p≤q→q≤ws.length→v9n K ws pl b q:=fun q h1q h2=>by
   rcases Nat.eq_or_lt_of_le h1q with rfl | h3
   ·exact h1
   ·exact (ih q h2 (by omega)).2.1
  exact ⟨hs,h1,j6w h1'⟩
theorem k5o (ht:∀ x∈ws,q3p x) (hp:p≤ws.length):k8h K ws pl b p:=(j6t ht _ p hp (Nat.le_refl _)).2.2
end
end Go.Proofs.YtchdplceopegoaaGreatDoor
namespace Go.Proofs.YtchdplceopegoaaGreatDoor
open Go Go.RowKit
theorem y2w (s:List UInt8):(tkW s).length≤q0o s:=by
 unfold tkW
 refine Nat.le_trans (z0a _) ?_
 rw [List.length_take];omega
theorem z6t:∀ (n:Nat) (s:List UInt8) (i:Nat),s.length≤n→((lxW s i).map fun x=>x.2.length).sum≤s.length
 | 0,s,i,h=>by
  have:s=[]:=List.eq_nil_of_length_eq_zero (by omega)
  subst this
  rw [lxW,q9k];simp
 | n+1,s,i,h=>by
  cases s with
  | nil=>rw [lxW,q9k];simp
  | cons c r=>
   cases hs:spB c with
   | true=>
    have ih:=z6t n r (i+1) (by simp at h;omega)
    rw [lxW,z9k r i hs]
    rw [lxW] at ih
    simp only [List.length_cons];omega
   | false=>
    cases ho:q4p (c::r) with
    | false=>rw [lxW,k4i i hs ho];simp
    | true=>
     have hp:=q4g c r
     have hle:=q9y (c::r)
     have ih:=z6t n ((c::r).drop (q0o (c::r))) (i+q0o (c::r)) (by simp only [List.length_drop];omega)
     have hw:=y2w (c::r)
     rw [List.length_drop] at ih
     rw [lxW,z5b i hs ho]
     simp only [List.map_cons,List.sum_cons]
     omega
theorem j5y (s:List UInt8):((q2x s).map List.length).sum≤s.length:=by
 have h:=z6t s.length s 0 (Nat.le_refl _)
 rw [q2x,List.map_map]
 exact h
def szW (W:List Wd):Nat:=(W.map fun x=>x.length+1).sum
theorem k2q (a b:List Wd):szW (a++b)=szW a+szW b:=by simp [szW]
theorem q1n (x:Wd) (b:List Wd):szW (x::b)=x.length+1+szW b:=by simp [szW]
theorem z7n:∀ W:List Wd,W.length≤szW W
 | []=>Nat.zero_le _
 | x::r=>by have:=z7n r;rw [q1n,List.length_cons];omega
theorem v6i:∀ W:List Wd,(jb W).length≤szW W
 | []=>Nat.zero_le _
 | x::r=>by
  have:=v6i r
  rw [q1n]
  cases r with
  | nil=>simp [jb];omega
  | cons y r=>
   have e:jb (x::y::r)=x++32::jb (y::r):=by simp [jb]
   rw [e,List.length_append,List.length_cons];omega
theorem z2z:∀ (l cur:Wd),szW (Lib.fieldsGo cur l)≤2*(cur.length+l.length)
 | [],cur=>by
  cases cur with
  | nil=>simp [Lib.fieldsGo,szW]
  | cons a z=>simp [Lib.fieldsGo,szW];omega
 | c::l,cur=>by
  cases hs:Lib.isSp c with
  | true=>
   have ih:=z2z l []
   cases cur with
   | nil=>
    rw [Lib.fieldsGo_sp _ _ hs]
    simp only [List.length_nil,List.length_cons] at ih ⊢;omega
   | cons a z=>
    rw [Lib.fieldsGo_end _ _ _ hs (by simp),q1n]
    simp only [List.length_nil,List.length_cons] at ih ⊢;omega
  | false=>
   have ih:=z2z l (cur++[c])
   rw [Lib.fieldsGo_more _ _ _ hs]
   simp only [List.length_append,List.length_cons,List.length_nil] at ih ⊢;omega
theorem y0w (w:Wd):szW (q8q w)≤2*w.length:=by
 have:=z2z (w.drop 1) []
 rw [List.length_drop] at this
 simp only [List.length_nil] at this
 show szW (Lib.fieldsGo [] (w.drop 1))≤_
 omega
theorem j0z:∀ nts:List Wd,szW (nts.flatMap q8q)≤2*(nts.map List.length).sum
 | []=>Nat.zero_le _
 | x::r=>by
  have h1:=j0z r
  have h2:=y0w x
  rw [List.flatMap_cons,k2q,List.map_cons,List.sum_cons];omega
theorem v1b (ws:List Wd) (p k:Nat):(((ws.drop p).take k).map List.length).sum≤(ws.map List.length).sum:=by
 have e:ws=ws.take p++((ws.drop p).take k++(ws.drop p).drop k):=by rw [List.take_append_drop,List.take_append_drop]
 have h:=congrArg (fun l=>(l.map List.length).sum) e
 simp only [List.map_append,List.sum_append] at h
 omega
end Go.Proofs.YtchdplceopegoaaGreatDoor
