/- Texts as one: SyX, SyN, PgO, PgL. -/
import Derived.Test.YthjapabokcajhaaGreatDoorPb37
import Derived.Test.YthjapabokcajhaaGreatDoorPb34
import Derived.Test.YthjapabokcajhaaGreatDoorPb11
import Derived.Test.YthjapabokcajhaaGreatDoorShf
import Derived.Test.YthjapabokcajhaaGreatDoorPb08
import Derived.Test.YthjapabokcajhaaGreatDoorPb12
import Derived.Test.YthjapabokcajhaaGreatDoorPb27
import Derived.Test.YthjapabokcajhaaGreatDoorPb30
namespace Go.Proofs.YthjapabokcajhaaGreatDoor
open Go Go.RowKit
set_option maxRecDepth 100000
set_option maxHeartbeats 4000000
section
variable {K:LwK} {ws:List Wd} {pl:Nat→Nat} {b p:Nat} {w:World}
theorem v1c {X:Wd} (h:Ry K ws pl b p w) (hX:ws.getD p []=X) (ht:X=[]∨q3p X) :
  (Calls Tryz.prog 80 #[.pointer (some ⟨b,0,none⟩)] w fun e w'=>e = .returned (.string (wbS X))∧w=w')∧(Calls Tryz.prog 227 #[.string (wbS X)] w fun e w'=>e = .returned (.bool (k0m X))∧w=w')∧(Calls Tryz.prog 176 #[.string (wbS X)] w fun e w'=>e = .returned (.bool (nmW X))∧w=w'):=by
 subst hX
 exact ⟨(q5l h).mono fun _ _ h=>⟨h.1,h.2.symm⟩,(k7l _ w).mono fun _ _ h=>⟨h.1,h.2.symm⟩,(k2r _ ht w).mono fun _ _ h=>⟨h.1,h.2.symm⟩⟩
theorem z5k (ht:∀ x∈ws,q3p x) (hS:∀ q,p<q→q≤ws.length→k7w K ws pl b q):v1g K ws pl b p:=by
 intro w h
 have hple:=h.le
 have hbw:b<w.heap.size:=h.row.lt
 show Calls Tryz.prog 204 #[.pointer (some ⟨b,0,none⟩)] w fun e w'=>q3a K ws pl b (.level 2) p w e w'
 by_cases hp:p<ws.length
 ·have htk:=ht _ (List.getElem_mem hp)
  have hX:=q3b hp
  obtain ⟨L1,L2,L3⟩:=v1c h hX (.inr htk)
  have HD:Hid (ws.drop p=ws[p]::ws.drop (p+1)):=q3w hp
  by_cases hnum:k0m ws[p]=true
  ·rw [hnum] at L2
   have HL1:=(show Hid (Calls _ _ _ _ _) from L1)
   have HL2:=(show Hid (Calls _ _ _ _ _) from L2)
   obtain ⟨hfig,h6⟩:=v8f htk hnum
   have HN:Hid (Calls Tryz.prog 175 #[.pointer (some ⟨b,0,none⟩)] w fun e w'=>e = .returned (.string (wbS ws[p]))∧Ry K ws pl b (p+1) w'∧But w.heap.size b w w'):=q7a h hp
   have HA:Hid (∀ W,Calls Tryz.prog 228 #[.string (wbS ws[p])] W fun e w'=>e = .returned (.tuple #[.int .i64 ((j2v ws[p]:Nat):Int),.nilIface])∧Below W.heap.size W w'):=fun W=>j6g ws[p] hfig (v3c htk) h6 W
   have HX:Hid (∀ W,Ry K ws pl b (p+1) W→But w.heap.size b w W→q3a K ws pl b (.level 2) p w (.returned (.slice (some ⟨W.heap.size,0,none⟩) 1 1)) (W.alloc (.cells #[.int .i64 1,.string ⟨#[]⟩,.int .i64 ((j2v ws[p]:Nat):Int)] 47))):=fun W hW hB=>by
    refine q3a.ok (m:=0) (ns:=[v2e ws[p]]) (u:=ws.drop (p+1)) ⟨by rw [HD.out];exact .lev2 (.sNum hnum),(q1k.one W (v2e ws[p])).down hB.size,?_,?_,hB.alloc hB.size _⟩
    ·rw [q0d,q0d];simp only [List.length_cons,List.length_nil];omega
    ·rw [q0d,show ws.length - (ws.length - (p+1))=p+1 by omega]
     exact hW.keep (q3e W _)
   generalize wbS ws[p]=S at HL1 HL2 HN HA
   generalize ((j2v ws[p]:Nat):Int)=V at HA HX
   clear L1 L2 L3 h hS ht htk hX hnum hfig h6
   go_enter Tryz.func204,Tryz.ntmps204
   go_wp2_with fail
   refine HL1.out.mono ?_
   rintro e w1 ⟨rfl,rfl⟩
   go_wp2_with fail
   refine HL2.out.mono ?_
   rintro e w2 ⟨rfl,rfl⟩
   go_wp2_with fail
   refine HN.out.mono ?_
   rintro e w3 ⟨rfl,h3,b3⟩
   have K3:=(show Hid (_) from And.intro h3 b3)
   have hs3:=b3.size
   clear h3 b3
   go_wp2_with fail
   refine (HA.out _).mono ?_
   rintro e w4 ⟨rfl,b4⟩
   have HX4:=(show Hid (_) from HX.out w4 (K3.out.1.keep b4) (K3.out.2.trans (But.of (b4.mono hs3))))
   clear b4
   go_wp2
   go_ret
   exact HX4.out
  ·have hnum':k0m ws[p]=false:=by simpa using hnum
   rw [hnum'] at L2
   have HL1:=(show Hid (Calls _ _ _ _ _) from L1)
   have HL2:=(show Hid (Calls _ _ _ _ _) from L2)
   by_cases hnm:nmW ws[p]=true
   ·rw [hnm] at L3
    have HL3:=(show Hid (Calls _ _ _ _ _) from L3)
    have HN:Hid (Calls Tryz.prog 229 #[.pointer (some ⟨b,0,none⟩)] w fun e w'=>q3a K ws pl b (.level 2) p w e w'):=(k7m hS hp hnm h).mono fun _ _ hG=>hG.lev2
    generalize wbS ws[p]=S at HL1 HL2 HL3
    clear L1 L2 L3 h hS ht htk hX hnum hnum' hnm
    go_enter Tryz.func204,Tryz.ntmps204
    go_wp2_with fail
    refine HL1.out.mono ?_
    rintro e w1 ⟨rfl,rfl⟩
    go_wp2_with fail
    refine HL2.out.mono ?_
    rintro e w2 ⟨rfl,rfl⟩
    go_wp2_with fail
    refine HL1.out.mono ?_
    rintro e w1 ⟨rfl,rfl⟩
    go_wp2_with fail
    refine HL3.out.mono ?_
    rintro e w2 ⟨rfl,rfl⟩
    go_wp2_with fail
    refine HN.out.mono ?_
    intro r w3 hG
    cases hG with
    | @bad u _ pr bt=>
     have HB:Hid (q3a K ws pl b (.level 2) p w (.panicked [q3t (pl (ws.length - u.length))]) w3):=.bad pr bt
     clear pr bt
     go_wp2
     exact ⟨rfl,HB.out⟩
    | @ok m ns u A c _ hg=>
     have HB:Hid (q3a K ws pl b (.level 2) p w (.returned (.slice A ns.length c)) w3):=.ok hg
     clear hg
     generalize ns.length=nl at HB ⊢
     go_wp2
     go_ret
     exact HB.out
   ·have hnm':nmW ws[p]=false:=by simpa using hnm
    rw [hnm'] at L3
    have HL3:=(show Hid (Calls _ _ _ _ _) from L3)
    by_cases h91:ws[p]=[91]
    ·have hm:ws[p]? = some [91]:=by rw [List.getElem?_eq_getElem hp,h91]
     have HH:Hid (Calls Tryz.prog 127 #[.pointer (some ⟨b,0,none⟩),.string ⟨#[91]⟩] w fun e w'=>e = .returned (.bool true)∧Ry K ws pl b (p+1) w'∧But w.heap.size b w w'):=q4s h [91] hm
     have HK:Hid (∀ W,Ry K ws pl b (p+1) W→But w.heap.size b w W→Calls Tryz.prog 230 #[.pointer (some ⟨b,0,none⟩),.agg #[.int .i64 4,.string ⟨#[]⟩,.int .i64 0],.string ⟨#[93]⟩] W fun r w'=>q3a K ws pl b (.level 2) p w r w'):=fun W hW hB=>by
      refine (k0h (e:=[93]) (op:=4) (tx:=⟨#[]⟩) (by simp) (by decide) (fun q h1 h2=>hS q (by omega) h2) hW).mono ?_
      intro r w' hG
      have hs:=hB.size
      cases hG with
      | bad pr bt=>exact .bad (by rw [HD.out,h91];exact .lev2 (.sLB pr)) (hB.trans (bt.mono hs))
      | @ok n ns u A c _ hg=>
       have hl:=hg.n
       rw [q0d] at hl
       refine q3a.ok (m:=0) (ns:=lsT n::ns) (u:=u) ⟨by rw [HD.out,h91];exact .lev2 (.sLO hg.pr),hg.o.down hs,?_,hg.rd,hB.trans (hg.bt.mono hs)⟩
       rw [q0d,List.length_cons];omega
     generalize wbS ws[p]=S at HL1 HL2 HL3
     clear L1 L2 L3 h hS ht htk hX hnum hnum' hnm hnm' hm h91
     go_enter Tryz.func204,Tryz.ntmps204
     go_wp2_with fail
     refine HL1.out.mono ?_
     rintro e w1 ⟨rfl,rfl⟩
     go_wp2_with fail
     refine HL2.out.mono ?_
     rintro e w2 ⟨rfl,rfl⟩
     go_wp2_with fail
     refine HL1.out.mono ?_
     rintro e w1 ⟨rfl,rfl⟩
     go_wp2_with fail
     refine HL3.out.mono ?_
     rintro e w2 ⟨rfl,rfl⟩
     go_wp2_with fail
     refine HH.out.mono ?_
     rintro e w2 ⟨rfl,h2,b2⟩
     have HK2:Hid (Calls Tryz.prog 230 #[.pointer (some ⟨b,0,none⟩),.agg #[.int .i64 4,.string ⟨#[]⟩,.int .i64 0],.string ⟨#[93]⟩] w2 fun r w'=>q3a K ws pl b (.level 2) p w r w'):=HK.out w2 h2 b2
     clear h2 b2 HH HK
     go_wp2_with fail
     refine HK2.out.mono ?_
     intro r w3 hG
     cases hG with
     | @bad u _ pr bt=>
      have HB:Hid (q3a K ws pl b (.level 2) p w (.panicked [q3t (pl (ws.length - u.length))]) w3):=.bad pr bt
      clear pr bt
      go_wp2
      exact ⟨rfl,HB.out⟩
     | @ok m ns u A c _ hg=>
      have HB:Hid (q3a K ws pl b (.level 2) p w (.returned (.slice A ns.length c)) w3):=.ok hg
      clear hg
      generalize ns.length=nl at HB ⊢
      go_wp2
      go_ret
      exact HB.out
    ·have hm:ws[p]?≠some [91]:=by rw [List.getElem?_eq_getElem hp];simpa using h91
     have HH:Hid (Calls Tryz.prog 127 #[.pointer (some ⟨b,0,none⟩),.string ⟨#[91]⟩] w fun e w'=>e = .returned (.bool false)∧w=w'):=(q6e h [91] (by simp) hm).mono fun _ _ h=>⟨h.1,h.2.symm⟩
     by_cases h40:ws[p]=[40]
     ·have hm4:ws[p]? = some [40]:=by rw [List.getElem?_eq_getElem hp,h40]
      have HM:Hid (Calls Tryz.prog 129 #[.pointer (some ⟨b,0,none⟩),.string ⟨#[40]⟩] w fun e w'=>e = .returned (.tuple #[])∧Ry K ws pl b (p+1) w'∧But w.heap.size b w w'):=q5k h [40] hm4
      have HD4:Hid (ws.drop p=[40]::ws.drop (p+1)):=by
       show _=_
       rw [HD.out,h40]
      have HS:Hid (k7w K ws pl b (p+1)):=hS (p+1) (by omega) (by omega)
      generalize wbS ws[p]=S at HL1 HL2 HL3
      clear L1 L2 L3 h hS ht htk hX hnum hnum' hnm hnm' hm h91 h40 hm4 HD
      go_enter Tryz.func204,Tryz.ntmps204
      go_wp2_with fail
      refine HL1.out.mono ?_
      rintro e w1 ⟨rfl,rfl⟩
      go_wp2_with fail
      refine HL2.out.mono ?_
      rintro e w2 ⟨rfl,rfl⟩
      go_wp2_with fail
      refine HL1.out.mono ?_
      rintro e w1 ⟨rfl,rfl⟩
      go_wp2_with fail
      refine HL3.out.mono ?_
      rintro e w2 ⟨rfl,rfl⟩
      go_wp2_with fail
      refine HH.out.mono ?_
      rintro e w2 ⟨rfl,rfl⟩
      go_wp2_with fail
      refine HM.out.mono ?_
      rintro e w3 ⟨rfl,h3,b3⟩
      have HB3:Hid (But w.heap.size b w w3):=b3
      have hs3:=b3.size
      have HSC:Hid (Calls Tryz.prog 130 #[.pointer (some ⟨b,0,none⟩)] w3 fun e w'=>q3a K ws pl b (.level 0) (p+1) w3 e w'):=HS.out w3 h3
      clear h3 b3 HM HH
      go_wp2_with fail
      refine HSC.out.mono ?_
      intro r w4 hG
      cases hG with
      | @bad u _ pr bt=>
       have HB:Hid (q3a K ws pl b (.level 2) p w (.panicked [q3t (pl (ws.length - u.length))]) w4):=.bad (by rw [HD4.out];exact .lev2 (.sPB pr)) (HB3.out.trans (bt.mono hs3))
       clear pr bt
       go_wp2
       exact ⟨rfl,HB.out⟩
      | @ok m ns u A c _ hg=>
       have hsf:=q9j hg.pr
       have hu:ws.drop (ws.length - u.length)=u:=q5w hsf.1
       have hl:=hg.n
       rw [q0d] at hl
       have hs4:=hg.bt.size
       have hb4:But w.heap.size b w w4:=HB3.out.trans (hg.bt.mono hs3)
       by_cases hm5:ws[ws.length - u.length]? = some [41]
       ·obtain ⟨hlt5,he5⟩:=List.getElem?_eq_some_iff.1 hm5
        have hu2:u=[41]::ws.drop (ws.length - u.length+1):=by
         have h9:=q3w hlt5
         rw [hu,he5] at h9
         exact h9
        have HM5:Hid (Calls Tryz.prog 129 #[.pointer (some ⟨b,0,none⟩),.string ⟨#[41]⟩] w4 fun e w'=>e = .returned (.tuple #[])∧q3a K ws pl b (.level 2) p w (.returned (.slice A ns.length c)) w'):=by
         refine (q5k hg.rd [41] hm5).mono ?_
         rintro e w5 ⟨rfl,h5,b5⟩
         have hul:u.length=(ws.drop (ws.length - u.length+1)).length+1:=by
          have h9:=congrArg List.length hu2
          rw [List.length_cons] at h9
          exact h9
         have hpr:=hg.pr
         rw [hu2] at hpr
         refine ⟨rfl,q3a.ok (m:=0) (ns:=ns) (u:=ws.drop (ws.length - u.length+1)) ⟨by rw [HD4.out];exact .lev2 (.sPC hpr),(hg.o.but2 b5 (by omega)).down hs3,?_,?_,hb4.trans (b5.mono (by omega))⟩⟩
         ·rw [q0d (p:=p)];omega
         ·rw [show ws.length - (ws.drop (ws.length - u.length+1)).length=ws.length - u.length+1 by omega]
          exact h5
        clear hg hu hu2 hm5 he5 hsf hl
        generalize ns.length=nl at HM5 ⊢
        go_wp2_with fail
        refine HM5.out.mono ?_
        rintro e w5 ⟨rfl,h5⟩
        have K5:=(show Hid (q3a _ _ _ _ _ _ _ _ _) from h5)
        clear h5
        go_wp2
        go_ret
        exact K5.out
       ·have HM5:Hid (Calls Tryz.prog 129 #[.pointer (some ⟨b,0,none⟩),.string ⟨#[41]⟩] w4 fun e w'=>e = .panicked [q3t (pl (ws.length - u.length))]∧q3a K ws pl b (.level 2) p w (.panicked [q3t (pl (ws.length - u.length))]) w'):=by
         refine (q6f hg.rd [41] (by simp) hm5).mono ?_
         rintro e w5 ⟨rfl,rfl⟩
         refine ⟨rfl,.bad ?_ hb4⟩
         rw [HD4.out]
         refine .lev2 (.sPX hg.pr ?_)
         rw [←hu,q1m]
         exact hm5
        clear hg hu hm5 hsf hl
        generalize ns.length=nl
        generalize pl (ws.length - u.length)=pp at HM5
        go_wp2_with fail
        refine HM5.out.mono ?_
        rintro e w5 ⟨rfl,h5⟩
        have K5:=(show Hid (q3a _ _ _ _ _ _ _ _ _) from h5)
        clear h5
        go_wp2
        exact ⟨rfl,K5.out⟩
     ·have hm4:ws[p]?≠some [40]:=by rw [List.getElem?_eq_getElem hp];simpa using h40
      have HM:Hid (Calls Tryz.prog 129 #[.pointer (some ⟨b,0,none⟩),.string ⟨#[40]⟩] w fun e w'=>e = .panicked [q3t (pl p)]∧w=w'):=(q6f h [40] (by simp) hm4).mono fun _ _ h=>⟨h.1,h.2.symm⟩
      have HX:Hid (q3a K ws pl b (.level 2) p w (.panicked [q3t (pl p)]) w):=j5t hple (by rw [HD.out];exact .lev2 (.sBad h40 h91 hnum' hnm')) (But.refl _ _ _)
      generalize wbS ws[p]=S at HL1 HL2 HL3
      clear L1 L2 L3 h hS ht htk hX hnum hnum' hnm hnm' hm h91 h40 hm4 HD
      go_enter Tryz.func204,Tryz.ntmps204
      go_wp2_with fail
      refine HL1.out.mono ?_
      rintro e w1 ⟨rfl,rfl⟩
      go_wp2_with fail
      refine HL2.out.mono ?_
      rintro e w2 ⟨rfl,rfl⟩
      go_wp2_with fail
      refine HL1.out.mono ?_
      rintro e w1 ⟨rfl,rfl⟩
      go_wp2_with fail
      refine HL3.out.mono ?_
      rintro e w2 ⟨rfl,rfl⟩
      go_wp2_with fail
      refine HH.out.mono ?_
      rintro e w2 ⟨rfl,rfl⟩
      go_wp2_with fail
      refine HM.out.mono ?_
      rintro e w3 ⟨rfl,rfl⟩
      go_wp2
      exact ⟨rfl,HX.out⟩
 ·have hpe:p=ws.length:=by omega
  have hX:=q5p (ws:=ws) (q:=p) (by omega)
  obtain ⟨L1,L2,L3⟩:=v1c h hX (.inl rfl)
  have hn1:k0m []=false:=rfl
  have hn2:nmW []=false:=by decide
  rw [hn1] at L2
  rw [hn2] at L3
  have HL1:=(show Hid (Calls _ _ _ _ _) from L1)
  have HL2:=(show Hid (Calls _ _ _ _ _) from L2)
  have HL3:=(show Hid (Calls _ _ _ _ _) from L3)
  have hno:∀ s,ws[p]?≠some s:=fun s=>by rw [List.getElem?_eq_none (by omega)];simp
  have HH:Hid (Calls Tryz.prog 127 #[.pointer (some ⟨b,0,none⟩),.string ⟨#[91]⟩] w fun e w'=>e = .returned (.bool false)∧w=w'):=(q6e h [91] (by simp) (hno _)).mono fun _ _ h=>⟨h.1,h.2.symm⟩
  have HM:Hid (Calls Tryz.prog 129 #[.pointer (some ⟨b,0,none⟩),.string ⟨#[40]⟩] w fun e w'=>e = .panicked [q3t (pl p)]∧w=w'):=(q6f h [40] (by simp) (hno _)).mono fun _ _ h=>⟨h.1,h.2.symm⟩
  have HX:Hid (q3a K ws pl b (.level 2) p w (.panicked [q3t (pl p)]) w):=by
   refine j5t hple ?_ (But.refl _ _ _)
   rw [List.drop_eq_nil_of_le (by omega)]
   exact .lev2 .sinN
  generalize wbS []=S at HL1 HL2 HL3
  clear L1 L2 L3 h hS ht hX hn1 hn2 hno hpe
  go_enter Tryz.func204,Tryz.ntmps204
  go_wp2_with fail
  refine HL1.out.mono ?_
  rintro e w1 ⟨rfl,rfl⟩
  go_wp2_with fail
  refine HL2.out.mono ?_
  rintro e w2 ⟨rfl,rfl⟩
  go_wp2_with fail
  refine HL1.out.mono ?_
  rintro e w1 ⟨rfl,rfl⟩
  go_wp2_with fail
  refine HL3.out.mono ?_
  rintro e w2 ⟨rfl,rfl⟩
  go_wp2_with fail
  refine HH.out.mono ?_
  rintro e w2 ⟨rfl,rfl⟩
  go_wp2_with fail
  refine HM.out.mono ?_
  rintro e w3 ⟨rfl,rfl⟩
  go_wp2
  exact ⟨rfl,HX.out⟩
theorem j5v (ht:∀ x∈ws,q3p x):∀ n p,p≤ws.length→ws.length - p≤n→v1g K ws pl b p∧v1h K ws pl b p∧k7w K ws pl b p:=by
 intro n
 induction n with
 | zero=>
  intro p hp hn
  have hs:v1g K ws pl b p:=z5k ht fun q h1 h2=>by omega
  have h1:v1h K ws pl b p:=k0i fun q h1 h2=>by
   obtain rfl:q=p:=by omega
   exact hs
  exact ⟨hs,h1,j5y fun q h3 h4=>by
   obtain rfl:q=p:=by omega
   exact h1⟩
 | succ n ih=>
  intro p hp hn
  have hs:v1g K ws pl b p:=z5k ht fun q h1 h2=>(ih q h2 (by omega)).2.2
  have hs':∀ q,p≤q→q≤ws.length→v1g K ws pl b q:=fun q h1 h2=>by
   rcases Nat.eq_or_lt_of_le h1 with rfl | h3
   ·exact hs
   ·exact (ih q h2 (by omega)).1
  have h1:v1h K ws pl b p:=k0i hs'
  have h1':∀ q,p≤q→q≤ws.length→v1h K ws pl b q:=fun q h1q h2=>by
   rcases Nat.eq_or_lt_of_le h1q with rfl | h3
   ·exact h1
   ·exact (ih q h2 (by omega)).2.1
  exact ⟨hs,h1,j5y h1'⟩
theorem k4z (ht:∀ x∈ws,q3p x) (hp:p≤ws.length):k7w K ws pl b p:=(j5v ht _ p hp (Nat.le_refl _)).2.2
end
end Go.Proofs.YthjapabokcajhaaGreatDoor
namespace Go.Proofs.YthjapabokcajhaaGreatDoor
open Go Go.RowKit
set_option maxRecDepth 100000
set_option maxHeartbeats 4000000
theorem j1d (s:ByteArray) (w:World):Calls Tryz.prog 70 #[.slice none 0 0,.string s] w fun e w'=>e = .returned (.string ⟨#[]⟩)∧Below w.heap.size w w':=by
 go_enter Tryz.func70,Tryz.ntmps70
 go_wp2
 go_ret
 exact ⟨rfl,Below.refl _ _⟩
theorem z9z {B:Nat} {w:World} {A:Option Addr} {n c:Nat} {xs:List ByteArray} (h:q2p B (.slice A n c) xs w):n=xs.length∧n≤c∧((A=none∧n=0∧c=0)∨∃ g,A=some ⟨g,0,none⟩∧g<w.heap.size):=by
 rcases h.2 with ⟨hv,h0⟩ | ⟨g,c',cur,hv,_,hg,hnc,_⟩
 ·simp only [Value.slice.injEq] at hv
  obtain ⟨rfl,rfl,rfl⟩:=hv
  exact ⟨h0.symm,Nat.le_refl _,.inl ⟨rfl,rfl,rfl⟩⟩
 ·simp only [Value.slice.injEq] at hv
  obtain ⟨rfl,rfl,rfl⟩:=hv
  exact ⟨rfl,hnc,.inr ⟨g,rfl,(Array.getElem?_eq_some_iff.1 hg).1⟩⟩
theorem j1c {B:Nat} {A:Option Addr} {n c:Nat} {W:List Wd} {w:World} (h:q2p B (.slice A n c) (W.map wbS) w) (hs:szW W≤1000000):Calls Tryz.prog 70 #[.slice A n c,.string ⟨#[32]⟩] w fun e w'=>e = .returned (.string (wbS (jb W)))∧Below w.heap.size w w':=by
 obtain ⟨hn,hc,hA⟩:=z9z h
 have hl:=z7i W
 have hj:=v5e W
 have hml:(W.map wbS).length=W.length:=List.length_map ..
 rcases hA with ⟨rfl,rfl,rfl⟩ | ⟨g,rfl,hg⟩
 ·have:W=[]:=List.eq_nil_of_length_eq_zero (by omega)
  subst this
  exact j1d _ w
 ·subst hn
  have e1:(W.map wbS).map (fun x=>x.data.toList)=W:=by
   rw [List.map_map]
   exact List.map_id W
  have e2:Lib.join ((W.map wbS).map (fun x=>x.data.toList)) (⟨#[32]⟩:ByteArray).data.toList=jb W:=by
   rw [e1]
   exact j0y W
  have h1:=join_sh g 0 c (W.map wbS) ⟨#[32]⟩ w ?_ hg (by omega) hc (by rw [e2];omega)
  ·rw [e2] at h1
   exact h1
  ·intro j x hx
   obtain ⟨hj,rfl⟩:=List.getElem?_eq_some_iff.1 hx
   obtain ⟨b',o',e,_,c1⟩:=z9y h j hj
   simp only [Option.some.injEq,Addr.mk.injEq,and_true] at e
   obtain ⟨rfl,rfl⟩:=e
   exact c1
theorem v8o {w:Wd} {S:ByteArray} (h:wbS w=S):S.extract 1 S.size=wbS (w.drop 1):=by
 subst h
 rw [k2k]
 congr 1
 rw [List.take_of_length_le]
 ·rfl
 ·rw [List.length_drop,q0b];omega
theorem k5t {x:Wd} (hx:v1z x) (hl:x.length≤60000) (w:World) (ht:z2a w):Calls Tryz.prog 103 #[.string (wbS (x.drop 1))] w fun e w'=>∃ g,e = .returned (.slice (some ⟨g,0,none⟩) (q8j x).length (q8j x).length)∧Wds w' (some ⟨g,0,none⟩) ((q8j x).map wbS)∧Below w.heap.size w w':=by
 have hb:btL (wbS (x.drop 1))=x.drop 1:=rfl
 refine (fields_sh (wbS (x.drop 1)) w (by rw [←q0b,hb,List.length_drop];omega) ?_ ht.spc).mono ?_
 ·intro j c hj
  have hm:c∈x:=List.mem_of_mem_drop (List.mem_of_getElem? (show (x.drop 1)[j]? = some c from hj))
  have:=hx.2 c hm
  simp only [prB,Bool.and_eq_true,decide_eq_true_eq] at this
  omega
 ·rintro e w' ⟨rfl,rfl⟩
  refine ⟨w.heap.size,rfl,?_,q3e w _⟩
  intro i hi
  have hi2:i<(q8j x).length:=by simpa using hi
  refine ⟨w.heap.size,0,rfl,by rw [World.size_alloc];omega,?_⟩
  rw [Nat.zero_add]
  have hk:=heap_alloc_new w (.cells ((Lib.fields (btL (wbS (x.drop 1)))).map fun l=>Value.string ⟨l.toArray⟩).toArray 9)
  rw [Lib.cell_of_heap hk]
  show ((Lib.fields (x.drop 1)).map fun l=>Value.string ⟨l.toArray⟩).toArray[i]? = _
  rw [List.getElem?_toArray,List.getElem?_map,show (Lib.fields (x.drop 1))[i]? = some (q8j x)[i] from List.getElem?_eq_getElem hi2]
  simp [wbS]
theorem z9m:∀ (ws:List Wd) (x:Wd),x∈ws→x.length≤(ws.map List.length).sum
 | y::r,x,h=>by
  rw [List.map_cons,List.sum_cons]
  rcases List.mem_cons.1 h with rfl | h
  ·omega
  ·have:=z9m r x h
   omega
structure y3j (K:LwK) (ws:List Wd) (pl:Nat→Nat) (b p:Nat) (w:World) (q:Nat) (W:List Wd) (v:Value) (wr:World):Prop where
 pq:p≤q
 o:q2p w.heap.size v (W.map wbS) wr
 rd:Ry K ws pl b q wr
 bt:But w.heap.size b w wr
 eq:W=((ws.drop p).take (q - p)).flatMap q8j
 nt:∀ x∈(ws.drop p).take (q - p),v1z x
structure v8v (K:LwK) (ws:List Wd) (pl:Nat→Nat) (b p:Nat) (w:World) (q:Nat) (n:Bool) (t:List Td) (v:Value) (w':World):Prop where
 lt:p<q
 o:q1k w.heap.size v t w'
 ne:t≠[]
 l:t.length≤100000
 rd:Ry K ws pl b q w'
 bt:But w.heap.size b w w'
 pg:∀ pv acc r,(pv=true→∀ x,ws[p]? = some x→x.headD 0≠35)→PG n (acc++[t]) (ws.drop q) r→PG pv acc (ws.drop p) r
 nx:n=true→∀ x,ws[q]? = some x→x.headD 0≠35
inductive q9w (K:LwK) (ws:List Wd) (pl:Nat→Nat) (b p:Nat) (w:World):Ending→World→Prop where
 | ok {q n t A c w'} (h:v8v K ws pl b p w q n t (.slice A t.length c) w'):q9w K ws pl b p w (.returned (.slice A t.length c)) w'
 | bad {u w'} (pg:∀ pv acc,PG pv acc (ws.drop p) (.bad u)) (bt:But w.heap.size b w w'):q9w K ws pl b p w (.panicked [q3t (pl (ws.length - u.length))]) w'
theorem z7j {ws:List Wd} {p q:Nat} (h:p≤q) (hq:q<ws.length):(ws.drop p).take (q+1 - p)=(ws.drop p).take (q - p)++[ws[q]]:=by
 rw [show q+1 - p=q - p+1 by omega,List.take_succ_eq_append_getElem (by rw [List.length_drop];omega)]
 congr 2
 rw [List.getElem_drop]
 congr 1
 omega
theorem k5p (ws:List Wd) {p q:Nat} (h:p≤q):ws.drop p=(ws.drop p).take (q - p)++ws.drop q:=by
 have e:ws.drop q=(ws.drop p).drop (q - p):=by rw [List.drop_drop];congr 1;omega
 rw [e,List.take_append_drop]
theorem k7n {K:LwK} {ws:List Wd} {pl:Nat→Nat} {b p:Nat} {w:World} (htk:∀ x∈ws,q3p x) (htot:(ws.map List.length).sum≤60000) (hp:p<ws.length) (hn:ws[p].headD 0=35) (hbV:∀ w',But w.heap.size b w w'→z2a w') (h:Ry K ws pl b p w) :
  Calls Tryz.prog 126 #[.pointer (some ⟨b,0,none⟩)] w fun e w'=>q9w K ws pl b p w e w':=by
 have HTK:Hid (∀ x∈ws,q3p x):=htk
 have HTV:Hid (∀ w',But w.heap.size b w w'→z2a w'):=hbV
 have HLW:Hid (∀ x∈ws,x.length≤60000):=fun x hx=>by
  have:=z9m ws x hx
  omega
 have HSZ:Hid (∀ q,szW (((ws.drop p).take (q - p)).flatMap q8j)≤120000):=fun q=>by
  have h1:=j0i ((ws.drop p).take (q - p))
  have h2:=v0d ws p (q - p)
  omega
 have hbw:b<w.heap.size:=h.row.lt
 have hgw:=h.gwlt
 have hga:=h.galt
 have HV0:Hid (y3j K ws pl b p w p [] (.slice none 0 0) w):=⟨Nat.le_refl _,World.ownsRow_nil _ _ _ _,h,But.refl _ _ _,by simp,fun x hx=>by simp at hx⟩
 clear h htk hbV
 go_enter Tryz.func126,Tryz.ntmps126
 go_wp2_with fail
 go_loopw [3] (fun x wr=>∃ (q:Nat) (W:List Wd) (A:Option Addr) (n c:Nat),x = .slice A n c∧W.length=n∧y3j K ws pl b p w q W (.slice A n c) wr) (fun _ wr=>k2d wr b)
 case atStart=>exact ⟨p,[],_,_,_,rfl,rfl,HV0.out⟩
 case round=>
  obtain ⟨q,W,A,n,c,rfl,hWn,hV⟩:=hrel
  have hqle:=hV.rd.le
  have HV:=(show Hid (_) from hV)
  have HWN:Hid (W.length=n):=hWn
  have hwb:=hV.bt.size
  have HL1:Hid (Calls Tryz.prog 80 #[.pointer (some ⟨b,0,none⟩)] wr fun e w'=>e = .returned (.string (wbS (ws.getD q [])))∧wr=w'):=(q5l hV.rd).mono fun _ _ h=>⟨h.1,h.2.symm⟩
  have HL2:Hid (Calls Tryz.prog 125 #[.string (wbS (ws.getD q []))] wr fun e w'=>e = .returned (.bool (decide ((ws.getD q []).headD 0=35)))∧wr=w'):=(z3w _ wr).mono fun _ _ h=>⟨h.1,h.2.symm⟩
  by_cases hnt:(ws.getD q []).headD 0=35
  ·have hq:q<ws.length:=by
    rcases Nat.lt_or_ge q ws.length with h' | h'
    ·exact h'
    ·rw [q5p h'] at hnt;simp at hnt
   rw [decide_eq_true hnt] at HL2
   rw [q3b hq] at hnt HL1 HL2
   have hisn:=y1y (HTK.out _ (List.getElem_mem hq)) hnt
   have HN:Hid (Calls Tryz.prog 175 #[.pointer (some ⟨b,0,none⟩)] wr fun e w'=>e = .returned (.string (wbS ws[q]))∧Ry K ws pl b (q+1) w'∧But wr.heap.size b wr w'):=q7a hV.rd hq
   have hszx:1≤(wbS ws[q]).size:=by
    have:=j4o (HTK.out _ (List.getElem_mem hq))
    rw [←q0b];exact this
   have HF:Hid (∀ W',But w.heap.size b w W'→Calls Tryz.prog 103 #[.string ((wbS ws[q]).extract 1 (wbS ws[q]).size)] W' fun e w'=>∃ g,e = .returned (.slice (some ⟨g,0,none⟩) (q8j ws[q]).length (q8j ws[q]).length)∧Wds w' (some ⟨g,0,none⟩) ((q8j ws[q]).map wbS)∧Below W'.heap.size W' w'):=fun W' hB=>by
    rw [v8o rfl]
    exact k5t hisn (HLW.out _ (List.getElem_mem hq)) W' (HTV.out W' hB)
   have hsz:=HSZ.out (q+1)
   rw [z7j hV.pq hq,List.flatMap_append,←hV.eq,List.flatMap_singleton,k2g] at hsz
   have hl1:=z7i W
   have hl2:=z7i (q8j ws[q])
   have hnl:n+(q8j ws[q]).length≤1000000:=by omega
   have HX:Hid (∀ A2 c2 w2,q2p w.heap.size (.slice A2 (n+(q8j ws[q]).length) c2) (W.map wbS++(q8j ws[q]).map wbS) w2→Ry K ws pl b (q+1) w2→But w.heap.size b w w2→(W++q8j ws[q]).length=n+(q8j ws[q]).length∧y3j K ws pl b p w (q+1) (W++q8j ws[q]) (.slice A2 (n+(q8j ws[q]).length) c2) w2):=fun A2 c2 w2 h1 h2 h3=>by
    refine ⟨by rw [List.length_append,HWN.out],Nat.le_succ_of_le HV.out.pq,by rw [List.map_append];exact h1,h2,h3,?_,?_⟩
    ·rw [z7j HV.out.pq hq,List.flatMap_append,←HV.out.eq,List.flatMap_singleton]
    ·rw [z7j HV.out.pq hq]
     intro x hx
     rcases List.mem_append.1 hx with hx | hx
     ·exact HV.out.nt x hx
     ·rw [List.mem_singleton] at hx
      rw [hx];exact hisn
   have HFL:Hid (((q8j ws[q]).map wbS).length=(q8j ws[q]).length):=List.length_map ..
   have HML:Hid ((W.map wbS).length=n):=(show _=_ by rw [List.length_map];exact hWn)
   generalize wbS ws[q]=S at HL1 HL2 HN HF hszx
   generalize (q8j ws[q]).map wbS=FS at HF HX HFL
   generalize (q8j ws[q]).length=fn at HF HX hnl HFL hsz hl2
   clear hV hWn hnt hisn hsz hl1 hl2
   go_wp2_with fail
   refine HL1.out.mono ?_
   rintro e w1 ⟨rfl,rfl⟩
   go_wp2_with fail
   refine HL2.out.mono ?_
   rintro e w1 ⟨rfl,rfl⟩
   go_wp2_with fail
   refine HN.out.mono ?_
   rintro e w3 ⟨rfl,h3,b3⟩
   have hs3:=b3.size
   have HB3:Hid (But w.heap.size b w w3):=HV.out.bt.trans (b3.mono hwb)
   have HR3:Hid (Ry K ws pl b (q+1) w3):=h3
   have HO3:Hid (q2p w.heap.size (.slice A n c) (W.map wbS) w3):=by
    refine ⟨HV.out.o.1,?_⟩
    rcases HV.out.o.2 with h0 | ⟨g,c',cur,hv,hB,hg,rest⟩
    ·exact .inl h0
    ·exact .inr ⟨g,c',cur,hv,hB,(b3.block g (Array.getElem?_eq_some_iff.1 hg).1 (by omega)).trans hg,rest⟩
   clear h3 b3 HN HL1 HL2
   go_wp2_with fail
   refine (HF.out w3 HB3.out).mono ?_
   rintro e w4 ⟨g,rfl,hW4,b4⟩
   have hs4:=b4.size
   have HO4:Hid (q2p w.heap.size (.slice A n c) (W.map wbS) w4):=q2v HO3.out b4
   have HW4:Hid (Wds w4 (some ⟨g,0,none⟩) FS):=hW4
   have HR4:Hid (Ry K ws pl b (q+1) w4):=HR3.out.keep b4
   have HB4:Hid (But w.heap.size b w w4):=HB3.out.trans (But.of (b4.mono (by omega)))
   have hb4:b<w4.heap.size:=HR4.out.row.lt
   clear hW4 b4 HO3 HR3 HB3
   go_wp2_with (at_builtin;refine k2u rfl _ _ rfl w.heap.size _ (W.map wbS) rfl HO4.out (some ⟨g,0,none⟩) fn FS HFL.out fn rfl HW4.out (fun e=>by cases e) (n+fn) (by rw [HML.out]) hnl (by omega) ?_)
   intro A5 c5 w5 hown5 hgrow5
   have hX5:=HX.out A5 c5 w5 hown5 ?rd5 ?bt5
   case rd5=>exact HR4.out.keepB ((Below.refl w.heap.size w4).grown hgrow5 (by omega) (fun k hk=>(World.ownsRow.lt HO4.out k hk).1)) hbw hgw hga
   case bt5=>exact HB4.out.grown hgrow5 (by omega) (fun k hk=>(World.ownsRow.lt HO4.out k hk).1)
   have HX5:=(show Hid (_) from hX5)
   clear hX5 hown5 hgrow5
   go_wp2
   refine ⟨⟨q+1,_,A5,n+fn,c5,rfl,HX5.out.1,HX5.out.2⟩,?_⟩
   rw [HX5.out.2.rd.len_eq,HV.out.rd.len_eq]
   omega
  ·rw [decide_eq_false hnt] at HL2
   have hpq:p<q:=by
    rcases Nat.eq_or_lt_of_le hV.pq with e | e
    ·subst e
     rw [q3b hp] at hnt
     exact absurd hn hnt
    ·exact e
   have hszq:=HSZ.out q
   rw [←hV.eq] at hszq
   have HJ:Hid (Calls Tryz.prog 70 #[.slice A n c,.string ⟨#[32]⟩] wr fun e w'=>e = .returned (.string (wbS (jb W)))∧Below wr.heap.size wr w'):=j1c hV.o (by omega)
   have HX:Hid (∀ w1,Below wr.heap.size wr w1→q9w K ws pl b p w (.returned (.slice (some ⟨w1.heap.size,0,none⟩) 1 1)) (w1.alloc (.cells #[.int .i64 9,.string (wbS (jb W)),.int .i64 0] 47))):=fun w1 hb1=>by
    have hV:=HV.out
    have hs1:=hb1.size
    have hbt:But w.heap.size b w w1:=hV.bt.trans (But.of (hb1.mono hwb))
    refine q9w.ok (q:=q) (n:=true) (t:=[ntT (jb W)]) ⟨hpq,(q1k.one w1 (ntT (jb W))).down (by omega),by simp,by simp,(hV.rd.keep hb1).keep (q3e w1 _),hbt.alloc (by omega) _,fun pv acc r hpv hr=>?_,fun _ x hx=>?_⟩
    ·have hpf:pv=false:=by
      cases pv with
      | false=>rfl
      | true=>exact absurd hn (hpv rfl _ (List.getElem?_eq_getElem hp))
     subst hpf
     rw [k5p ws hV.pq]
     refine j9p (fun e=>?_) hV.nt ?_
     ·have:=congrArg List.length e
      rw [List.length_take,List.length_drop] at this
      simp only [List.length_nil] at this
      omega
     ·rw [←hV.eq];exact hr
    ·obtain ⟨hq,rfl⟩:=List.getElem?_eq_some_iff.1 hx
     rw [q3b hq] at hnt
     exact hnt
   generalize wbS (jb W)=J at HJ HX
   generalize wbS (ws.getD q [])=S at HL1 HL2
   clear hV hWn hnt hszq
   go_wp2_with fail
   refine HL1.out.mono ?_
   rintro e w1 ⟨rfl,rfl⟩
   go_wp2_with fail
   refine HL2.out.mono ?_
   rintro e w1 ⟨rfl,rfl⟩
   go_wp2_with fail
   refine HJ.out.mono ?_
   rintro e w1 ⟨rfl,b1⟩
   have HX1:=(show Hid (_) from HX.out w1 b1)
   clear b1
   go_wp2
   go_ret
   exact HX1.out
end Go.Proofs.YthjapabokcajhaaGreatDoor
namespace Go.Proofs.YthjapabokcajhaaGreatDoor
open Go Go.RowKit
set_option maxRecDepth 100000
theorem j3q (wd:Int) (w:World):Calls Tryz.prog 6 #[.int .i64 wd] w fun e w'=>e = .returned (.bool (decide (¬ (wd<10∨100<wd))))∧w=w':=by
 by_cases h1:wd<10
 ·rw [show decide (¬ (wd<10∨100<wd))=false by simp;omega]
  have h2:¬ 10≤wd:=by omega
  go_enter Tryz.func6,Tryz.ntmps6
  go_wp2
  go_ret
  exact ⟨rfl,rfl⟩
 ·have h2:10≤wd:=by omega
  by_cases h3:wd≤100
  ·rw [show decide (¬ (wd<10∨100<wd))=true by simp;omega]
   go_enter Tryz.func6,Tryz.ntmps6
   go_wp2
   go_ret
   exact ⟨rfl,rfl⟩
  ·rw [show decide (¬ (wd<10∨100<wd))=false by simp;omega]
   go_enter Tryz.func6,Tryz.ntmps6
   go_wp2
   go_ret
   exact ⟨rfl,rfl⟩
end Go.Proofs.YthjapabokcajhaaGreatDoor
namespace Go.Proofs.YthjapabokcajhaaGreatDoor
open Go Go.RowKit
set_option maxRecDepth 100000
set_option maxHeartbeats 4000000
theorem v4r {ps:List (List Td)} {i:Nat} (h:i<ps.length):ps.drop i=ps[i]::ps.drop (i+1):=List.drop_eq_getElem_cons h
structure y2v (ps:List (List Td)) (w:World) (i:Nat) (wr:World):Prop where
 le:i≤ps.length
 z:fmE (ps.drop i)=fmE ps
 b:Below w.heap.size w wr
theorem k1k {ps:List (List Td)} (hall:∀ t∈ps,q0f t=0) (hlen:ps.length≤1000000) (wd:Int) (a:Option Addr) (cap:Nat) (w:World) (hP:Prg w a ps) :
  Calls Tryz.prog 15 #[.slice a ps.length cap,.int .i64 wd] w fun e w'=>e = .returned (.bool (decide (fmE ps=0∧¬ (wd<10∨100<wd))))∧Below w.heap.size w w':=by
 have HP:Hid (Prg w a ps):=hP
 have HA:Hid (∀ t∈ps,q0f t=0):=hall
 have HW:Hid (Calls Tryz.prog 6 #[.int .i64 wd] w fun e w'=>e = .returned (.bool (decide (¬ (wd<10∨100<wd))))∧w=w'):=j3q wd w
 have HE1:Hid (fmE ps≠0→decide (fmE ps=0∧¬ (wd<10∨100<wd))=false):=fun h=>by simp [h]
 have HE2:Hid (fmE ps=0→decide (fmE ps=0∧¬ (wd<10∨100<wd))=decide (¬ (wd<10∨100<wd))):=fun h=>by simp [h]
 generalize decide (fmE ps=0∧¬ (wd<10∨100<wd))=R at HE1 HE2 ⊢
 generalize decide (¬ (wd<10∨100<wd))=B at HW HE2
 clear hP hall
 generalize hn:ps.length=n at hlen ⊢
 have HN:Hid (ps.length=n):=hn
 clear hn
 have HS0:Hid (y2v ps w 0 w):=⟨Nat.zero_le _,rfl,Below.refl _ _⟩
 go_enter Tryz.func15,Tryz.ntmps15
 go_wp2_with fail
 refine HW.out.mono ?_
 rintro e w1 ⟨rfl,rfl⟩
 go_wp2_with fail
 go_loopw [6] (fun x wr=>∃ i:Nat,x = .int .i64 (i:Int)∧y2v ps w i wr) (fun x _=>n - (intOf x).toNat)
 case atStart=>exact ⟨0,rfl,HS0.out⟩
 case round=>
  obtain ⟨i,rfl,hL⟩:=hrel
  have hll:=HN.out
  have hle:=hL.le
  by_cases hlt:i<n
  ·have hii:(i:Int)<(n:Int):=by omega
   have hip:i<ps.length:=by omega
   obtain ⟨b0,o0,A0,c0,rfl,hb0,d0,hc0,hT0⟩:=(HP.out.below hL.b) i hip
   have ht0:=HA.out ps[i] (List.getElem_mem _)
   obtain ⟨hpos,b2,o2,rfl,hb2,c1,_⟩:=z7b ht0 hT0
   have hpi:(0:Int)<(ps[i].length:Int):=by omega
   have hdr:=v4r hip
   have hz0:=hL.z
   rw [hdr] at hz0
   have HZ:=(show Hid (_=_) from hz0)
   have HB:Hid (Below w.heap.size w wr):=hL.b
   by_cases h9:opT ps[i]=9
   ·rw [h9] at c1
    have HX:Hid (y2v ps w (i+1) wr):=⟨by omega,(by have:=HZ.out;rw [z6i (z7d h9)] at this;exact this),HB.out⟩
    clear hL hdr hz0 ht0 hT0 h9 HZ hc0
    generalize ps[i].length=tn at d0 hpi hpos
    go_wp2
    refine ⟨⟨i+1,by go_num,HX.out⟩,?_⟩
    simp [intOf];omega
   ·have h9b:(opT ps[i] == 9)=false:=by simp [h9]
    have h9c:(opT ps[i] != 9)=true:=by simp [h9]
    have HD:Hid (Calls Tryz.prog 26 #[.slice (some ⟨b2,o2,none⟩) ps[i].length c0,.int .i64 0] wr fun e w'=>NdR wr (q0n ps[i]).nodes e w'):=y1s ht0 h9 wr hT0
    have hn9:=(q7s ht0 h9).n
    by_cases hm:400<(q0n ps[i]).nodes.length
    ·have e3:pgE ps[i]≠0:=by rw [pgE,if_neg h9,if_pos hm];decide
     have HR:Hid (R=false):=HE1.out (by have:=HZ.out;rw [j0k e3] at this;rw [←this];exact e3)
     clear hL hdr hz0 ht0 hT0 h9 HZ hc0 e3
     generalize (q0n ps[i]).nodes=xs at HD hm hn9
     generalize opT ps[i]=op0 at c1 h9b h9c
     generalize ps[i].length=tn at d0 hpi hpos HD
     have hmi:(400:Int)<(xs.length:Int):=by omega
     go_wp2_with fail
     refine HD.out.mono ?_
     rintro e w3 ⟨A3,k3,rfl,_,b3⟩
     have HB3:Hid (Below w.heap.size w w3):=q0i HB.out (Nat.le_refl _) b3
     clear b3
     go_wp2
     go_ret
     exact ⟨by rw [HR.out];rfl,HB3.out⟩
    ·have e0:pgE ps[i]=0:=by rw [pgE,if_neg h9,if_neg hm]
     have HZ2:Hid (fmE (ps.drop (i+1))=fmE ps):=(show _=_ by have:=HZ.out;rw [z6i e0] at this;exact this)
     clear hL hdr hz0 ht0 hT0 h9 HZ hc0 e0
     generalize (q0n ps[i]).nodes=xs at HD hm hn9
     generalize opT ps[i]=op0 at c1 h9b h9c
     generalize ps[i].length=tn at d0 hpi hpos HD
     have hmi:¬ (400:Int)<(xs.length:Int):=by omega
     go_wp2_with fail
     refine HD.out.mono ?_
     rintro e w3 ⟨A3,k3,rfl,_,b3⟩
     have HX:Hid (y2v ps w (i+1) w3):=⟨by omega,HZ2.out,q0i HB.out (Nat.le_refl _) b3⟩
     clear b3
     go_wp2
     refine ⟨⟨i+1,by go_num,HX.out⟩,?_⟩
     simp [intOf];omega
  ·have hii:¬ (i:Int)<(n:Int):=by omega
   have hid:ps.drop i=[]:=List.drop_eq_nil_of_le (by omega)
   have h1:=hL.z
   rw [hid] at h1
   have HR:Hid (R=B):=HE2.out h1.symm
   have HB:Hid (Below w.heap.size w wr):=hL.b
   clear hL hid h1
   go_wp2
   go_ret
   exact ⟨by rw [HR.out];rfl,HB.out⟩
end Go.Proofs.YthjapabokcajhaaGreatDoor
