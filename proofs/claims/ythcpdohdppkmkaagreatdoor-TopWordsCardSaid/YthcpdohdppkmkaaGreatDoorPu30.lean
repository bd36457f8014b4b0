import Derived.Test.YthcpdohdppkmkaaGreatDoorPu29
import Derived.Test.YthcpdohdppkmkaaGreatDoorShf
open Go.Proofs.Tryz
namespace Go.Proofs.YthcpdohdppkmkaaGreatDoor
open Go Go.RowKit
set_option maxRecDepth 100000
set_option maxHeartbeats 4000000
section
variable {K:LwK} {ws:List Wd} {pl:Nat→Nat} {b p:Nat} {w:World}
theorem y0x{X:Wd}(h:Ry K ws pl b p w)(hX:ws.getD p []=X)(ht:X=[]\/q3v X):
  (Calls prog 93 #[.pointer (some ⟨b,0,none⟩)] w fun e w'=>e=.returned (.string (wbS X))/\w=w')/\(Calls prog 253 #[.string (wbS X)] w fun e w'=>e=.returned (.bool (z7w X))/\w=w')/\(Calls prog 199 #[.string (wbS X)] w fun e w'=>e=.returned (.bool (nmW X))/\w=w'):=by
 subst hX;exact⟨(q6k h).mono fun _ _ h=>⟨h.1,h.2.symm⟩,(j4w _ w).mono fun _ _ h=>⟨h.1,h.2.symm⟩,(k9a _ ht w).mono fun _ _ h=>⟨h.1,h.2.symm⟩⟩
theorem z8j(ht:∀x∈ws,q3v x)(hS:∀q,p<q->q<=ws.length->j5g K ws pl b q):y8u K ws pl b p:=by
 intro w h;have hple:=h.le;have hbw:b<w.heap.size:=h.row.lt;show Calls prog 235 #[.pointer (some ⟨b,0,none⟩)] w fun e w'=>q4i K ws pl b (.level 2) p w e w'
 by_cases hp:p<ws.length
 ·have htk:=ht _ (List.getElem_mem hp);have hX:=q3u hp;obtain⟨L1,L2,L3⟩:=y0x h hX (.inr htk);have HD:Hid (ws.drop p=ws[p]::ws.drop (p+1)):=q4n hp;by_cases hnum:z7w ws[p]=true
  ·rw[hnum]at L2;have HL1:=(show Hid (Calls _ _ _ _ _)from L1);have HL2:=(show Hid (Calls _ _ _ _ _)from L2);obtain⟨hfig,h6⟩:=v3a htk hnum;have HN:Hid (Calls prog 198 #[.pointer (some ⟨b,0,none⟩)] w fun e w'=>e=.returned (.string (wbS ws[p]))/\Ry K ws pl b (p+1) w'/\But w b w w'):=q8h h hp;have HA:Hid (∀W,Calls prog 254 #[.string (wbS ws[p])] W fun e w'=>e=.returned (.tuple #[.int .i64 ((z4a ws[p]:Nat):Int),.nilIface])/\Below W W w'):=fun W=>v4z ws[p] hfig (y3c htk) h6 W
   have HX:Hid (∀W,Ry K ws pl b (p+1) W->But w b w W->q4i K ws pl b (.level 2) p w (.returned (.slice (some ⟨W,0,none⟩) 1 1)) (W.alloc (.cells #[.int .i64 1,.string ⟨#[]⟩,.int .i64 ((z4a ws[p]:Nat):Int)] 71))):=fun W hW hB=>by
    refine q4i.ok (m:=0) (ns:=[j5b ws[p]]) (u:=ws.drop (p+1)) ⟨by rw[HD.o];exact .lev2 (.sNum hnum),(q1v.one W (j5b ws[p])).down hB.size,?_,?_,hB.alloc hB.size _⟩
    ·rw[q0h,q0h];simp only[List.length_cons,List.length_nil];omega
    ·rw[q0h,show ws.length-(ws.length-(p+1))=p+1 by omega];exact hW.keep (q1t W _)
   generalize wbS ws[p]=S at HL1 HL2 HN HA
   generalize((z4a ws[p]:Nat):Int)=V at HA HX
   clear L1 L2 L3 h hS ht htk hX hnum hfig h6;go_in;go_wp2_with fail;refine HL1.o.mono ?_;rintro e w1⟨rfl,rfl⟩;go_wp2_with fail;refine HL2.o.mono ?_;rintro e w2⟨rfl,rfl⟩;go_wp2_with fail;refine HN.o.mono ?_;rintro e w3⟨rfl,h3,b3⟩;have K3:=(show Hid (_)from And.intro h3 b3);have hs3:=b3.size;clear h3 b3;go_wp2_with fail;refine(HA.o _).mono ?_;rintro e w4⟨rfl,b4⟩;have HX4:=(show Hid (_)from HX.o w4 (K3.o.1.keep b4) (K3.o.2.trans (But.of (b4.mono hs3))));clear b4;go_wp2;go_ret;exact HX4.o
  ·have hnum':z7w ws[p]=false:=by simpa using hnum
   rw[hnum']at L2;have HL1:=(show Hid (Calls _ _ _ _ _)from L1);have HL2:=(show Hid (Calls _ _ _ _ _)from L2);by_cases hnm:nmW ws[p]=true
   ·rw[hnm]at L3;have HL3:=(show Hid (Calls _ _ _ _ _)from L3);have HN:Hid (Calls prog 255 #[.pointer (some ⟨b,0,none⟩)] w fun e w'=>q4i K ws pl b (.level 2) p w e w'):=(j4x hS hp hnm h).mono fun _ _ hG=>hG.lev2
    generalize wbS ws[p]=S at HL1 HL2 HL3;clear L1 L2 L3 h hS ht htk hX hnum hnum' hnm;go_in;go_wp2_with fail;refine HL1.o.mono ?_;rintro e w1⟨rfl,rfl⟩;go_wp2_with fail;refine HL2.o.mono ?_;rintro e w2⟨rfl,rfl⟩;go_wp2_with fail;refine HL1.o.mono ?_;rintro e w1⟨rfl,rfl⟩;go_wp2_with fail;refine HL3.o.mono ?_;rintro e w2⟨rfl,rfl⟩;go_wp2_with fail;refine HN.o.mono ?_;intro r w3 hG;cases hG with
    | @bad u _ pr bt=>
     have HB:Hid (q4i K ws pl b (.level 2) p w (.panicked [q4t (pl (ws.length-u.length))]) w3):=.bad pr bt;clear pr bt;go_wp2;exact⟨rfl,HB.o⟩
    | @ok m ns u A c _ hg=>
     have HB:Hid (q4i K ws pl b (.level 2) p w (.returned (.slice A ns.length c)) w3):=.ok hg;clear hg;generalize ns.length=nl at HB⊢;go_wp2;go_ret;exact HB.o
   ·have hnm':nmW ws[p]=false:=by simpa using hnm
    rw[hnm']at L3;have HL3:=(show Hid (Calls _ _ _ _ _)from L3);by_cases h91:ws[p]=[91]
    ·have hm:ws[p]?=some [91]:=by rw[List.getElem?_eq_getElem hp,h91]
     have HH:Hid (Calls prog 150 #[.pointer (some ⟨b,0,none⟩),.string ⟨#[91]⟩] w fun e w'=>e=.returned (.bool true)/\Ry K ws pl b (p+1) w'/\But w b w w'):=q7i h [91] hm
     have HK:Hid (∀W,Ry K ws pl b (p+1) W->But w b w W->Calls prog 256 #[.pointer (some ⟨b,0,none⟩),.agg #[.int .i64 4,.string ⟨#[]⟩,.int .i64 0],.string ⟨#[93]⟩] W fun r w'=>q4i K ws pl b (.level 2) p w r w'):=fun W hW hB=>by
      refine(k5d (e:=[93]) (op:=4) (tx:=⟨#[]⟩) (by simp) (by decide) (fun q h1 h2=>hS q (by omega) h2) hW).mono ?_;intro r w' hG;have hs:=hB.size;cases hG with
      | bad pr bt=>exact .bad (by rw[HD.o,h91];exact .lev2 (.sLB pr)) (hB.trans (bt.mono hs))
      | @ok n ns u A c _ hg=>
       have hl:=hg.n;rw[q0h]at hl;refine q4i.ok (m:=0) (ns:=lsT n::ns) (u:=u) ⟨by rw[HD.o,h91];exact .lev2 (.sLO hg.pr),hg.o.down hs,?_,hg.rd,hB.trans (hg.bt.mono hs)⟩;rw[q0h,List.length_cons];omega
     generalize wbS ws[p]=S at HL1 HL2 HL3;clear L1 L2 L3 h hS ht htk hX hnum hnum' hnm hnm' hm h91;go_in;go_wp2_with fail;refine HL1.o.mono ?_;rintro e w1⟨rfl,rfl⟩;go_wp2_with fail;refine HL2.o.mono ?_;rintro e w2⟨rfl,rfl⟩;go_wp2_with fail;refine HL1.o.mono ?_;rintro e w1⟨rfl,rfl⟩;go_wp2_with fail;refine HL3.o.mono ?_;rintro e w2⟨rfl,rfl⟩;go_wp2_with fail;refine HH.o.mono ?_;rintro e w2⟨rfl,h2,b2⟩;have HK2:Hid (Calls prog 256 #[.pointer (some ⟨b,0,none⟩),.agg #[.int .i64 4,.string ⟨#[]⟩,.int .i64 0],.string ⟨#[93]⟩] w2 fun r w'=>q4i K ws pl b (.level 2) p w r w'):=HK.o w2 h2 b2;clear h2 b2 HH HK;go_wp2_with fail;refine HK2.o.mono ?_;intro r w3 hG;cases hG with
     | @bad u _ pr bt=>
      have HB:Hid (q4i K ws pl b (.level 2) p w (.panicked [q4t (pl (ws.length-u.length))]) w3):=.bad pr bt;clear pr bt;go_wp2;exact⟨rfl,HB.o⟩
     | @ok m ns u A c _ hg=>
      have HB:Hid (q4i K ws pl b (.level 2) p w (.returned (.slice A ns.length c)) w3):=.ok hg;clear hg;generalize ns.length=nl at HB⊢;go_wp2;go_ret;exact HB.o
    ·have hm:ws[p]?≠some [91]:=by rw[List.getElem?_eq_getElem hp];simpa using h91
     have HH:Hid (Calls prog 150 #[.pointer (some ⟨b,0,none⟩),.string ⟨#[91]⟩] w fun e w'=>e=.returned (.bool false)/\w=w'):=(q8g h [91] (by simp) hm).mono fun _ _ h=>⟨h.1,h.2.symm⟩
     by_cases h40:ws[p]=[40]
     ·have hm4:ws[p]?=some [40]:=by rw[List.getElem?_eq_getElem hp,h40]
      have HM:Hid (Calls prog 152 #[.pointer (some ⟨b,0,none⟩),.string ⟨#[40]⟩] w fun e w'=>e=.returned (.tuple #[])/\Ry K ws pl b (p+1) w'/\But w b w w'):=q6j h [40] hm4
      have HD4:Hid (ws.drop p=[40]::ws.drop (p+1)):=by
       show _=_;rw[HD.o,h40]
      have HS:Hid (j5g K ws pl b (p+1)):=hS (p+1) (by omega) (by omega);generalize wbS ws[p]=S at HL1 HL2 HL3;clear L1 L2 L3 h hS ht htk hX hnum hnum' hnm hnm' hm h91 h40 hm4 HD;go_in;go_wp2_with fail;refine HL1.o.mono ?_;rintro e w1⟨rfl,rfl⟩;go_wp2_with fail;refine HL2.o.mono ?_;rintro e w2⟨rfl,rfl⟩;go_wp2_with fail;refine HL1.o.mono ?_;rintro e w1⟨rfl,rfl⟩;go_wp2_with fail;refine HL3.o.mono ?_;rintro e w2⟨rfl,rfl⟩;go_wp2_with fail;refine HH.o.mono ?_;rintro e w2⟨rfl,rfl⟩;go_wp2_with fail;refine HM.o.mono ?_;rintro e w3⟨rfl,h3,b3⟩;have HB3:Hid (But w b w w3):=b3;have hs3:=b3.size;have HSC:Hid (Calls prog 153 #[.pointer (some ⟨b,0,none⟩)] w3 fun e w'=>q4i K ws pl b (.level 0) (p+1) w3 e w'):=HS.o w3 h3;clear h3 b3 HM HH;go_wp2_with fail;refine HSC.o.mono ?_;intro r w4 hG;cases hG with
      | @bad u _ pr bt=>
       have HB:Hid (q4i K ws pl b (.level 2) p w (.panicked [q4t (pl (ws.length-u.length))]) w4):=.bad (by rw[HD4.o];exact .lev2 (.sPB pr)) (HB3.o.trans (bt.mono hs3));clear pr bt;go_wp2;exact⟨rfl,HB.o⟩
      | @ok m ns u A c _ hg=>
       have hsf:=q4z hg.pr;have hu:ws.drop (ws.length-u.length)=u:=q6w hsf.1;have hl:=hg.n;rw[q0h]at hl;have hs4:=hg.bt.size;have hb4:But w b w w4:=HB3.o.trans (hg.bt.mono hs3);by_cases hm5:ws[ws.length-u.length]?=some [41]
       ·obtain⟨hlt5,he5⟩:=List.getElem?_eq_some_iff.1 hm5
        have hu2:u=[41]::ws.drop (ws.length-u.length+1):=by
         have h9:=q4n hlt5;rw[hu,he5]at h9;exact h9
        have HM5:Hid (Calls prog 152 #[.pointer (some ⟨b,0,none⟩),.string ⟨#[41]⟩] w4 fun e w'=>e=.returned (.tuple #[])/\q4i K ws pl b (.level 2) p w (.returned (.slice A ns.length c)) w'):=by
         refine(q6j hg.rd [41] hm5).mono ?_;rintro e w5⟨rfl,h5,b5⟩
         have hul:u.length=(ws.drop (ws.length-u.length+1)).length+1:=by
          have h9:=congrArg List.length hu2;rw[List.length_cons]at h9;exact h9
         have hpr:=hg.pr;rw[hu2]at hpr;refine⟨rfl,q4i.ok (m:=0) (ns:=ns) (u:=ws.drop (ws.length-u.length+1)) ⟨by rw[HD4.o];exact .lev2 (.sPC hpr),(hg.o.but2 b5 (by omega)).down hs3,?_,?_,hb4.trans (b5.mono (by omega))⟩⟩
         ·rw[q0h (p:=p)];omega
         ·rw[show ws.length-(ws.drop (ws.length-u.length+1)).length=ws.length-u.length+1 by omega];exact h5
        clear hg hu hu2 hm5 he5 hsf hl;generalize ns.length=nl at HM5⊢;go_wp2_with fail;refine HM5.o.mono ?_;rintro e w5⟨rfl,h5⟩;have K5:=(show Hid (q4i _ _ _ _ _ _ _ _ _)from h5);clear h5;go_wp2;go_ret;exact K5.o
       ·have HM5:Hid (Calls prog 152 #[.pointer (some ⟨b,0,none⟩),.string ⟨#[41]⟩] w4 fun e w'=>e=.panicked [q4t (pl (ws.length-u.length))]/\q4i K ws pl b (.level 2) p w (.panicked [q4t (pl (ws.length-u.length))]) w'):=by
         refine(q7j hg.rd [41] (by simp) hm5).mono ?_;rintro e w5⟨rfl,rfl⟩;refine⟨rfl,.bad ?_ hb4⟩;rw[HD4.o];refine .lev2 (.sPX hg.pr ?_);rw[<-hu,q2a];exact hm5
        clear hg hu hm5 hsf hl;generalize ns.length=nl;generalize pl (ws.length-u.length)=pp at HM5;go_wp2_with fail;refine HM5.o.mono ?_;rintro e w5⟨rfl,h5⟩;have K5:=(show Hid (q4i _ _ _ _ _ _ _ _ _)from h5);clear h5;go_wp2;exact⟨rfl,K5.o⟩
     ·have hm4:ws[p]?≠some [40]:=by rw[List.getElem?_eq_getElem hp];simpa using h40
      have HM:Hid (Calls prog 152 #[.pointer (some ⟨b,0,none⟩),.string ⟨#[40]⟩] w fun e w'=>e=.panicked [q4t (pl p)]/\w=w'):=(q7j h [40] (by simp) hm4).mono fun _ _ h=>⟨h.1,h.2.symm⟩
      have HX:Hid (q4i K ws pl b (.level 2) p w (.panicked [q4t (pl p)]) w):=v4i hple (by rw[HD.o];exact .lev2 (.sBad h40 h91 hnum' hnm')) (But.refl _ _ _);generalize wbS ws[p]=S at HL1 HL2 HL3;clear L1 L2 L3 h hS ht htk hX hnum hnum' hnm hnm' hm h91 h40 hm4 HD;go_in;go_wp2_with fail;refine HL1.o.mono ?_;rintro e w1⟨rfl,rfl⟩;go_wp2_with fail;refine HL2.o.mono ?_;rintro e w2⟨rfl,rfl⟩;go_wp2_with fail;refine HL1.o.mono ?_;rintro e w1⟨rfl,rfl⟩;go_wp2_with fail;refine HL3.o.mono ?_;rintro e w2⟨rfl,rfl⟩;go_wp2_with fail;refine HH.o.mono ?_;rintro e w2⟨rfl,rfl⟩;go_wp2_with fail;refine HM.o.mono ?_;rintro e w3⟨rfl,rfl⟩;go_wp2;exact⟨rfl,HX.o⟩
 ·have hpe:p=ws.length:=by omega
  have hX:=q6q (ws:=ws) (q:=p) (by omega);obtain⟨L1,L2,L3⟩:=y0x h hX (.inl rfl);have hn1:z7w []=false:=rfl;have hn2:nmW []=false:=by decide
  rw[hn1]at L2;rw[hn2]at L3;have HL1:=(show Hid (Calls _ _ _ _ _)from L1);have HL2:=(show Hid (Calls _ _ _ _ _)from L2);have HL3:=(show Hid (Calls _ _ _ _ _)from L3);have hno:∀s,ws[p]?≠some s:=fun s=>by rw[List.getElem?_eq_none (by omega)];simp
  have HH:Hid (Calls prog 150 #[.pointer (some ⟨b,0,none⟩),.string ⟨#[91]⟩] w fun e w'=>e=.returned (.bool false)/\w=w'):=(q8g h [91] (by simp) (hno _)).mono fun _ _ h=>⟨h.1,h.2.symm⟩
  have HM:Hid (Calls prog 152 #[.pointer (some ⟨b,0,none⟩),.string ⟨#[40]⟩] w fun e w'=>e=.panicked [q4t (pl p)]/\w=w'):=(q7j h [40] (by simp) (hno _)).mono fun _ _ h=>⟨h.1,h.2.symm⟩
  have HX:Hid (q4i K ws pl b (.level 2) p w (.panicked [q4t (pl p)]) w):=by
   refine v4i hple ?_ (But.refl _ _ _);rw[List.drop_eq_nil_of_le (by omega)];exact .lev2 .sinN
  generalize wbS []=S at HL1 HL2 HL3;clear L1 L2 L3 h hS ht hX hn1 hn2 hno hpe;go_in;go_wp2_with fail;refine HL1.o.mono ?_;rintro e w1⟨rfl,rfl⟩;go_wp2_with fail;refine HL2.o.mono ?_;rintro e w2⟨rfl,rfl⟩;go_wp2_with fail;refine HL1.o.mono ?_;rintro e w1⟨rfl,rfl⟩;go_wp2_with fail;refine HL3.o.mono ?_;rintro e w2⟨rfl,rfl⟩;go_wp2_with fail;refine HH.o.mono ?_;rintro e w2⟨rfl,rfl⟩;go_wp2_with fail;refine HM.o.mono ?_;rintro e w3⟨rfl,rfl⟩;go_wp2;exact⟨rfl,HX.o⟩
theorem v4k(ht:∀x∈ws,q3v x):∀n p,p<=ws.length->ws.length-p<=n->y8u K ws pl b p/\y8v K ws pl b p/\j5g K ws pl b p:=by
 intro n
 induction n with
 | zero=>
  intro p hp hn;have hs:y8u K ws pl b p:=z8j ht fun q h1 h2=>by omega
  have h1:y8v K ws pl b p:=k5e fun q h1 h2=>by
   obtain rfl:q=p:=by omega
   exact hs
  exact⟨hs,h1,v4n fun q h3 h4=>by
   obtain rfl:q=p:=by omega
   exact h1⟩
 | succ n ih=>
  intro p hp hn;have hs:y8u K ws pl b p:=z8j ht fun q h1 h2=>(ih q h2 (by omega)).2.2
  have hs':∀q,p<=q->q<=ws.length->y8u K ws pl b q:=fun q h1 h2=>by
   rcases Nat.eq_or_lt_of_le h1 with rfl|h3
   ·exact hs
   ·exact(ih q h2 (by omega)).1
  have h1:y8v K ws pl b p:=k5e hs'
  have h1':∀q,p<=q->q<=ws.length->y8v K ws pl b q:=fun q h1q h2=>by
   rcases Nat.eq_or_lt_of_le h1q with rfl|h3
   ·exact h1
   ·exact(ih q h2 (by omega)).2.1
  exact⟨hs,h1,v4n h1'⟩
theorem j1y(ht:∀x∈ws,q3v x)(hp:p<=ws.length):j5g K ws pl b p:=(v4k ht _ p hp Zl).2.2
end
theorem j9b(s:ByteArray)(w:World):Calls prog 103 #[.slice none 0 0,.string s] w fun e w'=>e=.returned (.string ⟨#[]⟩)/\Below w w w':=by
 go_in;go_wp2;go_ret;exact⟨rfl,Below.refl _ _⟩
theorem k4f{B:Nat}{w:World}{A:Option Addr}{n c:Nat}{xs:List ByteArray}(h:q1j B (.slice A n c) xs w):n=xs.length/\n<=c/\((A=none/\n=0/\c=0)\/∃g,A=some ⟨g,0,none⟩/\g<w.heap.size):=by
 rcases h.2 with⟨hv,h0⟩|⟨g,c',cur,hv,_,hg,hnc,_⟩
 ·simp only[Value.slice.injEq]at hv;obtain⟨rfl,rfl,rfl⟩:=hv;exact⟨h0.symm,Nat.le_refl _,.inl ⟨rfl,rfl,rfl⟩⟩
 ·simp only[Value.slice.injEq]at hv;obtain⟨rfl,rfl,rfl⟩:=hv;exact⟨rfl,hnc,.inr ⟨g,rfl,(Array.getElem?_eq_some_iff.1 hg).1⟩⟩
theorem j9a{B:Nat}{A:Option Addr}{n c:Nat}{W:List Wd}{w:World}(h:q1j B (.slice A n c) (W.map wbS) w)(hs:szW W<=1000000):Calls prog 103 #[.slice A n c,.string ⟨#[32]⟩] w fun e w'=>e=.returned (.string (wbS (jb W)))/\Below w w w':=by
 obtain⟨hn,hc,hA⟩:=k4f h;have hl:=k0o W;have hj:=y5n W;have hml:(W.map wbS).length=W.length:=List.length_map ..;rcases hA with⟨rfl,rfl,rfl⟩|⟨g,rfl,hg⟩
 ·have:W=[]:=List.eq_nil_of_length_eq_zero (by omega)
  subst this;exact j9b _ w
 ·subst hn
  have e1:(W.map wbS).map (fun x=>x.data.toList)=W:=by
   rw[List.map_map];exact List.map_id W
  have e2:Lib.join ((W.map wbS).map (fun x=>x.data.toList)) (⟨#[32]⟩:ByteArray).data.toList=jb W:=by
   rw[e1];exact j8w W
  have h1:=join_sh g 0 c (W.map wbS) ⟨#[32]⟩ w ?_ hg (by omega) hc (by rw[e2];omega)
  ·rw[e2]at h1;exact h1
  ·intro j x hx;obtain⟨hj,rfl⟩:=List.getElem?_eq_some_iff.1 hx;obtain⟨b',o',e,_,c1⟩:=q6g h j hj;simp only[Option.some.injEq,Addr.mk.injEq,and_true]at e;obtain⟨rfl,rfl⟩:=e;exact c1
theorem y8s{w:Wd}{S:ByteArray}(h:wbS w=S):S.extract 1 S.size=wbS (w.drop 1):=by
 subst h;rw[k8t]
 congr 1
 rw[List.take_of_length_le]
 ·rfl
 ·rw[List.length_drop,q0b];omega
theorem j2s{x:Wd}(hx:y1u x)(hl:x.length<=60000)(w:World)(ht:q5u w):Calls prog 164 #[.string (wbS (x.drop 1))] w fun e w'=>∃g,e=.returned (.slice (some ⟨g,0,none⟩) (q9u x).length (q9u x).length)/\Wds w' (some ⟨g,0,none⟩) ((q9u x).map wbS)/\Below w w w':=by
 have hb:btL (wbS (x.drop 1))=x.drop 1:=rfl;refine(fields_sh (wbS (x.drop 1)) w (by rw[<-q0b,hb,List.length_drop];omega) ?_ ht.spc).mono ?_
 ·intro j c hj;have hm:c∈x:=List.mem_of_mem_drop (List.mem_of_getElem? (show(x.drop 1)[j]?=some c from hj))
  have:=hx.2 c hm
  simp only[prB,Bool.and_eq_true,decide_eq_true_eq]at this;omega
 ·rintro e w'⟨rfl,rfl⟩;refine⟨w.heap.size,rfl,?_,q1t w _⟩;intro i hi;have hi2:i<(q9u x).length:=by simpa using hi
  refine⟨w.heap.size,0,rfl,by rw[World.size_alloc];omega,?_⟩;rw[Nat.zero_add];have hk:=heap_alloc_new w (.cells ((Lib.fields (btL (wbS (x.drop 1)))).map fun l=>Value.string ⟨l.toArray⟩).toArray 9);rw[Lib.cell_of_heap hk]
  show((Lib.fields (x.drop 1)).map fun l=>Value.string ⟨l.toArray⟩).toArray[i]?=_
  rw[List.getElem?_toArray,List.getElem?_map,show(Lib.fields (x.drop 1))[i]?=some (q9u x)[i]from List.getElem?_eq_getElem hi2];simp[wbS]
theorem k3m:∀(ws:List Wd)(x:Wd),x∈ws->x.length<=(ws.map List.length).sum
 | y::r,x,h=>by
  rw[List.map_cons,List.sum_cons];rcases List.mem_cons.1 h with rfl|h
  ·omega
  ·have:=k3m r x h
   omega
structure g4q(K:LwK)(ws:List Wd)(pl:Nat->Nat)(b p:Nat)(w:World)(q:Nat)(W:List Wd)(v:Value)(wr:World):Prop where
 pq:p<=q
 o:q1j w v (W.map wbS) wr
 rd:Ry K ws pl b q wr
 bt:But w b w wr
 eq:W=((ws.drop p).take (q-p)).flatMap q9u
 nt:∀x∈(ws.drop p).take (q-p),y1u x
structure y9d(K:LwK)(ws:List Wd)(pl:Nat->Nat)(b p:Nat)(w:World)(q:Nat)(n:Bool)(t:List Td)(v:Value)(w':World):Prop where
 lt:p<q
 o:q1v w v t w'
 ne:t≠[]
 l:t.length<=100000
 rd:Ry K ws pl b q w'
 bt:But w b w w'
 pg:∀pv acc r,(pv=true->∀x,ws[p]?=some x->x.headD 0≠35)->PG n (acc++[t]) (ws.drop q) r->PG pv acc (ws.drop p) r
 nx:n=true->∀x,ws[q]?=some x->x.headD 0≠35
inductive z1q (K:LwK) (ws:List Wd) (pl:Nat->Nat) (b p:Nat) (w:World):Ending->World->Prop where
 | ok {q n t A c w'} (h:y9d K ws pl b p w q n t (.slice A t.length c) w'):z1q K ws pl b p w (.returned (.slice A t.length c)) w'
 | bad {u w'} (pg:∀pv acc,PG pv acc (ws.drop p) (.bad u)) (bt:But w b w w'):z1q K ws pl b p w (.panicked [q4t (pl (ws.length-u.length))]) w'
theorem k0p{ws:List Wd}{p q:Nat}(h:p<=q)(hq:q<ws.length):(ws.drop p).take (q+1-p)=(ws.drop p).take (q-p)++[ws[q]]:=by
 rw[show q+1-p=q-p+1 by omega,List.take_succ_eq_append_getElem (by rw[List.length_drop];omega)]
 congr 2
 rw[List.getElem_drop]
 congr 1
 omega
theorem j2o(ws:List Wd){p q:Nat}(h:p<=q):ws.drop p=(ws.drop p).take (q-p)++ws.drop q:=by
 have e:ws.drop q=(ws.drop p).drop (q-p):=by rw[List.drop_drop];congr 1;omega
 rw[e,List.take_append_drop]
theorem j4y{K:LwK}{ws:List Wd}{pl:Nat->Nat}{b p:Nat}{w:World}(htk:∀x∈ws,q3v x)(htot:(ws.map List.length).sum<=60000)(hp:p<ws.length)(hn:ws[p].headD 0=35)(hbV:∀w',But w b w w'->q5u w')(h:Ry K ws pl b p w):
  Calls prog 149 #[.pointer (some ⟨b,0,none⟩)] w fun e w'=>z1q K ws pl b p w e w':=by
 have HTK:Hid (∀x∈ws,q3v x):=htk;have HTV:Hid (∀w',But w b w w'->q5u w'):=hbV
 have HLW:Hid (∀x∈ws,x.length<=60000):=fun x hx=>by
  have:=k3m ws x hx
  omega
 have HSZ:Hid (∀q,szW (((ws.drop p).take (q-p)).flatMap q9u)<=120000):=fun q=>by
  have h1:=j8e ((ws.drop p).take (q-p));have h2:=v9s ws p (q-p);omega
 have hbw:b<w.heap.size:=h.row.lt;have hgw:=h.gwlt;have hga:=h.galt;have HV0:Hid (g4q K ws pl b p w p [] (.slice none 0 0) w):=⟨Nat.le_refl _,World.ownsRow_nil _ _ _ _,h,But.refl _ _ _,by simp,fun x hx=>by simp at hx⟩;clear h htk hbV;go_in;go_wp2_with fail
 go_loopw [3] (fun x wr=>∃(q:Nat)(W:List Wd)(A:Option Addr)(n c:Nat),x=.slice A n c/\W.length=n/\g4q K ws pl b p w q W (.slice A n c) wr) (fun _ wr=>j3q wr b)
 case atStart=>exact⟨p,[],_,_,_,rfl,rfl,HV0.o⟩
 case round=>
  obtain⟨q,W,A,n,c,rfl,hWn,hV⟩:=hrel;have hqle:=hV.rd.le;have HV:=(show Hid (_)from hV);have HWN:Hid (W.length=n):=hWn;have hwb:=hV.bt.size;have HL1:Hid (Calls prog 93 #[.pointer (some ⟨b,0,none⟩)] wr fun e w'=>e=.returned (.string (wbS (ws.getD q [])))/\wr=w'):=(q6k hV.rd).mono fun _ _ h=>⟨h.1,h.2.symm⟩
  have HL2:Hid (Calls prog 148 #[.string (wbS (ws.getD q []))] wr fun e w'=>e=.returned (.bool (decide ((ws.getD q []).headD 0=35)))/\wr=w'):=(z6j _ wr).mono fun _ _ h=>⟨h.1,h.2.symm⟩
  by_cases hnt:(ws.getD q []).headD 0=35
  ·have hq:q<ws.length:=by
    rcases Nat.lt_or_ge q ws.length with h'|h'
    ·exact h'
    ·rw[q6q h']at hnt;simp at hnt
   rw[decide_eq_true hnt]at HL2;rw[q3u hq]at hnt HL1 HL2;have hisn:=g3d (HTK.o _ (List.getElem_mem hq)) hnt;have HN:Hid (Calls prog 198 #[.pointer (some ⟨b,0,none⟩)] wr fun e w'=>e=.returned (.string (wbS ws[q]))/\Ry K ws pl b (q+1) w'/\But wr b wr w'):=q8h hV.rd hq
   have hszx:1<=(wbS ws[q]).size:=by
    have:=k0q (HTK.o _ (List.getElem_mem hq))
    rw[<-q0b];exact this
   have HF:Hid (∀W',But w b w W'->Calls prog 164 #[.string ((wbS ws[q]).extract 1 (wbS ws[q]).size)] W' fun e w'=>∃g,e=.returned (.slice (some ⟨g,0,none⟩) (q9u ws[q]).length (q9u ws[q]).length)/\Wds w' (some ⟨g,0,none⟩) ((q9u ws[q]).map wbS)/\Below W' W' w'):=fun W' hB=>by
    rw[y8s rfl];exact j2s hisn (HLW.o _ (List.getElem_mem hq)) W' (HTV.o W' hB)
   have hsz:=HSZ.o (q+1);rw[k0p hV.pq hq,List.flatMap_append,<-hV.eq,List.flatMap_singleton,k7m]at hsz;have hl1:=k0o W;have hl2:=k0o (q9u ws[q]);have hnl:n+(q9u ws[q]).length<=1000000:=by omega
   have HX:Hid (∀A2 c2 w2,q1j w (.slice A2 (n+(q9u ws[q]).length) c2) (W.map wbS++(q9u ws[q]).map wbS) w2->Ry K ws pl b (q+1) w2->But w b w w2->(W++q9u ws[q]).length=n+(q9u ws[q]).length/\g4q K ws pl b p w (q+1) (W++q9u ws[q]) (.slice A2 (n+(q9u ws[q]).length) c2) w2):=fun A2 c2 w2 h1 h2 h3=>by
    refine⟨by rw[List.length_append,HWN.o],Nat.le_succ_of_le HV.o.pq,by rw[List.map_append];exact h1,h2,h3,?_,?_⟩
    ·rw[k0p HV.o.pq hq,List.flatMap_append,<-HV.o.eq,List.flatMap_singleton]
    ·rw[k0p HV.o.pq hq];intro x hx;rcases List.mem_append.1 hx with hx|hx
     ·exact HV.o.nt x hx
     ·rw[List.mem_singleton]at hx;rw[hx];exact hisn
   have HFL:Hid (((q9u ws[q]).map wbS).length=(q9u ws[q]).length):=List.length_map ..;have HML:Hid ((W.map wbS).length=n):=(show _=_ by rw[List.length_map];exact hWn);generalize wbS ws[q]=S at HL1 HL2 HN HF hszx
   generalize(q9u ws[q]).map wbS=FS at HF HX HFL
   generalize(q9u ws[q]).length=fn at HF HX hnl HFL hsz hl2
   clear hV hWn hnt hisn hsz hl1 hl2;go_wp2_with fail;refine HL1.o.mono ?_;rintro e w1⟨rfl,rfl⟩;go_wp2_with fail;refine HL2.o.mono ?_;rintro e w1⟨rfl,rfl⟩;go_wp2_with fail;refine HN.o.mono ?_;rintro e w3⟨rfl,h3,b3⟩;have hs3:=b3.size;have HB3:Hid (But w b w w3):=HV.o.bt.trans (b3.mono hwb);have HR3:Hid (Ry K ws pl b (q+1) w3):=h3
   have HO3:Hid (q1j w (.slice A n c) (W.map wbS) w3):=by
    refine⟨HV.o.o.1,?_⟩;rcases HV.o.o.2 with h0|⟨g,c',cur,hv,hB,hg,rest⟩
    ·exact .inl h0
    ·exact .inr ⟨g,c',cur,hv,hB,(b3.block g (Array.getElem?_eq_some_iff.1 hg).1 (by omega)).trans hg,rest⟩
   clear h3 b3 HN HL1 HL2;go_wp2_with fail;refine(HF.o w3 HB3.o).mono ?_;rintro e w4⟨g,rfl,hW4,b4⟩;have hs4:=b4.size;have HO4:Hid (q1j w (.slice A n c) (W.map wbS) w4):=q2r HO3.o b4;have HW4:Hid (Wds w4 (some ⟨g,0,none⟩) FS):=hW4;have HR4:Hid (Ry K ws pl b (q+1) w4):=HR3.o.keep b4;have HB4:Hid (But w b w w4):=HB3.o.trans (But.of (b4.mono (by omega)));have hb4:b<w4.heap.size:=HR4.o.row.lt;clear hW4 b4 HO3 HR3 HB3;go_wp2_with(at_builtin;refine z8p rfl _ _ rfl w.heap.size _ (W.map wbS) rfl HO4.o (some ⟨g,0,none⟩) fn FS HFL.o fn rfl HW4.o (fun e=>by cases e) (n+fn) (by rw[HML.o]) hnl (by omega) ?_);intro A5 c5 w5 hown5 hgrow5;have hX5:=HX.o A5 c5 w5 hown5 ?rd5 ?bt5
   case rd5=>exact HR4.o.keepB ((Below.refl w.heap.size w4).grown hgrow5 (by omega) (fun k hk=>(World.ownsRow.lt HO4.o k hk).1)) hbw hgw hga
   case bt5=>exact HB4.o.grown hgrow5 (by omega) (fun k hk=>(World.ownsRow.lt HO4.o k hk).1)
   have HX5:=(show Hid (_)from hX5);clear hX5 hown5 hgrow5;go_wp2;refine⟨⟨q+1,_,A5,n+fn,c5,rfl,HX5.o.1,HX5.o.2⟩,?_⟩;rw[HX5.o.2.rd.len_eq,HV.o.rd.len_eq];omega
  ·rw[decide_eq_false hnt]at HL2
   have hpq:p<q:=by
    rcases Nat.eq_or_lt_of_le hV.pq with e|e
    ·subst e;rw[q3u hp]at hnt;exact absurd hn hnt
    ·exact e
   have hszq:=HSZ.o q;rw[<-hV.eq]at hszq;have HJ:Hid (Calls prog 103 #[.slice A n c,.string ⟨#[32]⟩] wr fun e w'=>e=.returned (.string (wbS (jb W)))/\Below wr wr w'):=j9a hV.o (by omega)
   have HX:Hid (∀w1,Below wr wr w1->z1q K ws pl b p w (.returned (.slice (some ⟨w1,0,none⟩) 1 1)) (w1.alloc (.cells #[.int .i64 9,.string (wbS (jb W)),.int .i64 0] 71))):=fun w1 hb1=>by
    have hV:=HV.o;have hs1:=hb1.size;have hbt:But w b w w1:=hV.bt.trans (But.of (hb1.mono hwb));refine z1q.ok (q:=q) (n:=true) (t:=[ntT (jb W)]) ⟨hpq,(q1v.one w1 (ntT (jb W))).down (by omega),by simp,by simp,(hV.rd.keep hb1).keep (q1t w1 _),hbt.alloc (by omega) _,fun pv acc r hpv hr=>?_,fun _ x hx=>?_⟩
    ·have hpf:pv=false:=by
      cases pv with
      | false=>rfl
      | true=>exact absurd hn (hpv rfl _ (List.getElem?_eq_getElem hp))
     subst hpf;rw[j2o ws hV.pq];refine v8z (fun e=>?_) hV.nt ?_
     ·have:=congrArg List.length e
      rw[List.length_take,List.length_drop]at this;simp only[List.length_nil]at this;omega
     ·rw[<-hV.eq];exact hr
    ·obtain⟨hq,rfl⟩:=List.getElem?_eq_some_iff.1 hx;rw[q3u hq]at hnt;exact hnt
   generalize wbS (jb W)=J at HJ HX;generalize wbS (ws.getD q [])=S at HL1 HL2;clear hV hWn hnt hszq;go_wp2_with fail;refine HL1.o.mono ?_;rintro e w1⟨rfl,rfl⟩;go_wp2_with fail;refine HL2.o.mono ?_;rintro e w1⟨rfl,rfl⟩;go_wp2_with fail;refine HJ.o.mono ?_;rintro e w1⟨rfl,b1⟩;have HX1:=(show Hid (_)from HX.o w1 b1);clear b1;go_wp2;go_ret;exact HX1.o
theorem g3f:(prog.info? 51).map (fun i=>(i.zero,i.size,i.bytes))=some (some (.slice none 0 0),1,24):=by kernel_rfl
def z3b(B:Nat)(v:Value)(ps:List (List Td))(w:World):Prop:=
 ∃hs:List Value,w.ownsRow B 51 1 v ps.length hs/\∀i(h:i<ps.length),∃g c,hs[i]?=some (.slice (some ⟨g,0,none⟩) ps[i].length c)/\q1v B (.slice (some ⟨g,0,none⟩) ps[i].length c) ps[i] w
theorem z3b.nil(B:Nat)(w:World):z3b B (.slice Option.none 0 0) [] w:=⟨[],⟨rfl,.inl ⟨rfl,rfl⟩⟩,fun i h=>by simp at h⟩
theorem z8e{B:Nat}{w:World}{g n c:Nat}{xs:List Td}(h:q1v B (.slice (some ⟨g,0,none⟩) n c) xs w):B<=g/\n<=c/\∃cur,w.heap[g]?=some (.cells cur 71 (0,0)):=by
 rcases h.2 with⟨hv,_⟩|⟨g',c',cur,hv,hB,hg,hc,_⟩
 ·cases hv
 ·simp only[Value.slice.injEq,Option.some.injEq,Addr.mk.injEq,and_true]at hv;obtain⟨rfl,rfl,rfl⟩:=hv;exact⟨hB,hc,cur,hg⟩
theorem y0a{B:Nat}{w w':World}{g n c:Nat}{xs:List Td}(h:q1v B (.slice (some ⟨g,0,none⟩) n c) xs w)(hk:w'.heap[g]?=w.heap[g]?):q1v B (.slice (some ⟨g,0,none⟩) n c) xs w':=by
 refine⟨h.1,?_⟩;rcases h.2 with⟨hv,_⟩|⟨g',c',cur,hv,hB,hg,rest⟩
 ·cases hv
 ·have e:=hv;simp only[Value.slice.injEq,Option.some.injEq,Addr.mk.injEq,and_true]at e;obtain⟨rfl,_,_⟩:=e;exact .inr ⟨g,c',cur,hv,hB,hk.trans hg,rest⟩
theorem z3b.kept{B:Nat}{v:Value}{ps:List (List Td)}{w w':World}(h:z3b B v ps w)(hk:∀g,B<=g->g<w.heap.size->w'.heap[g]?=w.heap[g]?):z3b B v ps w':=by
 obtain⟨hs,h1,h2⟩:=h;refine⟨hs,⟨h1.1,?_⟩,fun i hi=>?_⟩
 ·rcases h1.2 with h0|⟨g,c,cur,hv,hB,hg,rest⟩
  ·exact .inl h0
  ·exact .inr ⟨g,c,cur,hv,hB,(hk g hB (Array.getElem?_eq_some_iff.1 hg).1).trans hg,rest⟩
 ·obtain⟨g,c,e1,e2⟩:=h2 i hi;exact⟨g,c,e1,e2.kept hk⟩
theorem z3b.but{B b:Nat}{v:Value}{ps:List (List Td)}{w w':World}(h:z3b B v ps w)(hb:But w b w w')(hB:b<B):z3b B v ps w':=h.kept fun g h1 h2=>hb.block g h2 (by omega)
theorem z3b.cell{B:Nat}{A:Option Addr}{n c:Nat}{ps:List (List Td)}{w:World}(h:z3b B (.slice A n c) ps w):n=ps.length/\n<=c/\(A=none->n=0/\c=0)/\∀i(h:i<ps.length),∃go g c',A=some ⟨go,0,none⟩/\B<=go/\k5f w go c/\w.cell? ⟨go,i,none⟩=some (.slice (some ⟨g,0,none⟩) ps[i].length c')/\q1v B (.slice (some ⟨g,0,none⟩) ps[i].length c') ps[i] w:=by
 obtain⟨hs,h1,h2⟩:=h;rcases h1.2 with⟨hv,h0⟩|⟨go,co,cur,hv,hB,hg,hnc,_,hsz,htake⟩
 ·simp only[Value.slice.injEq]at hv;obtain⟨rfl,rfl,rfl⟩:=hv;exact⟨h0.symm,Nat.le_refl _,fun _=>⟨rfl,rfl⟩,fun i hi=>by omega⟩
 ·simp only[Value.slice.injEq]at hv;obtain⟨rfl,rfl,rfl⟩:=hv;refine⟨rfl,hnc,(fun e=>by cases e),fun i hi=>?_⟩;obtain⟨g,c',e1,e2⟩:=h2 i hi;refine⟨go,g,c',rfl,hB,⟨cur,_,hg,by omega⟩,?_,e2⟩;rw[<-htake,List.getElem?_take_of_lt (by omega)]at e1;simp only[World.cell?,hg];simpa using e1
theorem z3b.prg{B:Nat}{A:Option Addr}{n c:Nat}{ps:List (List Td)}{w:World}(h:z3b B (.slice A n c) ps w):Prg w A ps:=by
 intro i hi;obtain⟨go,g,c',e,_,hr,hc,hT⟩:=h.cell.2.2.2 i hi;exact⟨go,0,_,c',e,hr.lt,by rw[Nat.zero_add];exact hc,(z8e hT).2.1,hT.tds⟩
theorem v8u{B:Nat}{w:World}{v:Value}{n:Nat}{hs:List Value}(h:w.ownsRow B 51 1 v n hs){k:Nat}(hk:v.ownBlock=some k):∃cur,w.heap[k]?=some (.cells cur 51 (0,0)):=by
 rcases h.2 with⟨rfl,_⟩|⟨g,c,cur,rfl,_,hg,_⟩
 ·cases hk
 ·have:g=k:=by simpa[Value.ownBlock]using hk
  subst this;exact⟨cur,hg⟩
theorem z3b.own_le{B:Nat}{v:Value}{ps:List (List Td)}{w:World}(h:z3b B v ps w){k:Nat}(hk:v.ownBlock=some k):B<=k:=by
 obtain⟨hs,h1,_⟩:=h;rcases h1.2 with⟨rfl,_⟩|⟨g,c,cur,rfl,hB,_⟩
 ·cases hk
 ·have:g=k:=by simpa[Value.ownBlock]using hk
  omega
theorem v2c{B:Nat}{v:Value}{ps:List (List Td)}{w:World}(h:z3b B v ps w){g n c:Nat}{t:List Td}(hT:q1v B (.slice (some ⟨g,0,none⟩) n c) t w):
  z3b B v ps (w.alloc (.cells #[.slice (some ⟨g,0,none⟩) n c] 51))/\q1v B (.slice (some ⟨g,0,none⟩) n c) t (w.alloc (.cells #[.slice (some ⟨g,0,none⟩) n c] 51))/\
  (w.alloc (.cells #[.slice (some ⟨g,0,none⟩) n c] 51)).cell? ⟨w,0,none⟩=some (.slice (some ⟨g,0,none⟩) n c):=by
 have b1:Below w w (w.alloc (.cells #[.slice (some ⟨g,0,none⟩) n c] 51)):= Zb.alloc Zl _;exact⟨h.kept fun g _ h2=>b1.block g h2,hT.kept fun g _ h2=>b1.block g h2,cell_one_new w (.slice (some ⟨g,0,none⟩) n c) 51 0 _ rfl⟩
theorem k4m{B:Nat}{w:World}{A:Option Addr}{n c:Nat}{x:Td}{xs:List Td}(h:q1v B (.slice A n c) (x::xs) w):∃g,A=some ⟨g,0,none⟩:=by
 rcases h.2 with⟨_,h0⟩|⟨g,c',cur,hv,_⟩
 ·simp at h0
 ·simp only[Value.slice.injEq]at hv;exact⟨g,hv.1⟩
end Go.Proofs.YthcpdohdppkmkaaGreatDoor
