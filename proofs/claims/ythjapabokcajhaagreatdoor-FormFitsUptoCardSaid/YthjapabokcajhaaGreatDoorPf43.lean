/- Texts as one: TreT. -/
import Derived.Test.YthjapabokcajhaaGreatDoorPf40
import Derived.Test.YthjapabokcajhaaGreatDoorPf10
import Derived.Test.YthjapabokcajhaaGreatDoorPf06
namespace Go.Proofs.YthjapabokcajhaaGreatDoor
open Go Go.RowKit
set_option maxRecDepth 100000
set_option maxHeartbeats 16000000
theorem z0k(ds:List Td)(a:Option Addr)(cap:Nat)(w:World)(hN:Tds w a ds)(hsz:∀x∈ds,x.tx.size<=1000000000000):Calls Tryz.prog 7 #[.slice a ds.length cap] w fun e w'=>e=.returned (.int .i64 (q0b ds))/\Below w.heap.size w w':=by
 have HN:Hid (Tds w a ds):=hN;have HSZ:Hid (∀x∈ds,x.tx.size<=1000000000000):=hsz;clear hN hsz;by_cases h40:40<(ds.length:Int)
 ·have HE:Hid (q0b ds=3):=z1m (by omega);go_in;go_wp2;go_ret;exact⟨by rw[HE.out];rfl,Below.refl _ _⟩
 go_in;go_wp2
 go_loopw [3] (fun i wr=>Below w.heap.size w wr/\∃k:Nat,k<=ds.length/\i=.int .i64 k/\∀x∈ds.take k,q0l x=0) (fun i _=>ds.length-(intOf i).toNat)
 case atStart=>exact⟨Below.refl _ _,0,Nat.zero_le _,rfl,fun x hx=>by simp at hx⟩
 case round=>
  obtain⟨hbr,k,hk,rfl,hall⟩:=hrel;have HA:Hid (∀x∈ds.take k,q0l x=0):=hall;have HBR:Hid (Below w.heap.size w wr):=hbr;have hsr:=hbr.size;clear hall hbr;by_cases hlt:k<ds.length
  ·obtain⟨b,o,ea,hb,c1,c2,c3⟩:=(HN.out.below HBR.out) k hlt;have hki:(k:Int)<(ds.length:Int):=by omega
   have HZ:Hid (q0l ds[k]≠0->q0b ds=q0l ds[k]):=fun h=>z1n (by omega) hlt HA.out h
   have HY:Hid (q0l ds[k]=0->∀x∈ds.take (k+1),q0l x=0):=fun h=>z1l hlt HA.out h
   have htx:ds[k].tx.size<=1000000000000:=HSZ.out _ (List.getElem_mem hlt);have HAL:Hid (∀O:Obj,Below w.heap.size w (wr.alloc O)):=fun O=>HBR.out.alloc hsr O
   subst ea;generalize ds[k]=x at c1 c2 c3 HZ HY htx;obtain⟨op,tx,n⟩:=x;simp only at c1 c2 c3 htx;by_cases h0:op<1
   ·skip
    have HE:Hid (q0b ds=1):=by
     show q0b ds=1;have e:=j3g (tx:=tx) (n:=n) h0;rw[HZ.out (by rw[e];decide),e]
    clear HZ HY;go_wp2;go_ret;exact⟨by rw[HE.out];rfl,HAL.out _⟩
   by_cases h1:9<op
   ·skip
    have HE:Hid (q0b ds=1):=by
     show q0b ds=1;have e:=j3h (tx:=tx) (n:=n) h0 h1;rw[HZ.out (by rw[e];decide),e]
    clear HZ HY;go_wp2;go_ret;exact⟨by rw[HE.out];rfl,HAL.out _⟩
   have hop:op=1\/op=2\/op=3\/op=4\/op=5\/op=6\/op=7\/op=8\/op=9:=by omega
   clear h0 h1;rcases hop with rfl|rfl|rfl|rfl|rfl|rfl|rfl|rfl|rfl
   ·skip
    by_cases h0:n<0
    ·skip
     have HE:Hid (q0b ds=1):=by
      show q0b ds=1;have e:=j3i (tx:=tx) (n:=n) h0;rw[HZ.out (by rw[e];decide),e]
     clear HZ HY;go_wp2;go_ret;exact⟨by rw[HE.out];rfl,HAL.out _⟩
    ·skip
     by_cases h1:999999<n
     ·skip
      have HE:Hid (q0b ds=1):=by
       show q0b ds=1;have e:=j3j (tx:=tx) (n:=n) h0 h1;rw[HZ.out (by rw[e];decide),e]
      clear HZ HY;go_wp2;go_ret;exact⟨by rw[HE.out];rfl,HAL.out _⟩
     ·skip
      by_cases h2:0<(tx.size:Int)
      ·skip
       have HE:Hid (q0b ds=2):=by
        show q0b ds=2;have e:=j3k (tx:=tx) (n:=n) h0 h1 h2;rw[HZ.out (by rw[e];decide),e]
       clear HZ HY;go_wp2;go_ret;exact⟨by rw[HE.out];rfl,HAL.out _⟩
      ·skip
       have HE:=(show Hid (_)from HY.out (j3l (tx:=tx) (n:=n) h0 h1 h2));clear HZ HY;go_wp2
       go_roundw
       case rel=>exact⟨HAL.out _,k+1,by omega,by go_num,HE.out⟩
       case measure=>simp[intOf];omega
   ·skip
    by_cases h0:n=0
    ·skip
     cases h1:q0r tx with
     | true=>
      have HE:=(show Hid (_)from HY.out (j3n (tx:=tx) (n:=n) h0 h1));have HB:Hid (q0r tx=true):=h1;clear HZ HY h1;go_wp2_with(go_at_call 23;refine(q2i _ _).mono ?_;rintro e w2⟨rfl,rfl⟩;rw[HB.out])
      go_roundw
      case rel=>exact⟨HAL.out _,k+1,by omega,by go_num,HE.out⟩
      case measure=>simp[intOf];omega
     | false=>
      have HE:Hid (q0b ds=5):=by
       show q0b ds=5;have e:=j3o (tx:=tx) (n:=n) h0 h1;rw[HZ.out (by rw[e];decide),e]
      have HB:Hid (q0r tx=false):=h1;clear HZ HY h1;go_wp2_with(go_at_call 23;refine(q2i _ _).mono ?_;rintro e w2⟨rfl,rfl⟩;rw[HB.out]);go_ret;exact⟨by rw[HE.out];rfl,HAL.out _⟩
    ·skip
     have HE:Hid (q0b ds=2):=by
      show q0b ds=2;have e:=j3m (tx:=tx) (n:=n) h0;rw[HZ.out (by rw[e];decide),e]
     clear HZ HY;go_wp2;go_ret;exact⟨by rw[HE.out];rfl,HAL.out _⟩
   ·skip
    by_cases h0:n<0
    ·skip
     have HE:Hid (q0b ds=1):=by
      show q0b ds=1;have e:=j3p (tx:=tx) (n:=n) h0;rw[HZ.out (by rw[e];decide),e]
     clear HZ HY;go_wp2;go_ret;exact⟨by rw[HE.out];rfl,HAL.out _⟩
    ·skip
     by_cases h1:6<n
     ·skip
      have HE:Hid (q0b ds=1):=by
       show q0b ds=1;have e:=k5c (tx:=tx) (n:=n) h0 h1;rw[HZ.out (by rw[e];decide),e]
      clear HZ HY;go_wp2;go_ret;exact⟨by rw[HE.out];rfl,HAL.out _⟩
     ·skip
      cases h2:q0r tx with
      | true=>
       have HE:=(show Hid (_)from HY.out (k5d (tx:=tx) (n:=n) h0 h1 h2));have HB:Hid (q0r tx=true):=h2;clear HZ HY h2;go_wp2_with(go_at_call 23;refine(q2i _ _).mono ?_;rintro e w2⟨rfl,rfl⟩;rw[HB.out])
       go_roundw
       case rel=>exact⟨HAL.out _,k+1,by omega,by go_num,HE.out⟩
       case measure=>simp[intOf];omega
      | false=>
       have HE:Hid (q0b ds=5):=by
        show q0b ds=5;have e:=k5e (tx:=tx) (n:=n) h0 h1 h2;rw[HZ.out (by rw[e];decide),e]
       have HB:Hid (q0r tx=false):=h2;clear HZ HY h2;go_wp2_with(go_at_call 23;refine(q2i _ _).mono ?_;rintro e w2⟨rfl,rfl⟩;rw[HB.out]);go_ret;exact⟨by rw[HE.out];rfl,HAL.out _⟩
   ·skip
    by_cases h0:n<0
    ·skip
     have HE:Hid (q0b ds=1):=by
      show q0b ds=1;have e:=k5f (tx:=tx) (n:=n) h0;rw[HZ.out (by rw[e];decide),e]
     clear HZ HY;go_wp2;go_ret;exact⟨by rw[HE.out];rfl,HAL.out _⟩
    ·skip
     by_cases h1:6<n
     ·skip
      have HE:Hid (q0b ds=1):=by
       show q0b ds=1;have e:=k5g (tx:=tx) (n:=n) h0 h1;rw[HZ.out (by rw[e];decide),e]
      clear HZ HY;go_wp2;go_ret;exact⟨by rw[HE.out];rfl,HAL.out _⟩
     ·skip
      by_cases h2:0<(tx.size:Int)
      ·skip
       have HE:Hid (q0b ds=2):=by
        show q0b ds=2;have e:=k5h (tx:=tx) (n:=n) h0 h1 h2;rw[HZ.out (by rw[e];decide),e]
       clear HZ HY;go_wp2;go_ret;exact⟨by rw[HE.out];rfl,HAL.out _⟩
      ·skip
       have HE:=(show Hid (_)from HY.out (k5i (tx:=tx) (n:=n) h0 h1 h2));clear HZ HY;go_wp2
       go_roundw
       case rel=>exact⟨HAL.out _,k+1,by omega,by go_num,HE.out⟩
       case measure=>simp[intOf];omega
   ·skip
    by_cases h0:n=0
    ·skip
     by_cases h1:0<(tx.size:Int)
     ·skip
      have HE:Hid (q0b ds=2):=by
       show q0b ds=2;have e:=k5k (tx:=tx) (n:=n) h0 h1;rw[HZ.out (by rw[e];decide),e]
      clear HZ HY;go_wp2;go_ret;exact⟨by rw[HE.out];rfl,HAL.out _⟩
     ·skip
      have HE:=(show Hid (_)from HY.out (k5l (tx:=tx) (n:=n) h0 h1));clear HZ HY;go_wp2
      go_roundw
      case rel=>exact⟨HAL.out _,k+1,by omega,by go_num,HE.out⟩
      case measure=>simp[intOf];omega
    ·skip
     have HE:Hid (q0b ds=2):=by
      show q0b ds=2;have e:=k5j (tx:=tx) (n:=n) h0;rw[HZ.out (by rw[e];decide),e]
     clear HZ HY;go_wp2;go_ret;exact⟨by rw[HE.out];rfl,HAL.out _⟩
   ·skip
    by_cases h0:n=0
    ·skip
     by_cases h1:0<(tx.size:Int)
     ·skip
      have HE:Hid (q0b ds=2):=by
       show q0b ds=2;have e:=k5n (tx:=tx) (n:=n) h0 h1;rw[HZ.out (by rw[e];decide),e]
      clear HZ HY;go_wp2;go_ret;exact⟨by rw[HE.out];rfl,HAL.out _⟩
     ·skip
      have HE:=(show Hid (_)from HY.out (k5o (tx:=tx) (n:=n) h0 h1));clear HZ HY;go_wp2
      go_roundw
      case rel=>exact⟨HAL.out _,k+1,by omega,by go_num,HE.out⟩
      case measure=>simp[intOf];omega
    ·skip
     have HE:Hid (q0b ds=2):=by
      show q0b ds=2;have e:=k5m (tx:=tx) (n:=n) h0;rw[HZ.out (by rw[e];decide),e]
     clear HZ HY;go_wp2;go_ret;exact⟨by rw[HE.out];rfl,HAL.out _⟩
   ·skip
    by_cases h0:n=0
    ·skip
     cases h1:q0r tx with
     | true=>
      have HE:=(show Hid (_)from HY.out (k5q (tx:=tx) (n:=n) h0 h1));have HB:Hid (q0r tx=true):=h1;clear HZ HY h1;go_wp2_with(go_at_call 23;refine(q2i _ _).mono ?_;rintro e w2⟨rfl,rfl⟩;rw[HB.out])
      go_roundw
      case rel=>exact⟨HAL.out _,k+1,by omega,by go_num,HE.out⟩
      case measure=>simp[intOf];omega
     | false=>
      have HE:Hid (q0b ds=5):=by
       show q0b ds=5;have e:=k5r (tx:=tx) (n:=n) h0 h1;rw[HZ.out (by rw[e];decide),e]
      have HB:Hid (q0r tx=false):=h1;clear HZ HY h1;go_wp2_with(go_at_call 23;refine(q2i _ _).mono ?_;rintro e w2⟨rfl,rfl⟩;rw[HB.out]);go_ret;exact⟨by rw[HE.out];rfl,HAL.out _⟩
    ·skip
     have HE:Hid (q0b ds=2):=by
      show q0b ds=2;have e:=k5p (tx:=tx) (n:=n) h0;rw[HZ.out (by rw[e];decide),e]
     clear HZ HY;go_wp2;go_ret;exact⟨by rw[HE.out];rfl,HAL.out _⟩
   ·skip
    by_cases h0:n=0
    ·skip
     by_cases h1:0<(tx.size:Int)
     ·skip
      have HE:Hid (q0b ds=2):=by
       show q0b ds=2;have e:=k5t (tx:=tx) (n:=n) h0 h1;rw[HZ.out (by rw[e];decide),e]
      clear HZ HY;go_wp2;go_ret;exact⟨by rw[HE.out];rfl,HAL.out _⟩
     ·skip
      have HE:=(show Hid (_)from HY.out (k5u (tx:=tx) (n:=n) h0 h1));clear HZ HY;go_wp2
      go_roundw
      case rel=>exact⟨HAL.out _,k+1,by omega,by go_num,HE.out⟩
      case measure=>simp[intOf];omega
    ·skip
     have HE:Hid (q0b ds=2):=by
      show q0b ds=2;have e:=k5s (tx:=tx) (n:=n) h0;rw[HZ.out (by rw[e];decide),e]
     clear HZ HY;go_wp2;go_ret;exact⟨by rw[HE.out];rfl,HAL.out _⟩
   ·skip
    by_cases h0:n=0
    ·skip
     by_cases h1:q1s tx=0
     ·skip
      have HE:=(show Hid (_)from HY.out (k5w (tx:=tx) (n:=n) h0 h1));have HB:Hid (q1s tx=0):=h1;clear HZ HY h1;have HNF:Hid (q0t ((q0f (btL tx)).map wbS)=q1s tx):=rfl;generalize q1s tx=nf at *;go_wp2_with fail;refine(q5t tx _ htx).mono ?_;rintro e w2⟨⟨A2,c2',rfl,hO2⟩,b2⟩;have B2:Below w.heap.size w w2:=(HAL.out _).trans (b2.mono (by simp;omega));have HW2:Hid (Wds w2 A2 ((q0f (btL tx)).map wbS)):=q9w hO2;have hnl:(q0f (btL tx)).length=((q0f (btL tx)).map wbS).length:=by rw[List.length_map]
      rw[hnl];clear hO2 hnl b2
      generalize(q0f (btL tx)).map wbS=ws at HW2 HNF⊢
      go_wp2_with fail;refine(z1i ws A2 c2' _ HW2.out).mono ?_;rintro e w3⟨rfl,rfl⟩;rw[HNF.out];rw[HB.out];go_wp2
      go_roundw
      case rel=>exact⟨B2,k+1,by omega,by go_num,HE.out⟩
      case measure=>simp[intOf];omega
     ·skip
      have HE:Hid (q0b ds=q1s tx):=by
       show q0b ds=q1s tx;have e:=k5x (tx:=tx) (n:=n) h0 h1;rw[HZ.out (by rw[e];exact h1),e]
      have hnz:(q1s tx != 0)=true:=by simp[h1]
      clear HZ HY h1;have HNF:Hid (q0t ((q0f (btL tx)).map wbS)=q1s tx):=rfl;generalize q1s tx=nf at *;go_wp2_with fail;refine(q5t tx _ htx).mono ?_;rintro e w2⟨⟨A2,c2',rfl,hO2⟩,b2⟩;have B2:Below w.heap.size w w2:=(HAL.out _).trans (b2.mono (by simp;omega));have HW2:Hid (Wds w2 A2 ((q0f (btL tx)).map wbS)):=q9w hO2;have hnl:(q0f (btL tx)).length=((q0f (btL tx)).map wbS).length:=by rw[List.length_map]
      rw[hnl];clear hO2 hnl b2
      generalize(q0f (btL tx)).map wbS=ws at HW2 HNF⊢
      go_wp2_with fail;refine(z1i ws A2 c2' _ HW2.out).mono ?_;rintro e w3⟨rfl,rfl⟩;rw[HNF.out];go_wp2;go_ret;exact⟨by rw[HE.out];rfl,B2⟩
    ·skip
     have HE:Hid (q0b ds=2):=by
      show q0b ds=2;have e:=k5v (tx:=tx) (n:=n) h0;rw[HZ.out (by rw[e];decide),e]
     clear HZ HY;go_wp2;go_ret;exact⟨by rw[HE.out];rfl,HAL.out _⟩
  ·obtain rfl:k=ds.length:=by omega
   have HALL:Hid (∀x∈ds,q0l x=0):=by
    have h:=HA.out;rw[List.take_length]at h;exact h
   have hki:¬(ds.length:Int)<(ds.length:Int):=by omega
   by_cases hz:ds.length=0
   ·have HE:Hid (q0b ds=2):=by
     show q0b ds=2;rw[q7h (by omega) HALL.out,q5i ds 0 0 (by omega),if_neg (by simp)]
    have hzi:((ds.length:Int)==0)=true:=beq_iff_eq.2 (by omega);clear hz;go_wp2;go_ret;exact⟨by rw[HE.out];rfl,HBR.out⟩
   ·have hzi:((ds.length:Int)==0)=false:=beq_false_of_ne (by omega);have HEO:Hid (Calls Tryz.prog 24 #[.slice a ds.length cap,.int .i64 0] wr fun e w'=>e=.returned (.int .i64 (z2g (q2h ds 0 1)))/\Below wr.heap.size wr w'):=q9r ds a cap (by omega) HALL.out (ds.length+1) 0 wr (HN.out.below HBR.out) (by omega) (by omega);by_cases he:q2h ds 0 1=some ds.length
    ·have HEZ:Hid (z2g (q2h ds 0 1)=(ds.length:Int)):=by show z2g _=_;rw[he];rfl
     have HT:Hid (q0b ds=if z7h ds=true then 0 else 2):=by
      show q0b ds=_;rw[q7h (by omega) HALL.out];simp only[he,true_and]
     have hnn:((ds.length:Int) != (ds.length:Int))=false:=by simp
     clear he hz;go_wp2_with fail;refine HEO.out.mono ?_;rintro e w2⟨rfl,b2⟩;rw[HEZ.out];have HB2:Hid (Below w.heap.size w w2):=q0g HBR.out (Nat.le_refl _) b2;clear b2;go_wp2
     go_loopw [8] (fun i wx=>wx=w2/\∃k:Nat,k<=ds.length/\i=.int .i64 (k:Int)/\∀j(h:j<ds.length),j<k->decide (7<=ds[j].op)=decide (j=0)) (fun i _=>ds.length-(intOf i).toNat)
     case atStart=>exact⟨rfl,0,Nat.zero_le _,rfl,fun j _ h=>by omega⟩
     case round=>
      obtain⟨rfl,k,hk,rfl,hall⟩:=hrel;have HA2:Hid (∀j(h:j<ds.length),j<k->decide (7<=ds[j].op)=decide (j=0)):=hall;clear hall;by_cases hlt:k<ds.length
      ·obtain⟨b,o,ea,hb,c1,_,_⟩:=(HN.out.below HB2.out) k hlt;have hkl:(k:Int)<(ds.length:Int):=by omega
       subst ea
       have HYES:Hid (decide (7<=ds[k].op)=decide (k=0)->∀j(h:j<ds.length),j<k+1->decide (7<=ds[j].op)=decide (j=0)):=fun hsame j h hj=>by
        by_cases hjk:j=k
        ·subst hjk;exact hsame
        ·exact HA2.out j h (by omega)
       have HNO:Hid (¬decide (7<=ds[k].op)=decide (k=0)->q0b ds=2):=fun hsame=>by
        rw[HT.out,if_neg];intro h;exact hsame (z9m.1 h k hlt)
       generalize ds[k].op=op at c1 HYES HNO;by_cases h7:7<=op
       ·by_cases hk0:k=0
        ·have HE:=(show Hid (_)from HYES.out (by simp[h7,hk0]));have hkb:((k:Int)==0)=true:=beq_iff_eq.2 (by omega);clear hk0 HYES HNO;go_wp2
         go_roundw
         case rel=>exact⟨by trivial,k+1,by omega,by go_num,HE.out⟩
         case measure=>simp[intOf];omega
        ·have HE:=(show Hid (_)from HNO.out (by simp[h7,hk0]));have hkb:((k:Int)==0)=false:=beq_false_of_ne (by omega);clear hk0 HYES HNO;go_wp2;go_ret;exact⟨by rw[HE.out];rfl,HB2.out⟩
       ·by_cases hk0:k=0
        ·have HE:=(show Hid (_)from HNO.out (by simp[h7,hk0]));have hkb:((k:Int)==0)=true:=beq_iff_eq.2 (by omega);clear hk0 HYES HNO;go_wp2;go_ret;exact⟨by rw[HE.out];rfl,HB2.out⟩
        ·have HE:=(show Hid (_)from HYES.out (by simp[h7,hk0]));have hkb:((k:Int)==0)=false:=beq_false_of_ne (by omega);clear hk0 HYES HNO;go_wp2
         go_roundw
         case rel=>exact⟨by trivial,k+1,by omega,by go_num,HE.out⟩
         case measure=>simp[intOf];omega
      ·have HE:Hid (q0b ds=0):=by
        show q0b ds=0;rw[HT.out,if_pos (z9m.2 fun j h=>HA2.out j h (by omega))]
       have hkl:¬(k:Int)<(ds.length:Int):=by omega
       go_wp2;go_ret;exact⟨by rw[HE.out];rfl,HB2.out⟩
    ·have HE:Hid (q0b ds=2):=by
      show q0b ds=2;rw[q7h (by omega) HALL.out,if_neg (fun h=>he h.1)]
     have hne:(z2g (q2h ds 0 1) != (ds.length:Int))=true:=by
      cases h:q2h ds 0 1 with
      | none=>
       simp only[z2g,bne_iff_ne,ne_eq];omega
      | some j=>
       rw[h]at he;have hj:j≠ds.length:=fun e=>he (by rw[e])
       simp only[z2g,bne_iff_ne,ne_eq];omega
     generalize z2g (q2h ds 0 1)=z at HEO hne;clear he hz;go_wp2_with fail;refine HEO.out.mono ?_;rintro e w2⟨rfl,b2⟩;have B2:=q0g HBR.out (Nat.le_refl _) b2;go_wp2;go_ret;exact⟨by rw[HE.out];rfl,B2⟩
end Go.Proofs.YthjapabokcajhaaGreatDoor
