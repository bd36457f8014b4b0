/- Texts as one: TreT, TreG. -/
import Derived.Test.YthjapabokcajhaaGreatDoorPi34
open Go.Proofs.Tryz
namespace Go.Proofs.YthjapabokcajhaaGreatDoor
open Go Go.RowKit
set_option maxRecDepth 100000
set_option maxHeartbeats 16000000
theorem q5u(ds:List Td)(a:Option Addr)(cap:Nat)(w:World)(hN:Tds w a ds)(hsz:∀x∈ds,x.tx.size<=1000000000000):Calls prog 7 #[.slice a ds.length cap] w fun e w'=>e=.returned (q0b ds)/\Below w w w':=by
 have HN:Hid (Tds w a ds):=hN;have HSZ:Hid (∀x∈ds,x.tx.size<=1000000000000):=hsz;clear hN hsz;by_cases h40:40<(ds.length:Int)
 ·have HE:Hid (q0b ds=3):=z7g (by omega);go_in;go_wp2;go_ret;exact⟨by rw[HE.o];rfl,Below.refl _ _⟩
 go_in;go_wp2
 go_loopw [3] (fun i wr=>Below w w wr/\∃k:Nat,k<=ds.length/\i=.int .i64 k/\∀x∈ds.take k,q0t x=0) (fun i _=>ds.length-(intOf i).toNat)
 case atStart=>exact⟨Below.refl _ _,0,Nat.zero_le _,rfl,fun x hx=>by simp at hx⟩
 case round=>
  obtain⟨hbr,k,hk,rfl,hall⟩:=hrel;have HA:Hid (∀x∈ds.take k,q0t x=0):=hall;have HBR:Hid (Below w w wr):=hbr;have hsr:=hbr.size;clear hall hbr;by_cases hlt:k<ds.length
  ·obtain⟨b,o,ea,hb,c1,c2,c3⟩:=(HN.o.below HBR.o) k hlt;have hki:(k:Int)<(ds.length:Int):=by omega
   have HZ:Hid (q0t ds[k]≠0->q0b ds=q0t ds[k]):=fun h=>z7h (by omega) hlt HA.o h
   have HY:Hid (q0t ds[k]=0->∀x∈ds.take (k+1),q0t x=0):=fun h=>z7f hlt HA.o h
   have htx:ds[k].tx.size<=1000000000000:=HSZ.o _ (List.getElem_mem hlt);have HAL:Hid (∀O:Obj,Below w w (wr.alloc O)):=fun O=>HBR.o.alloc hsr O
   subst ea;generalize ds[k]=x at c1 c2 c3 HZ HY htx;obtain⟨op,tx,n⟩:=x;simp only at c1 c2 c3 htx;by_cases h0:op<1
   ·skip
    have HE:Hid (q0b ds=1):=by
     show q0b ds=1;have e:=v7d (tx:=tx) (n:=n) h0;rw[HZ.o (by rw[e];decide),e]
    clear HZ HY;go_wp2;go_ret;exact⟨by rw[HE.o];rfl,HAL.o _⟩
   by_cases h1:9<op
   ·skip
    have HE:Hid (q0b ds=1):=by
     show q0b ds=1;have e:=v7e (tx:=tx) (n:=n) h0 h1;rw[HZ.o (by rw[e];decide),e]
    clear HZ HY;go_wp2;go_ret;exact⟨by rw[HE.o];rfl,HAL.o _⟩
   have hop:op=1\/op=2\/op=3\/op=4\/op=5\/op=6\/op=7\/op=8\/op=9:=by omega
   clear h0 h1;rcases hop with rfl|rfl|rfl|rfl|rfl|rfl|rfl|rfl|rfl
   ·skip
    by_cases h0:n<0
    ·skip
     have HE:Hid (q0b ds=1):=by
      show q0b ds=1;have e:=v7f (tx:=tx) (n:=n) h0;rw[HZ.o (by rw[e];decide),e]
     clear HZ HY;go_wp2;go_ret;exact⟨by rw[HE.o];rfl,HAL.o _⟩
    ·skip
     by_cases h1:999999<n
     ·skip
      have HE:Hid (q0b ds=1):=by
       show q0b ds=1;have e:=v7g (tx:=tx) (n:=n) h0 h1;rw[HZ.o (by rw[e];decide),e]
      clear HZ HY;go_wp2;go_ret;exact⟨by rw[HE.o];rfl,HAL.o _⟩
     ·skip
      by_cases h2:0<(tx.size:Int)
      ·skip
       have HE:Hid (q0b ds=2):=by
        show q0b ds=2;have e:=v7h (tx:=tx) (n:=n) h0 h1 h2;rw[HZ.o (by rw[e];decide),e]
       clear HZ HY;go_wp2;go_ret;exact⟨by rw[HE.o];rfl,HAL.o _⟩
      ·skip
       have HE:=(show Hid (_)from HY.o (v7i (tx:=tx) (n:=n) h0 h1 h2));clear HZ HY;go_wp2
       go_roundw
       case rel=>exact⟨HAL.o _,k+1,by omega,by go_num,HE.o⟩
       case measure=>simp[intOf];omega
   ·skip
    by_cases h0:n=0
    ·skip
     cases h1:q0o tx with
     | true=>
      have HE:=(show Hid (_)from HY.o (v7k (tx:=tx) (n:=n) h0 h1));have HB:Hid (q0o tx=true):=h1;clear HZ HY h1;go_wp2_with(go_at_call 23;refine(q1f _ _).mono ?_;rintro e w2⟨rfl,rfl⟩;rw[HB.o])
      go_roundw
      case rel=>exact⟨HAL.o _,k+1,by omega,by go_num,HE.o⟩
      case measure=>simp[intOf];omega
     | false=>
      have HE:Hid (q0b ds=5):=by
       show q0b ds=5;have e:=v7l (tx:=tx) (n:=n) h0 h1;rw[HZ.o (by rw[e];decide),e]
      have HB:Hid (q0o tx=false):=h1;clear HZ HY h1;go_wp2_with(go_at_call 23;refine(q1f _ _).mono ?_;rintro e w2⟨rfl,rfl⟩;rw[HB.o]);go_ret;exact⟨by rw[HE.o];rfl,HAL.o _⟩
    ·skip
     have HE:Hid (q0b ds=2):=by
      show q0b ds=2;have e:=v7j (tx:=tx) (n:=n) h0;rw[HZ.o (by rw[e];decide),e]
     clear HZ HY;go_wp2;go_ret;exact⟨by rw[HE.o];rfl,HAL.o _⟩
   ·skip
    by_cases h0:n<0
    ·skip
     have HE:Hid (q0b ds=1):=by
      show q0b ds=1;have e:=v7m (tx:=tx) (n:=n) h0;rw[HZ.o (by rw[e];decide),e]
     clear HZ HY;go_wp2;go_ret;exact⟨by rw[HE.o];rfl,HAL.o _⟩
    ·skip
     by_cases h1:6<n
     ·skip
      have HE:Hid (q0b ds=1):=by
       show q0b ds=1;have e:=j6c (tx:=tx) (n:=n) h0 h1;rw[HZ.o (by rw[e];decide),e]
      clear HZ HY;go_wp2;go_ret;exact⟨by rw[HE.o];rfl,HAL.o _⟩
     ·skip
      cases h2:q0o tx with
      | true=>
       have HE:=(show Hid (_)from HY.o (j6d (tx:=tx) (n:=n) h0 h1 h2));have HB:Hid (q0o tx=true):=h2;clear HZ HY h2;go_wp2_with(go_at_call 23;refine(q1f _ _).mono ?_;rintro e w2⟨rfl,rfl⟩;rw[HB.o])
       go_roundw
       case rel=>exact⟨HAL.o _,k+1,by omega,by go_num,HE.o⟩
       case measure=>simp[intOf];omega
      | false=>
       have HE:Hid (q0b ds=5):=by
        show q0b ds=5;have e:=j6e (tx:=tx) (n:=n) h0 h1 h2;rw[HZ.o (by rw[e];decide),e]
       have HB:Hid (q0o tx=false):=h2;clear HZ HY h2;go_wp2_with(go_at_call 23;refine(q1f _ _).mono ?_;rintro e w2⟨rfl,rfl⟩;rw[HB.o]);go_ret;exact⟨by rw[HE.o];rfl,HAL.o _⟩
   ·skip
    by_cases h0:n<0
    ·skip
     have HE:Hid (q0b ds=1):=by
      show q0b ds=1;have e:=j6f (tx:=tx) (n:=n) h0;rw[HZ.o (by rw[e];decide),e]
     clear HZ HY;go_wp2;go_ret;exact⟨by rw[HE.o];rfl,HAL.o _⟩
    ·skip
     by_cases h1:6<n
     ·skip
      have HE:Hid (q0b ds=1):=by
       show q0b ds=1;have e:=j6g (tx:=tx) (n:=n) h0 h1;rw[HZ.o (by rw[e];decide),e]
      clear HZ HY;go_wp2;go_ret;exact⟨by rw[HE.o];rfl,HAL.o _⟩
     ·skip
      by_cases h2:0<(tx.size:Int)
      ·skip
       have HE:Hid (q0b ds=2):=by
        show q0b ds=2;have e:=j6h (tx:=tx) (n:=n) h0 h1 h2;rw[HZ.o (by rw[e];decide),e]
       clear HZ HY;go_wp2;go_ret;exact⟨by rw[HE.o];rfl,HAL.o _⟩
      ·skip
       have HE:=(show Hid (_)from HY.o (j6i (tx:=tx) (n:=n) h0 h1 h2));clear HZ HY;go_wp2
       go_roundw
       case rel=>exact⟨HAL.o _,k+1,by omega,by go_num,HE.o⟩
       case measure=>simp[intOf];omega
   ·skip
    by_cases h0:n=0
    ·skip
     by_cases h1:0<(tx.size:Int)
     ·skip
      have HE:Hid (q0b ds=2):=by
       show q0b ds=2;have e:=j6k (tx:=tx) (n:=n) h0 h1;rw[HZ.o (by rw[e];decide),e]
      clear HZ HY;go_wp2;go_ret;exact⟨by rw[HE.o];rfl,HAL.o _⟩
     ·skip
      have HE:=(show Hid (_)from HY.o (j6l (tx:=tx) (n:=n) h0 h1));clear HZ HY;go_wp2
      go_roundw
      case rel=>exact⟨HAL.o _,k+1,by omega,by go_num,HE.o⟩
      case measure=>simp[intOf];omega
    ·skip
     have HE:Hid (q0b ds=2):=by
      show q0b ds=2;have e:=j6j (tx:=tx) (n:=n) h0;rw[HZ.o (by rw[e];decide),e]
     clear HZ HY;go_wp2;go_ret;exact⟨by rw[HE.o];rfl,HAL.o _⟩
   ·skip
    by_cases h0:n=0
    ·skip
     by_cases h1:0<(tx.size:Int)
     ·skip
      have HE:Hid (q0b ds=2):=by
       show q0b ds=2;have e:=j6n (tx:=tx) (n:=n) h0 h1;rw[HZ.o (by rw[e];decide),e]
      clear HZ HY;go_wp2;go_ret;exact⟨by rw[HE.o];rfl,HAL.o _⟩
     ·skip
      have HE:=(show Hid (_)from HY.o (j6o (tx:=tx) (n:=n) h0 h1));clear HZ HY;go_wp2
      go_roundw
      case rel=>exact⟨HAL.o _,k+1,by omega,by go_num,HE.o⟩
      case measure=>simp[intOf];omega
    ·skip
     have HE:Hid (q0b ds=2):=by
      show q0b ds=2;have e:=j6m (tx:=tx) (n:=n) h0;rw[HZ.o (by rw[e];decide),e]
     clear HZ HY;go_wp2;go_ret;exact⟨by rw[HE.o];rfl,HAL.o _⟩
   ·skip
    by_cases h0:n=0
    ·skip
     cases h1:q0o tx with
     | true=>
      have HE:=(show Hid (_)from HY.o (j6q (tx:=tx) (n:=n) h0 h1));have HB:Hid (q0o tx=true):=h1;clear HZ HY h1;go_wp2_with(go_at_call 23;refine(q1f _ _).mono ?_;rintro e w2⟨rfl,rfl⟩;rw[HB.o])
      go_roundw
      case rel=>exact⟨HAL.o _,k+1,by omega,by go_num,HE.o⟩
      case measure=>simp[intOf];omega
     | false=>
      have HE:Hid (q0b ds=5):=by
       show q0b ds=5;have e:=j6r (tx:=tx) (n:=n) h0 h1;rw[HZ.o (by rw[e];decide),e]
      have HB:Hid (q0o tx=false):=h1;clear HZ HY h1;go_wp2_with(go_at_call 23;refine(q1f _ _).mono ?_;rintro e w2⟨rfl,rfl⟩;rw[HB.o]);go_ret;exact⟨by rw[HE.o];rfl,HAL.o _⟩
    ·skip
     have HE:Hid (q0b ds=2):=by
      show q0b ds=2;have e:=j6p (tx:=tx) (n:=n) h0;rw[HZ.o (by rw[e];decide),e]
     clear HZ HY;go_wp2;go_ret;exact⟨by rw[HE.o];rfl,HAL.o _⟩
   ·skip
    by_cases h0:n=0
    ·skip
     by_cases h1:0<(tx.size:Int)
     ·skip
      have HE:Hid (q0b ds=2):=by
       show q0b ds=2;have e:=j6t (tx:=tx) (n:=n) h0 h1;rw[HZ.o (by rw[e];decide),e]
      clear HZ HY;go_wp2;go_ret;exact⟨by rw[HE.o];rfl,HAL.o _⟩
     ·skip
      have HE:=(show Hid (_)from HY.o (j6u (tx:=tx) (n:=n) h0 h1));clear HZ HY;go_wp2
      go_roundw
      case rel=>exact⟨HAL.o _,k+1,by omega,by go_num,HE.o⟩
      case measure=>simp[intOf];omega
    ·skip
     have HE:Hid (q0b ds=2):=by
      show q0b ds=2;have e:=j6s (tx:=tx) (n:=n) h0;rw[HZ.o (by rw[e];decide),e]
     clear HZ HY;go_wp2;go_ret;exact⟨by rw[HE.o];rfl,HAL.o _⟩
   ·skip
    by_cases h0:n=0
    ·skip
     by_cases h1:q2u tx=0
     ·skip
      have HE:=(show Hid (_)from HY.o (j6w (tx:=tx) (n:=n) h0 h1));have HB:Hid (q2u tx=0):=h1;clear HZ HY h1;have HNF:Hid (q1d ((q0e (btL tx)).map wbS)=q2u tx):=rfl;generalize q2u tx=nf at *;go_wp2_with fail;refine(q3z tx _ htx).mono ?_;rintro e w2⟨⟨A2,c2',rfl,hO2⟩,b2⟩;have B2:Below w w w2:=(HAL.o _).trans (b2.mono (by simp;omega));have HW2:Hid (Wds w2 A2 ((q0e (btL tx)).map wbS)):=q4g hO2;have hnl:(q0e (btL tx)).length=((q0e (btL tx)).map wbS).length:=by rw[List.length_map]
      rw[hnl];clear hO2 hnl b2
      generalize(q0e (btL tx)).map wbS=ws at HW2 HNF⊢
      go_wp2_with fail;refine(z7c ws A2 c2' _ HW2.o).mono ?_;rintro e w3⟨rfl,rfl⟩;rw[HNF.o];rw[HB.o];go_wp2
      go_roundw
      case rel=>exact⟨B2,k+1,by omega,by go_num,HE.o⟩
      case measure=>simp[intOf];omega
     ·skip
      have HE:Hid (q0b ds=q2u tx):=by
       show q0b ds=q2u tx;have e:=j6x (tx:=tx) (n:=n) h0 h1;rw[HZ.o (by rw[e];exact h1),e]
      have hnz:(q2u tx != 0)=true:=by simp[h1]
      clear HZ HY h1;have HNF:Hid (q1d ((q0e (btL tx)).map wbS)=q2u tx):=rfl;generalize q2u tx=nf at *;go_wp2_with fail;refine(q3z tx _ htx).mono ?_;rintro e w2⟨⟨A2,c2',rfl,hO2⟩,b2⟩;have B2:Below w w w2:=(HAL.o _).trans (b2.mono (by simp;omega));have HW2:Hid (Wds w2 A2 ((q0e (btL tx)).map wbS)):=q4g hO2;have hnl:(q0e (btL tx)).length=((q0e (btL tx)).map wbS).length:=by rw[List.length_map]
      rw[hnl];clear hO2 hnl b2
      generalize(q0e (btL tx)).map wbS=ws at HW2 HNF⊢
      go_wp2_with fail;refine(z7c ws A2 c2' _ HW2.o).mono ?_;rintro e w3⟨rfl,rfl⟩;rw[HNF.o];go_wp2;go_ret;exact⟨by rw[HE.o];rfl,B2⟩
    ·skip
     have HE:Hid (q0b ds=2):=by
      show q0b ds=2;have e:=j6v (tx:=tx) (n:=n) h0;rw[HZ.o (by rw[e];decide),e]
     clear HZ HY;go_wp2;go_ret;exact⟨by rw[HE.o];rfl,HAL.o _⟩
  ·obtain rfl:k=ds.length:=by omega
   have HALL:Hid (∀x∈ds,q0t x=0):=by
    have h:=HA.o;rw[List.take_length]at h;exact h
   have hki:¬(ds.length:Int)<(ds.length:Int):=by omega
   by_cases hz:ds.length=0
   ·have HE:Hid (q0b ds=2):=by
     show q0b ds=2;rw[z0z (by omega) HALL.o,q8m ds 0 0 (by omega),if_neg (by simp)]
    have hzi:((ds.length:Int)==0)=true:=beq_iff_eq.2 (by omega);clear hz;go_wp2;go_ret;exact⟨by rw[HE.o];rfl,HBR.o⟩
   ·have hzi:((ds.length:Int)==0)=false:=beq_false_of_ne (by omega);have HEO:Hid (Calls prog 24 #[.slice a ds.length cap,.int .i64 0] wr fun e w'=>e=.returned (z8i (q3q ds 0 1))/\Below wr wr w'):=z4r ds a cap (by omega) HALL.o (ds.length+1) 0 wr (HN.o.below HBR.o) (by omega) (by omega);by_cases he:q3q ds 0 1=some ds.length
    ·have HEZ:Hid (z8i (q3q ds 0 1)=(ds.length:Int)):=by show z8i _=_;rw[he];rfl
     have HT:Hid (q0b ds=if k5b ds=true then 0 else 2):=by
      show q0b ds=_;rw[z0z (by omega) HALL.o];simp only[he,true_and]
     have hnn:((ds.length:Int) != (ds.length:Int))=false:=by simp
     clear he hz;go_wp2_with fail;refine HEO.o.mono ?_;rintro e w2⟨rfl,b2⟩;rw[HEZ.o];have HB2:Hid (Below w w w2):=q0d HBR.o Zl b2;clear b2;go_wp2
     go_loopw [8] (fun i wx=>wx=w2/\∃k:Nat,k<=ds.length/\i=(k:Int)/\∀j(h:j<ds.length),j<k->decide (7<=ds[j].op)=decide (j=0)) (fun i _=>ds.length-(intOf i).toNat)
     case atStart=>exact⟨rfl,0,Nat.zero_le _,rfl,fun j _ h=>by omega⟩
     case round=>
      obtain⟨rfl,k,hk,rfl,hall⟩:=hrel;have HA2:Hid (∀j(h:j<ds.length),j<k->decide (7<=ds[j].op)=decide (j=0)):=hall;clear hall;by_cases hlt:k<ds.length
      ·obtain⟨b,o,ea,hb,c1,_,_⟩:=(HN.o.below HB2.o) k hlt;have hkl:(k:Int)<(ds.length:Int):=by omega
       subst ea
       have HYES:Hid (decide (7<=ds[k].op)=decide (k=0)->∀j(h:j<ds.length),j<k+1->decide (7<=ds[j].op)=decide (j=0)):=fun hsame j h hj=>by
        by_cases hjk:j=k
        ·subst hjk;exact hsame
        ·exact HA2.o j h (by omega)
       have HNO:Hid (¬decide (7<=ds[k].op)=decide (k=0)->q0b ds=2):=fun hsame=>by
        rw[HT.o,if_neg];intro h;exact hsame (k7s.1 h k hlt)
       generalize ds[k].op=op at c1 HYES HNO;by_cases h7:7<=op
       ·by_cases hk0:k=0
        ·have HE:=(show Hid (_)from HYES.o (by simp[h7,hk0]));have hkb:((k:Int)==0)=true:=beq_iff_eq.2 (by omega);clear hk0 HYES HNO;go_wp2
         go_roundw
         case rel=>exact⟨by trivial,k+1,by omega,by go_num,HE.o⟩
         case measure=>simp[intOf];omega
        ·have HE:=(show Hid (_)from HNO.o (by simp[h7,hk0]));have hkb:((k:Int)==0)=false:=beq_false_of_ne (by omega);clear hk0 HYES HNO;go_wp2;go_ret;exact⟨by rw[HE.o];rfl,HB2.o⟩
       ·by_cases hk0:k=0
        ·have HE:=(show Hid (_)from HNO.o (by simp[h7,hk0]));have hkb:((k:Int)==0)=true:=beq_iff_eq.2 (by omega);clear hk0 HYES HNO;go_wp2;go_ret;exact⟨by rw[HE.o];rfl,HB2.o⟩
        ·have HE:=(show Hid (_)from HYES.o (by simp[h7,hk0]));have hkb:((k:Int)==0)=false:=beq_false_of_ne (by omega);clear hk0 HYES HNO;go_wp2
         go_roundw
         case rel=>exact⟨by trivial,k+1,by omega,by go_num,HE.o⟩
         case measure=>simp[intOf];omega
      ·have HE:Hid (q0b ds=0):=by
        show q0b ds=0;rw[HT.o,if_pos (k7s.2 fun j h=>HA2.o j h (by omega))]
       have hkl:¬(k:Int)<(ds.length:Int):=by omega
       go_wp2;go_ret;exact⟨by rw[HE.o];rfl,HB2.o⟩
    ·have HE:Hid (q0b ds=2):=by
      show q0b ds=2;rw[z0z (by omega) HALL.o,if_neg (fun h=>he h.1)]
     have hne:(z8i (q3q ds 0 1) != (ds.length:Int))=true:=by
      cases h:q3q ds 0 1 with
      | none=>
       simp only[z8i,bne_iff_ne,ne_eq];omega
      | some j=>
       rw[h]at he;have hj:j≠ds.length:=fun e=>he (by rw[e])
       simp only[z8i,bne_iff_ne,ne_eq];omega
     generalize z8i (q3q ds 0 1)=z at HEO hne;clear he hz;go_wp2_with fail;refine HEO.o.mono ?_;rintro e w2⟨rfl,b2⟩;have B2:=q0d HBR.o Zl b2;go_wp2;go_ret;exact⟨by rw[HE.o];rfl,B2⟩
theorem k2g(ps:List (List Td))(a:Option Addr)(cap:Nat)(w:World)(hP:Prg w a ps)(hsz:∀t∈ps,∀x∈t,x.tx.size<=1000000000000):Calls prog 37 #[.slice a ps.length cap] w fun e w'=>e=.returned (.tuple #[((q1i ps).1:Int),(q1i ps).2])/\Below w w w':=by
 have HP:=hid hP;have HSZ:=hid hsz;clear hP hsz;by_cases h20:20<(ps.length:Int)
 ·have HE:Hid (q1i ps=(0,3)):=by show q1i ps=_;rw[q1i,if_pos (by omega)]
  go_in;go_wp2;go_ret2;exact⟨by rw[HE.o];rfl,Below.refl _ _⟩
 have HF:Hid (q1i ps=q8a 0 0 ps):=by show q1i ps=_;rw[q1i,if_neg (by omega)]
 go_in;go_wp2
 go_loopw [4] (fun i wr=>Below w w wr/\∃k:Nat,k<=ps.length/\i=.int .i64 k/\q1i ps=q8a (q6x ps k) k (ps.drop k)/\∀j(h:j<ps.length),j<k->q0b ps[j]=0) (fun i _=>ps.length-(intOf i).toNat)
 case atStart=>exact⟨Below.refl _ _,0,Nat.zero_le _,rfl,HF.o,fun j _ h=>by omega⟩
 case round=>
  obtain⟨hbr,k,hk,rfl,hF,hall⟩:=hrel;have HBR:=hid hbr;have HG:=hid hF;have HA:=hid hall;clear hbr hF hall;by_cases hlt:k<ps.length
  ·obtain⟨b,o,a',c',ea,hb,c1,c2,hT⟩:=(HP.o.below HBR.o) k hlt;subst ea;have hki:(k:Int)<(ps.length:Int):=by omega
   have HTF0:=q5u ps[k] a' c' wr hT (HSZ.o _ (List.getElem_mem hlt))
   have HA3:Hid (q0b ps[k]=0->∀j(h:j<ps.length),j<k+1->q0b ps[j]=0):=fun h0 j h hj=>by
    by_cases hjk:j=k
    ·subst hjk;exact h0
    ·exact HA.o j h (by omega)
   have HOP:Hid (q0b ps[k]=0->0<ps[k].length/\∃b1 o1,a'=some ⟨b1,o1,none⟩/\b1<wr.heap.size/\wr.cell? ⟨b1,o1,none⟩=some (.int .i64 (opT ps[k]))):=fun h0=>by
    have hpos:=z1a h0;obtain⟨b1,o1,e1,hb1,d1,_,_⟩:=hT 0 hpos;exact⟨hpos,b1,o1,e1,hb1,by rw[z4n hpos];simpa using d1⟩
   have HBAD:Hid (q0b ps[k]≠0->q1i ps=(k,q0b ps[k])):=fun h=>HG.o.trans (k2e hlt h)
   have HTWO:Hid (q0b ps[k]=0->opT ps[k]=9/\q6x ps k=9->q1i ps=(k,2)):=fun h h2=>HG.o.trans (k2f hlt h h2)
   have HNXT:Hid (q0b ps[k]=0->¬(opT ps[k]=9/\q6x ps k=9)->q1i ps=q8a (q6x ps (k+1)) (k+1) (ps.drop (k+1))):=fun h h2=>HG.o.trans (z7a hlt h h2)
   have HPREV:Hid (∀j,k=j+1->∃a1 n1 c1',wr.cell? ⟨b,o+j,none⟩=some (.slice a1 n1 c1')/\0<n1/\∃b2 o2,a1=some ⟨b2,o2,none⟩/\b2<wr.heap.size/\wr.cell? ⟨b2,o2,none⟩=some (.int .i64 (q6x ps k))):=fun j hj=>by
    have hjl:j<ps.length:=by omega
    obtain⟨bj,oj,aj,cj,ej,_,q1,_,qT⟩:=(HP.o.below HBR.o) j hjl;simp only[Option.some.injEq,Addr.mk.injEq,and_true]at ej;obtain⟨rfl,rfl⟩:=ej;have hpos:=z1a (HA.o j hjl (by omega));obtain⟨b2,o2,e2,hb2,d2,_,_⟩:=qT 0 hpos;refine⟨aj,ps[j].length,cj,q1,hpos,b2,o2,e2,hb2,?_⟩;rw[hj,z2e hjl,z4n hpos];simpa using d2
   have HTF:=hid HTF0;clear hT HTF0 c2;generalize ps[k].length=nl at c1 HTF HOP;generalize opT ps[k]=op0 at HOP HTWO HNXT;generalize q0b ps[k]=E at HTF HA3 HOP HBAD HTWO HNXT;by_cases he:E=0
   ·subst he;obtain⟨hnl,b1,o1,rfl,hb1,d1⟩:=HOP.o rfl;have HA4:=(show Hid (_)from HA3.o rfl);have HT2:=hid (HTWO.o rfl);have HN2:=hid (HNXT.o rfl);clear HTWO HNXT;have hnli:(0:Int)<(nl:Int):=by omega
    have HC1:=(show Hid (_)from c1);have HD1:=(show Hid (_)from d1);clear HOP HBAD HA3 c1 d1;by_cases hk0:k=0
    ·have HN:=hid (HN2.o (by simp[q6x,hk0]));have hkb:¬(0:Int)<(k:Int):=by omega
     have c1:=HC1.o;clear HT2 HN2 hk0;go_wp2_with fail;refine HTF.o.mono ?_;rintro e w2⟨rfl,b2⟩;have HB2:=hid (q0d HBR.o Zl b2);clear b2 c1;go_wp2
     go_roundw
     case rel=>exact⟨HB2.o,k+1,by omega,by go_num,HN.o,HA4.o⟩
     case measure=>simp[intOf];omega
    ·obtain⟨j,rfl⟩:∃j,k=j+1:=⟨k-1,by omega⟩;obtain⟨a1,n1,c1',q1,hn1,b2,o2,rfl,hb2,d2⟩:=HPREV.o j rfl;have hcast:((j+1:Nat):Int)=(j:Int)+1:=by omega
     have hkb:(0:Int)<(j:Int)+1:=by omega
     have hji:(j:Int)<(ps.length:Int):=by omega
     have hkj:(j:Int)+1<(ps.length:Int):=by omega
     have hn1i:(0:Int)<(n1:Int):=by omega
     have HCK:Hid (∀W:World,Below wr wr W->W.cell? (b,o+(j+1))=some (.slice (some ↑(b1,o1)) nl c')/\W.cell? (b1,o1)=some ↑op0/\W.cell? (b,o+j)=some (.slice (some ↑(b2,o2)) n1 c1')/\W.cell? (b2,o2)=some ↑(q6x ps (j+1))):=fun W hW=>
      ⟨((q1v hW).1 _ _ hb).trans HC1.o,((q1v hW).1 _ _ hb1).trans HD1.o,((q1v hW).1 _ _ hb).trans q1,((q1v hW).1 _ _ hb2).trans d2⟩
     have c1:=HC1.o;generalize q6x ps (j+1)=pv at HT2 HN2 HCK;rw[hcast]at hki⊢;clear q1 d2 HPREV hcast hk0;go_wp2_with fail;refine HTF.o.mono ?_;rintro e w2⟨rfl,b2'⟩;have HB2:=hid (q0d HBR.o Zl b2');obtain⟨k1,k2,k3,k4⟩:=HCK.o w2 b2';clear b2' c1;by_cases h9:op0=9
     ·subst h9;by_cases h9':pv=9
      ·subst h9';have HE:=hid (HT2.o ⟨rfl,rfl⟩);clear HT2 HN2;go_wp2;go_ret2;exact⟨by rw[HE.o];rfl,HB2.o⟩
      ·have HN:=hid (HN2.o (fun h=>h9' h.2));have hpb:(pv==9)=false:=by simp[h9']
       clear HT2 HN2 h9';go_wp2
       go_roundw
       case rel=>exact⟨HB2.o,j+1+1,by omega,by go_num,HN.o,HA4.o⟩
       case measure=>simp[intOf];omega
     ·have HN:=hid (HN2.o (fun h=>h9 h.1));have hob:(op0==9)=false:=by simp[h9]
      clear HT2 HN2 h9;go_wp2
      go_roundw
      case rel=>exact⟨HB2.o,j+1+1,by omega,by go_num,HN.o,HA4.o⟩
      case measure=>simp[intOf];omega
   ·have HE:=hid (HBAD.o he);have heb:(E==0)=false:=by simp[he]
    have hnb:(E != 0)=true:=by simp[he]
    clear HOP HBAD HA3 HTWO HNXT he;go_wp2_with fail;refine HTF.o.mono ?_;rintro e w2⟨rfl,b2⟩;have HB2:=hid (q0d HBR.o Zl b2);clear b2 c1;go_wp2;go_ret2;exact⟨by rw[HE.o];rfl,HB2.o⟩
  ·have HE:Hid (q1i ps=(0,0)):=by
    show q1i ps=_;rw[HG.o,List.drop_eq_nil_of_le (by omega)];rfl
   have hki:¬(k:Int)<(ps.length:Int):=by omega
   go_wp2;go_ret2;exact⟨by rw[HE.o];rfl,HBR.o⟩
end Go.Proofs.YthjapabokcajhaaGreatDoor
