import Derived.Test.YthcpdohdppkmkaaGreatDoorPl25
open Go.Proofs.Tryz
namespace Go.Proofs.YthcpdohdppkmkaaGreatDoor
open Go Go.RowKit
set_option maxRecDepth 100000
set_option maxHeartbeats 16000000
theorem z5n(ds:List Td)(a:Option Addr)(cap:Nat)(w:World)(hN:Tds w a ds)(t:∀x∈ds,x.tx.size<=1000000000000):Calls prog 77 #[.slice a ds.length cap] w fun e w'=>e=.returned (.int .i64 (q0c ds))/\Below w w w':=by
 have HN:Hid (Tds w a ds):=hN;have Ab:Hid (∀x∈ds,x.tx.size<=1000000000000):=t;clear hN t;by_cases Aj:40<(ds.length:Int)
 ·have A:Hid (q0c ds=3):=z6z (by omega);go_in;go_wp2;go_ret;exact⟨by rw[A.o];rfl,Below.refl _ _⟩
 go_in;go_wp2
 go_loopw [3] (fun i wr=>Below w w wr/\∃k:Nat,k<=ds.length/\i=.int .i64 k/\∀x∈ds.take k,q0q x=0) (fun i _=>ds.length-(intOf i).toNat)
 case atStart=>exact⟨Below.refl _ _,0,Nat.zero_le _,rfl,fun x hx=>by simp at hx⟩
 case round=>
  obtain⟨l,k,hk,rfl,J⟩:=hrel;have y:Hid (∀x∈ds.take k,q0q x=0):=J;have Q:Hid (Below w w wr):=l;have Ah:=l.size;clear J l;by_cases L:k<ds.length
  ·obtain⟨b,o,ea,hb,u,c2,c3⟩:=(HN.o.W Q.o) k L;have Ad:(k:Int)<(ds.length:Int):=by omega
   have C:Hid (q0q ds[k]≠0->q0c ds=q0q ds[k]):=fun h=>z7a (by omega) L y.o h
   have E:Hid (q0q ds[k]=0->∀x∈ds.take (k+1),q0q x=0):=fun h=>z6y L y.o h
   have d:ds[k].tx.size<=1000000000000:=Ab.o _ (List.getElem_mem L);have B:Hid (∀O:Obj,Below w w (wr.alloc O)):=fun O=>Q.o.alloc Ah O
   subst ea;generalize ds[k]=x at u c2 c3 C E d;obtain⟨R,tx,n⟩:=x;simp only at u c2 c3 d;by_cases G:R<1
   ·skip
    have A:Hid (q0c ds=1):=by
     show q0c ds=1;have e:=v8n (tx:=tx) (n:=n) G;rw[C.o (by rw[e];decide),e]
    clear C E;go_wp2;go_ret;exact⟨by rw[A.o];rfl,B.o _⟩
   by_cases D:9<R
   ·skip
    have A:Hid (q0c ds=1):=by
     show q0c ds=1;have e:=v8o (tx:=tx) (n:=n) G D;rw[C.o (by rw[e];decide),e]
    clear C E;go_wp2;go_ret;exact⟨by rw[A.o];rfl,B.o _⟩
   have Ag:R=1\/R=2\/R=3\/R=4\/R=5\/R=6\/R=7\/R=8\/R=9:=by omega
   clear G D;rcases Ag with rfl|rfl|rfl|rfl|rfl|rfl|rfl|rfl|rfl
   ·skip
    by_cases G:n<0
    ·skip
     have A:Hid (q0c ds=1):=by
      show q0c ds=1;have e:=v8p (tx:=tx) (n:=n) G;rw[C.o (by rw[e];decide),e]
     clear C E;go_wp2;go_ret;exact⟨by rw[A.o];rfl,B.o _⟩
    ·skip
     by_cases D:999999<n
     ·skip
      have A:Hid (q0c ds=1):=by
       show q0c ds=1;have e:=v8q (tx:=tx) (n:=n) G D;rw[C.o (by rw[e];decide),e]
      clear C E;go_wp2;go_ret;exact⟨by rw[A.o];rfl,B.o _⟩
     ·skip
      by_cases S:0<(tx.size:Int)
      ·skip
       have A:Hid (q0c ds=2):=by
        show q0c ds=2;have e:=v8r (tx:=tx) (n:=n) G D S;rw[C.o (by rw[e];decide),e]
       clear C E;go_wp2;go_ret;exact⟨by rw[A.o];rfl,B.o _⟩
      ·skip
       have A:=hid (E.o (v8s (tx:=tx) (n:=n) G D S));clear C E;go_wp2
       go_roundw
       case rel=>exact⟨B.o _,k+1,by omega,by go_num,A.o⟩
       case measure=>simp[intOf];omega
   ·skip
    by_cases G:n=0
    ·skip
     cases D:q0p tx with
     | true=>
      have A:=hid (E.o (v8u (tx:=tx) (n:=n) G D));have P:Hid (q0p tx=true):=D;clear C E D;go_wp2_with(go_at_call 36;refine(q1g _ _).mono ?_;rintro e M⟨rfl,rfl⟩;rw[P.o])
      go_roundw
      case rel=>exact⟨B.o _,k+1,by omega,by go_num,A.o⟩
      case measure=>simp[intOf];omega
     | false=>
      have A:Hid (q0c ds=5):=by
       show q0c ds=5;have e:=v8v (tx:=tx) (n:=n) G D;rw[C.o (by rw[e];decide),e]
      have P:Hid (q0p tx=false):=D;clear C E D;go_wp2_with(go_at_call 36;refine(q1g _ _).mono ?_;rintro e M⟨rfl,rfl⟩;rw[P.o]);go_ret;exact⟨by rw[A.o];rfl,B.o _⟩
    ·skip
     have A:Hid (q0c ds=2):=by
      show q0c ds=2;have e:=v8t (tx:=tx) (n:=n) G;rw[C.o (by rw[e];decide),e]
     clear C E;go_wp2;go_ret;exact⟨by rw[A.o];rfl,B.o _⟩
   ·skip
    by_cases G:n<0
    ·skip
     have A:Hid (q0c ds=1):=by
      show q0c ds=1;have e:=v8w (tx:=tx) (n:=n) G;rw[C.o (by rw[e];decide),e]
     clear C E;go_wp2;go_ret;exact⟨by rw[A.o];rfl,B.o _⟩
    ·skip
     by_cases D:6<n
     ·skip
      have A:Hid (q0c ds=1):=by
       show q0c ds=1;have e:=j7a (tx:=tx) (n:=n) G D;rw[C.o (by rw[e];decide),e]
      clear C E;go_wp2;go_ret;exact⟨by rw[A.o];rfl,B.o _⟩
     ·skip
      cases S:q0p tx with
      | true=>
       have A:=hid (E.o (j7b (tx:=tx) (n:=n) G D S));have P:Hid (q0p tx=true):=S;clear C E S;go_wp2_with(go_at_call 36;refine(q1g _ _).mono ?_;rintro e M⟨rfl,rfl⟩;rw[P.o])
       go_roundw
       case rel=>exact⟨B.o _,k+1,by omega,by go_num,A.o⟩
       case measure=>simp[intOf];omega
      | false=>
       have A:Hid (q0c ds=5):=by
        show q0c ds=5;have e:=j7c (tx:=tx) (n:=n) G D S;rw[C.o (by rw[e];decide),e]
       have P:Hid (q0p tx=false):=S;clear C E S;go_wp2_with(go_at_call 36;refine(q1g _ _).mono ?_;rintro e M⟨rfl,rfl⟩;rw[P.o]);go_ret;exact⟨by rw[A.o];rfl,B.o _⟩
   ·skip
    by_cases G:n<0
    ·skip
     have A:Hid (q0c ds=1):=by
      show q0c ds=1;have e:=j7d (tx:=tx) (n:=n) G;rw[C.o (by rw[e];decide),e]
     clear C E;go_wp2;go_ret;exact⟨by rw[A.o];rfl,B.o _⟩
    ·skip
     by_cases D:6<n
     ·skip
      have A:Hid (q0c ds=1):=by
       show q0c ds=1;have e:=j7e (tx:=tx) (n:=n) G D;rw[C.o (by rw[e];decide),e]
      clear C E;go_wp2;go_ret;exact⟨by rw[A.o];rfl,B.o _⟩
     ·skip
      by_cases S:0<(tx.size:Int)
      ·skip
       have A:Hid (q0c ds=2):=by
        show q0c ds=2;have e:=j7f (tx:=tx) (n:=n) G D S;rw[C.o (by rw[e];decide),e]
       clear C E;go_wp2;go_ret;exact⟨by rw[A.o];rfl,B.o _⟩
      ·skip
       have A:=hid (E.o (j7g (tx:=tx) (n:=n) G D S));clear C E;go_wp2
       go_roundw
       case rel=>exact⟨B.o _,k+1,by omega,by go_num,A.o⟩
       case measure=>simp[intOf];omega
   ·skip
    by_cases G:n=0
    ·skip
     by_cases D:0<(tx.size:Int)
     ·skip
      have A:Hid (q0c ds=2):=by
       show q0c ds=2;have e:=j7i (tx:=tx) (n:=n) G D;rw[C.o (by rw[e];decide),e]
      clear C E;go_wp2;go_ret;exact⟨by rw[A.o];rfl,B.o _⟩
     ·skip
      have A:=hid (E.o (j7j (tx:=tx) (n:=n) G D));clear C E;go_wp2
      go_roundw
      case rel=>exact⟨B.o _,k+1,by omega,by go_num,A.o⟩
      case measure=>simp[intOf];omega
    ·skip
     have A:Hid (q0c ds=2):=by
      show q0c ds=2;have e:=j7h (tx:=tx) (n:=n) G;rw[C.o (by rw[e];decide),e]
     clear C E;go_wp2;go_ret;exact⟨by rw[A.o];rfl,B.o _⟩
   ·skip
    by_cases G:n=0
    ·skip
     by_cases D:0<(tx.size:Int)
     ·skip
      have A:Hid (q0c ds=2):=by
       show q0c ds=2;have e:=j7l (tx:=tx) (n:=n) G D;rw[C.o (by rw[e];decide),e]
      clear C E;go_wp2;go_ret;exact⟨by rw[A.o];rfl,B.o _⟩
     ·skip
      have A:=hid (E.o (j7m (tx:=tx) (n:=n) G D));clear C E;go_wp2
      go_roundw
      case rel=>exact⟨B.o _,k+1,by omega,by go_num,A.o⟩
      case measure=>simp[intOf];omega
    ·skip
     have A:Hid (q0c ds=2):=by
      show q0c ds=2;have e:=j7k (tx:=tx) (n:=n) G;rw[C.o (by rw[e];decide),e]
     clear C E;go_wp2;go_ret;exact⟨by rw[A.o];rfl,B.o _⟩
   ·skip
    by_cases G:n=0
    ·skip
     cases D:q0p tx with
     | true=>
      have A:=hid (E.o (j7o (tx:=tx) (n:=n) G D));have P:Hid (q0p tx=true):=D;clear C E D;go_wp2_with(go_at_call 36;refine(q1g _ _).mono ?_;rintro e M⟨rfl,rfl⟩;rw[P.o])
      go_roundw
      case rel=>exact⟨B.o _,k+1,by omega,by go_num,A.o⟩
      case measure=>simp[intOf];omega
     | false=>
      have A:Hid (q0c ds=5):=by
       show q0c ds=5;have e:=j7p (tx:=tx) (n:=n) G D;rw[C.o (by rw[e];decide),e]
      have P:Hid (q0p tx=false):=D;clear C E D;go_wp2_with(go_at_call 36;refine(q1g _ _).mono ?_;rintro e M⟨rfl,rfl⟩;rw[P.o]);go_ret;exact⟨by rw[A.o];rfl,B.o _⟩
    ·skip
     have A:Hid (q0c ds=2):=by
      show q0c ds=2;have e:=j7n (tx:=tx) (n:=n) G;rw[C.o (by rw[e];decide),e]
     clear C E;go_wp2;go_ret;exact⟨by rw[A.o];rfl,B.o _⟩
   ·skip
    by_cases G:n=0
    ·skip
     by_cases D:0<(tx.size:Int)
     ·skip
      have A:Hid (q0c ds=2):=by
       show q0c ds=2;have e:=j7r (tx:=tx) (n:=n) G D;rw[C.o (by rw[e];decide),e]
      clear C E;go_wp2;go_ret;exact⟨by rw[A.o];rfl,B.o _⟩
     ·skip
      have A:=hid (E.o (j7s (tx:=tx) (n:=n) G D));clear C E;go_wp2
      go_roundw
      case rel=>exact⟨B.o _,k+1,by omega,by go_num,A.o⟩
      case measure=>simp[intOf];omega
    ·skip
     have A:Hid (q0c ds=2):=by
      show q0c ds=2;have e:=j7q (tx:=tx) (n:=n) G;rw[C.o (by rw[e];decide),e]
     clear C E;go_wp2;go_ret;exact⟨by rw[A.o];rfl,B.o _⟩
   ·skip
    by_cases G:n=0
    ·skip
     by_cases D:q2x tx=0
     ·skip
      have A:=hid (E.o (j7u (tx:=tx) (n:=n) G D));have P:Hid (q2x tx=0):=D;clear C E D;have U:Hid (q1c ((q0f (btL tx)).map wbS)=q2x tx):=rfl;generalize q2x tx=nf at *;go_wp2_with fail;refine(q4e tx _ d).mono ?_;rintro e M⟨⟨q,g,rfl,X⟩,Z⟩;have r:Below w w M:=(B.o _).trans (Z.mono (by simp;omega));have V:Hid (Wds M q ((q0f (btL tx)).map wbS)):=q3p X;have Y:(q0f (btL tx)).length=((q0f (btL tx)).map wbS).length:=by rw[List.length_map]
      rw[Y];clear X Y Z
      generalize(q0f (btL tx)).map wbS=ws at V U⊢
      go_wp2_with fail;refine(z6u ws q g _ V.o).mono ?_;rintro e w3⟨rfl,rfl⟩;rw[U.o];rw[P.o];go_wp2
      go_roundw
      case rel=>exact⟨r,k+1,by omega,by go_num,A.o⟩
      case measure=>simp[intOf];omega
     ·skip
      have A:Hid (q0c ds=q2x tx):=by
       show q0c ds=q2x tx;have e:=j7v (tx:=tx) (n:=n) G D;rw[C.o (by rw[e];exact D),e]
      have Al:(q2x tx != 0)=true:=by simp[D]
      clear C E D;have U:Hid (q1c ((q0f (btL tx)).map wbS)=q2x tx):=rfl;generalize q2x tx=nf at *;go_wp2_with fail;refine(q4e tx _ d).mono ?_;rintro e M⟨⟨q,g,rfl,X⟩,Z⟩;have r:Below w w M:=(B.o _).trans (Z.mono (by simp;omega));have V:Hid (Wds M q ((q0f (btL tx)).map wbS)):=q3p X;have Y:(q0f (btL tx)).length=((q0f (btL tx)).map wbS).length:=by rw[List.length_map]
      rw[Y];clear X Y Z
      generalize(q0f (btL tx)).map wbS=ws at V U⊢
      go_wp2_with fail;refine(z6u ws q g _ V.o).mono ?_;rintro e w3⟨rfl,rfl⟩;rw[U.o];go_wp2;go_ret;exact⟨by rw[A.o];rfl,r⟩
    ·skip
     have A:Hid (q0c ds=2):=by
      show q0c ds=2;have e:=j7t (tx:=tx) (n:=n) G;rw[C.o (by rw[e];decide),e]
     clear C E;go_wp2;go_ret;exact⟨by rw[A.o];rfl,B.o _⟩
  ·obtain rfl:k=ds.length:=by omega
   have N:Hid (∀x∈ds,q0q x=0):=by
    have h:=y.o;rw[List.take_length]at h;exact h
   have Ad:¬(ds.length:Int)<(ds.length:Int):=by omega
   by_cases hz:ds.length=0
   ·have A:Hid (q0c ds=2):=by
     show q0c ds=2;rw[z0w (by omega) N.o,q8j ds 0 0 (by omega),if_neg (by simp)]
    have Ai:((ds.length:Int)==0)=true:=beq_iff_eq.2 (by omega);clear hz;go_wp2;go_ret;exact⟨by rw[A.o];rfl,Q.o⟩
   ·have Ai:((ds.length:Int)==0)=false:=beq_false_of_ne (by omega);have f:Hid (Calls prog 122 #[.slice a ds.length cap,.int .i64 0] wr fun e w'=>e=.returned (.int .i64 (z8e (q3q ds 0 1)))/\Below wr wr w'):=z4p ds a cap (by omega) N.o (ds.length+1) 0 wr (HN.o.W Q.o) (by omega) (by omega);by_cases m:q3q ds 0 1=some ds.length
    ·have Aa:Hid (z8e (q3q ds 0 1)=(ds.length:Int)):=by show z8e _=_;rw[m];rfl
     have HT:Hid (q0c ds=if k5i ds=true then 0 else 2):=by
      show q0c ds=_;rw[z0w (by omega) N.o];simp only[m,true_and]
     have Ak:((ds.length:Int) != (ds.length:Int))=false:=by simp
     clear m hz;go_wp2_with fail;refine f.o.mono ?_;rintro e M⟨rfl,Z⟩;rw[Aa.o];have c:Hid (Below w w M):=q0e Q.o Zl Z;clear Z;go_wp2
     go_loopw [8] (fun i wx=>wx=M/\∃k:Nat,k<=ds.length/\i=.int .i64 (k:Int)/\∀j(h:j<ds.length),j<k->decide (7<=ds[j].op)=decide (j=0)) (fun i _=>ds.length-(intOf i).toNat)
     case atStart=>exact⟨rfl,0,Nat.zero_le _,rfl,fun j _ h=>by omega⟩
     case round=>
      obtain⟨rfl,k,hk,rfl,J⟩:=hrel;have s:Hid (∀j(h:j<ds.length),j<k->decide (7<=ds[j].op)=decide (j=0)):=J;clear J;by_cases L:k<ds.length
      ·obtain⟨b,o,ea,hb,u,_,_⟩:=(HN.o.W c.o) k L;have Ae:(k:Int)<(ds.length:Int):=by omega
       subst ea
       have H:Hid (decide (7<=ds[k].op)=decide (k=0)->∀j(h:j<ds.length),j<k+1->decide (7<=ds[j].op)=decide (j=0)):=fun hsame j h hj=>by
        by_cases Ac:j=k
        ·subst Ac;exact hsame
        ·exact s.o j h (by omega)
       have K:Hid (¬decide (7<=ds[k].op)=decide (k=0)->q0c ds=2):=fun hsame=>by
        rw[HT.o,if_neg];intro h;exact hsame (k8e.1 h k L)
       generalize ds[k].op=R at u H K;by_cases v:7<=R
       ·by_cases I:k=0
        ·have A:=hid (H.o (by simp[v,I]));have p:((k:Int)==0)=true:=beq_iff_eq.2 (by omega);clear I H K;go_wp2
         go_roundw
         case rel=>exact⟨by trivial,k+1,by omega,by go_num,A.o⟩
         case measure=>simp[intOf];omega
        ·have A:=hid (K.o (by simp[v,I]));have p:((k:Int)==0)=false:=beq_false_of_ne (by omega);clear I H K;go_wp2;go_ret;exact⟨by rw[A.o];rfl,c.o⟩
       ·by_cases I:k=0
        ·have A:=hid (K.o (by simp[v,I]));have p:((k:Int)==0)=true:=beq_iff_eq.2 (by omega);clear I H K;go_wp2;go_ret;exact⟨by rw[A.o];rfl,c.o⟩
        ·have A:=hid (H.o (by simp[v,I]));have p:((k:Int)==0)=false:=beq_false_of_ne (by omega);clear I H K;go_wp2
         go_roundw
         case rel=>exact⟨by trivial,k+1,by omega,by go_num,A.o⟩
         case measure=>simp[intOf];omega
      ·have A:Hid (q0c ds=0):=by
        show q0c ds=0;rw[HT.o,if_pos (k8e.2 fun j h=>s.o j h (by omega))]
       have Ae:¬(k:Int)<(ds.length:Int):=by omega
       go_wp2;go_ret;exact⟨by rw[A.o];rfl,c.o⟩
    ·have A:Hid (q0c ds=2):=by
      show q0c ds=2;rw[z0w (by omega) N.o,if_neg (fun h=>m h.1)]
     have Af:(z8e (q3q ds 0 1) != (ds.length:Int))=true:=by
      cases h:q3q ds 0 1 with
      | none=>
       simp only[z8e,bne_iff_ne,ne_eq];omega
      | some j=>
       rw[h]at m;have hj:j≠ds.length:=fun e=>m (by rw[e])
       simp only[z8e,bne_iff_ne,ne_eq];omega
     generalize z8e (q3q ds 0 1)=z at f Af;clear m hz;go_wp2_with fail;refine f.o.mono ?_;rintro e M⟨rfl,Z⟩;have r:=q0e Q.o Zl Z;go_wp2;go_ret;exact⟨by rw[A.o];rfl,r⟩
theorem k2h(ps:List (List Td))(a:Option Addr)(cap:Nat)(w:World)(hP:Prg w a ps)(Aa:∀t∈ps,∀x∈t,x.tx.size<=1000000000000):Calls prog 39 #[.slice a ps.length cap] w fun e w'=>e=.returned (.tuple #[.int .i64 ((q0r ps).1:Int),.int .i64 (q0r ps).2])/\Below w w w':=by
 have HP:Hid (Prg w a ps):=hP;have Ac:Hid (∀t∈ps,∀x∈t,x.tx.size<=1000000000000):=Aa;clear hP Aa;by_cases Ah:20<(ps.length:Int)
 ·have c:Hid (q0r ps=(0,3)):=by show q0r ps=_;rw[q0r,if_pos (by omega)]
  go_in;go_wp2;go_ret2;exact⟨by rw[c.o];rfl,Below.refl _ _⟩
 have HF:Hid (q0r ps=q3z 0 0 ps):=by show q0r ps=_;rw[q0r,if_neg (by omega)]
 go_in;go_wp2
 go_loopw [4] (fun i wr=>Below w w wr/\∃k:Nat,k<=ps.length/\i=.int .i64 k/\q0r ps=q3z (q2v ps k) k (ps.drop k)/\∀j(h:j<ps.length),j<k->q0c ps[j]=0) (fun i _=>ps.length-(intOf i).toNat)
 case atStart=>exact⟨Below.refl _ _,0,Nat.zero_le _,rfl,HF.o,fun j _ h=>by omega⟩
 case round=>
  obtain⟨v,k,hk,rfl,hF,X⟩:=hrel;have J:Hid (Below w w wr):=v;have HG:Hid (q0r ps=q3z (q2v ps k) k (ps.drop k)):=hF;have HA:Hid (∀j(h:j<ps.length),j<k->q0c ps[j]=0):=X;clear v hF X;by_cases P:k<ps.length
  ·obtain⟨b,o,a',c',ea,hb,V,c2,hT⟩:=(HP.o.W J.o) k P;subst ea;have z:(k:Int)<(ps.length:Int):=by omega
   have S:Calls prog 77 #[.slice a' ps[k].length c'] wr fun e w'=>e=.returned (.int .i64 (q0c ps[k]))/\Below wr wr w':=z5n ps[k] a' c' wr hT (Ac.o _ (List.getElem_mem P))
   have Q:Hid (q0c ps[k]=0->∀j(h:j<ps.length),j<k+1->q0c ps[j]=0):=fun h0 j h hj=>by
    by_cases Ad:j=k
    ·subst Ad;exact h0
    ·exact HA.o j h (by omega)
   have K:Hid (q0c ps[k]=0->0<ps[k].length/\∃U p,a'=some ⟨U,p,none⟩/\U<wr.heap.size/\wr.cell? ⟨U,p,none⟩=some (.int .i64 (opT ps[k]))):=fun h0=>by
    have A:=z0x h0;obtain⟨U,p,e1,g,d1,_,_⟩:=hT 0 A;exact⟨A,U,p,e1,g,by rw[z4n A];simpa using d1⟩
   have H:Hid (q0c ps[k]≠0->q0r ps=(k,q0c ps[k])):=fun h=>HG.o.trans (k2f P h)
   have D:Hid (q0c ps[k]=0->opT ps[k]=9/\q2v ps k=9->q0r ps=(k,2)):=fun h h2=>HG.o.trans (k2g P h h2)
   have C:Hid (q0c ps[k]=0->¬(opT ps[k]=9/\q2v ps k=9)->q0r ps=q3z (q2v ps (k+1)) (k+1) (ps.drop (k+1))):=fun h h2=>HG.o.trans (z6t P h h2)
   have M:Hid (∀j,k=j+1->∃a1 n1 f,wr.cell? ⟨b,o+j,none⟩=some (.slice a1 n1 f)/\0<n1/\∃I q,a1=some ⟨I,q,none⟩/\I<wr.heap.size/\wr.cell? ⟨I,q,none⟩=some (.int .i64 (q2v ps k))):=fun j hj=>by
    have m:j<ps.length:=by omega
    obtain⟨bj,oj,aj,cj,ej,_,q1,_,qT⟩:=(HP.o.W J.o) j m;simp only[Option.some.injEq,Addr.mk.injEq,and_true]at ej;obtain⟨rfl,rfl⟩:=ej;have A:=z0x (HA.o j m (by omega));obtain⟨I,q,e2,l,d2,_,_⟩:=qT 0 A;refine⟨aj,ps[j].length,cj,q1,A,I,q,e2,l,?_⟩;rw[hj,z2b m,z4n A];simpa using d2
   have N:Hid (Calls prog 77 #[.slice a' ps[k].length c'] wr fun e w'=>e=.returned (.int .i64 (q0c ps[k]))/\Below wr wr w'):=S;clear hT S c2;generalize ps[k].length=nl at V N K;generalize opT ps[k]=op0 at K D C;generalize q0c ps[k]=E at N Q K H D C;by_cases y:E=0
   ·subst y;obtain⟨An,U,p,rfl,g,d1⟩:=K.o rfl;have Y:=hid (Q.o rfl);have L:Hid (op0=9/\q2v ps k=9->q0r ps=(k,2)):=D.o rfl;have B:Hid (¬(op0=9/\q2v ps k=9)->q0r ps=q3z (q2v ps (k+1)) (k+1) (ps.drop (k+1))):=C.o rfl;clear D C;have Ag:(0:Int)<(nl:Int):=by omega
    have Z:=hid V;have Ab:=hid d1;clear K H Q V d1;by_cases n:k=0
    ·have u:Hid (q0r ps=q3z (q2v ps (k+1)) (k+1) (ps.drop (k+1))):=B.o (by simp[q2v,n]);have Ae:¬(0:Int)<(k:Int):=by omega
     have V:=Z.o;clear L B n;go_wp2_with fail;refine N.o.mono ?_;rintro e r⟨rfl,I⟩;have G:Hid (Below w w r):=q0e J.o Zl I;clear I V;go_wp2
     go_roundw
     case rel=>exact⟨G.o,k+1,by omega,by go_num,u.o,Y.o⟩
     case measure=>simp[intOf];omega
    ·obtain⟨j,rfl⟩:∃j,k=j+1:=⟨k-1,by omega⟩;obtain⟨a1,n1,f,q1,Al,I,q,rfl,l,d2⟩:=M.o j rfl;have O:((j+1:Nat):Int)=(j:Int)+1:=by omega
     have Ae:(0:Int)<(j:Int)+1:=by omega
     have Aj:(j:Int)<(ps.length:Int):=by omega
     have Ak:(j:Int)+1<(ps.length:Int):=by omega
     have Af:(0:Int)<(n1:Int):=by omega
     have s:Hid (∀W:World,Below wr wr W->W.cell? ⟨b,o+(j+1),none⟩=some (.slice (some ⟨U,p,none⟩) nl c')/\W.cell? ⟨U,p,none⟩=some (.int .i64 op0)/\W.cell? ⟨b,o+j,none⟩=some (.slice (some ⟨I,q,none⟩) n1 f)/\W.cell? ⟨I,q,none⟩=some (.int .i64 (q2v ps (j+1)))):=fun W hW=>
      ⟨((q1z hW).1 _ _ hb).trans Z.o,((q1z hW).1 _ _ g).trans Ab.o,((q1z hW).1 _ _ hb).trans q1,((q1z hW).1 _ _ l).trans d2⟩
     have V:=Z.o;generalize q2v ps (j+1)=pv at L B s;rw[O]at z⊢;clear q1 d2 M O n;go_wp2_with fail;refine N.o.mono ?_;rintro e r⟨rfl,d⟩;have G:Hid (Below w w r):=q0e J.o Zl d;obtain⟨k1,k2,k3,k4⟩:=s.o r d;clear d V;by_cases h9:op0=9
     ·subst h9;by_cases R:pv=9
      ·subst R;have c:Hid (q0r ps=(j+1,2)):=L.o ⟨rfl,rfl⟩;clear L B;go_wp2;go_ret2;exact⟨by rw[c.o];rfl,G.o⟩
      ·have u:Hid (q0r ps=q3z (q2v ps (j+1+1)) (j+1+1) (ps.drop (j+1+1))):=B.o (fun h=>R h.2);have Ap:(pv==9)=false:=by simp[R]
       clear L B R;go_wp2
       go_roundw
       case rel=>exact⟨G.o,j+1+1,by omega,by go_num,u.o,Y.o⟩
       case measure=>simp[intOf];omega
     ·have u:Hid (q0r ps=q3z (q2v ps (j+1+1)) (j+1+1) (ps.drop (j+1+1))):=B.o (fun h=>h9 h.1);have Ao:(op0==9)=false:=by simp[h9]
      clear L B h9;go_wp2
      go_roundw
      case rel=>exact⟨G.o,j+1+1,by omega,by go_num,u.o,Y.o⟩
      case measure=>simp[intOf];omega
   ·have c:Hid (q0r ps=(k,E)):=H.o y;have Ai:(E==0)=false:=by simp[y]
    have Am:(E != 0)=true:=by simp[y]
    clear K H Q D C y;go_wp2_with fail;refine N.o.mono ?_;rintro e r⟨rfl,I⟩;have G:Hid (Below w w r):=q0e J.o Zl I;clear I V;go_wp2;go_ret2;exact⟨by rw[c.o];rfl,G.o⟩
  ·have c:Hid (q0r ps=(0,0)):=by
    show q0r ps=_;rw[HG.o,List.drop_eq_nil_of_le (by omega)];rfl
   have z:¬(k:Int)<(ps.length:Int):=by omega
   go_wp2;go_ret2;exact⟨by rw[c.o];rfl,J.o⟩
end Go.Proofs.YthcpdohdppkmkaaGreatDoor
