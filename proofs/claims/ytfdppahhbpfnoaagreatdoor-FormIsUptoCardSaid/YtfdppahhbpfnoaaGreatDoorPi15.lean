import Derived.Test.YtfdppahhbpfnoaaGreatDoorPi10
open Go.Proofs.Tryz
namespace Go.Proofs.YtfdppahhbpfnoaaGreatDoor
open Go Go.RowKit
set_option maxRecDepth 100000
set_option maxHeartbeats 16000000
theorem q5x(ds:List Td)(a:Option Addr)(cap:Nat)(w:World)(hN:Tds w a ds)(t:∀x∈ds,x.tx.size<=1000000000000):Calls prog 7 #[.slice a ds.length cap] w fun e w'=>e=.returned (.int .i64 (q0b ds))/\Below w w w':=by
 have HN:Hid (Tds w a ds):=hN;have Ab:Hid (∀x∈ds,x.tx.size<=1000000000000):=t;clear hN t;by_cases Aj:40<(ds.length:Int)
 ·have A:Hid (q0b ds=3):=z7b (by omega);go_in;go_wp2;go_ret;exact⟨by rw[A.o];rfl,Below.refl _ _⟩
 go_in;go_wp2
 go_loopw [3] (fun i wr=>Below w w wr/\∃k:Nat,k<=ds.length/\i=.int .i64 k/\∀x∈ds.take k,q0p x=0) (fun i _=>ds.length-(intOf i).toNat)
 case atStart=>exact⟨Below.refl _ _,0,Nat.zero_le _,rfl,fun x hx=>by simp at hx⟩
 case round=>
  obtain⟨l,k,hk,rfl,J⟩:=hrel;have y:Hid (∀x∈ds.take k,q0p x=0):=J;have Q:Hid (Below w w wr):=l;have Ah:=l.size;clear J l;by_cases L:k<ds.length
  ·obtain⟨b,o,ea,hb,u,c2,c3⟩:=(HN.o.W Q.o) k L;have Ad:(k:Int)<(ds.length:Int):=by omega
   have C:Hid (q0p ds[k]≠0->q0b ds=q0p ds[k]):=fun h=>z7c (by omega) L y.o h
   have E:Hid (q0p ds[k]=0->∀x∈ds.take (k+1),q0p x=0):=fun h=>z7a L y.o h
   have d:ds[k].tx.size<=1000000000000:=Ab.o _ (List.getElem_mem L);have B:Hid (∀O:Obj,Below w w (wr.alloc O)):=fun O=>Q.o.alloc Ah O
   subst ea;generalize ds[k]=x at u c2 c3 C E d;obtain⟨R,tx,n⟩:=x;simp only at u c2 c3 d;by_cases G:R<1
   ·skip
    have A:Hid (q0b ds=1):=by
     show q0b ds=1;have e:=v7m (tx:=tx) (n:=n) G;rw[C.o (by rw[e];decide),e]
    clear C E;go_wp2;go_ret;exact⟨by rw[A.o];rfl,B.o _⟩
   by_cases D:9<R
   ·skip
    have A:Hid (q0b ds=1):=by
     show q0b ds=1;have e:=v7n (tx:=tx) (n:=n) G D;rw[C.o (by rw[e];decide),e]
    clear C E;go_wp2;go_ret;exact⟨by rw[A.o];rfl,B.o _⟩
   have Ag:R=1\/R=2\/R=3\/R=4\/R=5\/R=6\/R=7\/R=8\/R=9:=by omega
   clear G D;rcases Ag with rfl|rfl|rfl|rfl|rfl|rfl|rfl|rfl|rfl
   ·skip
    by_cases G:n<0
    ·skip
     have A:Hid (q0b ds=1):=by
      show q0b ds=1;have e:=v7o (tx:=tx) (n:=n) G;rw[C.o (by rw[e];decide),e]
     clear C E;go_wp2;go_ret;exact⟨by rw[A.o];rfl,B.o _⟩
    ·skip
     by_cases D:999999<n
     ·skip
      have A:Hid (q0b ds=1):=by
       show q0b ds=1;have e:=v7p (tx:=tx) (n:=n) G D;rw[C.o (by rw[e];decide),e]
      clear C E;go_wp2;go_ret;exact⟨by rw[A.o];rfl,B.o _⟩
     ·skip
      by_cases S:0<(tx.size:Int)
      ·skip
       have A:Hid (q0b ds=2):=by
        show q0b ds=2;have e:=v7q (tx:=tx) (n:=n) G D S;rw[C.o (by rw[e];decide),e]
       clear C E;go_wp2;go_ret;exact⟨by rw[A.o];rfl,B.o _⟩
      ·skip
       have A:=hid (E.o (v7r (tx:=tx) (n:=n) G D S));clear C E;go_wp2
       go_roundw
       case rel=>exact⟨B.o _,k+1,by omega,by go_num,A.o⟩
       case measure=>simp[intOf];omega
   ·skip
    by_cases G:n=0
    ·skip
     cases D:q0o tx with
     | true=>
      have A:=hid (E.o (v7t (tx:=tx) (n:=n) G D));have P:Hid (q0o tx=true):=D;clear C E D;go_wp2_with(go_at_call 23;refine(q1e _ _).mono ?_;rintro e M⟨rfl,rfl⟩;rw[P.o])
      go_roundw
      case rel=>exact⟨B.o _,k+1,by omega,by go_num,A.o⟩
      case measure=>simp[intOf];omega
     | false=>
      have A:Hid (q0b ds=5):=by
       show q0b ds=5;have e:=v7u (tx:=tx) (n:=n) G D;rw[C.o (by rw[e];decide),e]
      have P:Hid (q0o tx=false):=D;clear C E D;go_wp2_with(go_at_call 23;refine(q1e _ _).mono ?_;rintro e M⟨rfl,rfl⟩;rw[P.o]);go_ret;exact⟨by rw[A.o];rfl,B.o _⟩
    ·skip
     have A:Hid (q0b ds=2):=by
      show q0b ds=2;have e:=v7s (tx:=tx) (n:=n) G;rw[C.o (by rw[e];decide),e]
     clear C E;go_wp2;go_ret;exact⟨by rw[A.o];rfl,B.o _⟩
   ·skip
    by_cases G:n<0
    ·skip
     have A:Hid (q0b ds=1):=by
      show q0b ds=1;have e:=v7v (tx:=tx) (n:=n) G;rw[C.o (by rw[e];decide),e]
     clear C E;go_wp2;go_ret;exact⟨by rw[A.o];rfl,B.o _⟩
    ·skip
     by_cases D:6<n
     ·skip
      have A:Hid (q0b ds=1):=by
       show q0b ds=1;have e:=j6r (tx:=tx) (n:=n) G D;rw[C.o (by rw[e];decide),e]
      clear C E;go_wp2;go_ret;exact⟨by rw[A.o];rfl,B.o _⟩
     ·skip
      cases S:q0o tx with
      | true=>
       have A:=hid (E.o (j6s (tx:=tx) (n:=n) G D S));have P:Hid (q0o tx=true):=S;clear C E S;go_wp2_with(go_at_call 23;refine(q1e _ _).mono ?_;rintro e M⟨rfl,rfl⟩;rw[P.o])
       go_roundw
       case rel=>exact⟨B.o _,k+1,by omega,by go_num,A.o⟩
       case measure=>simp[intOf];omega
      | false=>
       have A:Hid (q0b ds=5):=by
        show q0b ds=5;have e:=j6t (tx:=tx) (n:=n) G D S;rw[C.o (by rw[e];decide),e]
       have P:Hid (q0o tx=false):=S;clear C E S;go_wp2_with(go_at_call 23;refine(q1e _ _).mono ?_;rintro e M⟨rfl,rfl⟩;rw[P.o]);go_ret;exact⟨by rw[A.o];rfl,B.o _⟩
   ·skip
    by_cases G:n<0
    ·skip
     have A:Hid (q0b ds=1):=by
      show q0b ds=1;have e:=j6u (tx:=tx) (n:=n) G;rw[C.o (by rw[e];decide),e]
     clear C E;go_wp2;go_ret;exact⟨by rw[A.o];rfl,B.o _⟩
    ·skip
     by_cases D:6<n
     ·skip
      have A:Hid (q0b ds=1):=by
       show q0b ds=1;have e:=j6v (tx:=tx) (n:=n) G D;rw[C.o (by rw[e];decide),e]
      clear C E;go_wp2;go_ret;exact⟨by rw[A.o];rfl,B.o _⟩
     ·skip
      by_cases S:0<(tx.size:Int)
      ·skip
       have A:Hid (q0b ds=2):=by
        show q0b ds=2;have e:=j6w (tx:=tx) (n:=n) G D S;rw[C.o (by rw[e];decide),e]
       clear C E;go_wp2;go_ret;exact⟨by rw[A.o];rfl,B.o _⟩
      ·skip
       have A:=hid (E.o (j6x (tx:=tx) (n:=n) G D S));clear C E;go_wp2
       go_roundw
       case rel=>exact⟨B.o _,k+1,by omega,by go_num,A.o⟩
       case measure=>simp[intOf];omega
   ·skip
    by_cases G:n=0
    ·skip
     by_cases D:0<(tx.size:Int)
     ·skip
      have A:Hid (q0b ds=2):=by
       show q0b ds=2;have e:=j6z (tx:=tx) (n:=n) G D;rw[C.o (by rw[e];decide),e]
      clear C E;go_wp2;go_ret;exact⟨by rw[A.o];rfl,B.o _⟩
     ·skip
      have A:=hid (E.o (j7a (tx:=tx) (n:=n) G D));clear C E;go_wp2
      go_roundw
      case rel=>exact⟨B.o _,k+1,by omega,by go_num,A.o⟩
      case measure=>simp[intOf];omega
    ·skip
     have A:Hid (q0b ds=2):=by
      show q0b ds=2;have e:=j6y (tx:=tx) (n:=n) G;rw[C.o (by rw[e];decide),e]
     clear C E;go_wp2;go_ret;exact⟨by rw[A.o];rfl,B.o _⟩
   ·skip
    by_cases G:n=0
    ·skip
     by_cases D:0<(tx.size:Int)
     ·skip
      have A:Hid (q0b ds=2):=by
       show q0b ds=2;have e:=j7c (tx:=tx) (n:=n) G D;rw[C.o (by rw[e];decide),e]
      clear C E;go_wp2;go_ret;exact⟨by rw[A.o];rfl,B.o _⟩
     ·skip
      have A:=hid (E.o (j7d (tx:=tx) (n:=n) G D));clear C E;go_wp2
      go_roundw
      case rel=>exact⟨B.o _,k+1,by omega,by go_num,A.o⟩
      case measure=>simp[intOf];omega
    ·skip
     have A:Hid (q0b ds=2):=by
      show q0b ds=2;have e:=j7b (tx:=tx) (n:=n) G;rw[C.o (by rw[e];decide),e]
     clear C E;go_wp2;go_ret;exact⟨by rw[A.o];rfl,B.o _⟩
   ·skip
    by_cases G:n=0
    ·skip
     cases D:q0o tx with
     | true=>
      have A:=hid (E.o (j7f (tx:=tx) (n:=n) G D));have P:Hid (q0o tx=true):=D;clear C E D;go_wp2_with(go_at_call 23;refine(q1e _ _).mono ?_;rintro e M⟨rfl,rfl⟩;rw[P.o])
      go_roundw
      case rel=>exact⟨B.o _,k+1,by omega,by go_num,A.o⟩
      case measure=>simp[intOf];omega
     | false=>
      have A:Hid (q0b ds=5):=by
       show q0b ds=5;have e:=j7g (tx:=tx) (n:=n) G D;rw[C.o (by rw[e];decide),e]
      have P:Hid (q0o tx=false):=D;clear C E D;go_wp2_with(go_at_call 23;refine(q1e _ _).mono ?_;rintro e M⟨rfl,rfl⟩;rw[P.o]);go_ret;exact⟨by rw[A.o];rfl,B.o _⟩
    ·skip
     have A:Hid (q0b ds=2):=by
      show q0b ds=2;have e:=j7e (tx:=tx) (n:=n) G;rw[C.o (by rw[e];decide),e]
     clear C E;go_wp2;go_ret;exact⟨by rw[A.o];rfl,B.o _⟩
   ·skip
    by_cases G:n=0
    ·skip
     by_cases D:0<(tx.size:Int)
     ·skip
      have A:Hid (q0b ds=2):=by
       show q0b ds=2;have e:=j7i (tx:=tx) (n:=n) G D;rw[C.o (by rw[e];decide),e]
      clear C E;go_wp2;go_ret;exact⟨by rw[A.o];rfl,B.o _⟩
     ·skip
      have A:=hid (E.o (j7j (tx:=tx) (n:=n) G D));clear C E;go_wp2
      go_roundw
      case rel=>exact⟨B.o _,k+1,by omega,by go_num,A.o⟩
      case measure=>simp[intOf];omega
    ·skip
     have A:Hid (q0b ds=2):=by
      show q0b ds=2;have e:=j7h (tx:=tx) (n:=n) G;rw[C.o (by rw[e];decide),e]
     clear C E;go_wp2;go_ret;exact⟨by rw[A.o];rfl,B.o _⟩
   ·skip
    by_cases G:n=0
    ·skip
     by_cases D:q2x tx=0
     ·skip
      have A:=hid (E.o (j7l (tx:=tx) (n:=n) G D));have P:Hid (q2x tx=0):=D;clear C E D;have U:Hid (q1b ((q0e (btL tx)).map wbS)=q2x tx):=rfl;generalize q2x tx=nf at *;go_wp2_with fail;refine(q4d tx _ d).mono ?_;rintro e M⟨⟨q,g,rfl,X⟩,Z⟩;have r:Below w w M:=(B.o _).trans (Z.mono (by simp;omega));have V:Hid (Wds M q ((q0e (btL tx)).map wbS)):=q4i X;have Y:(q0e (btL tx)).length=((q0e (btL tx)).map wbS).length:=by rw[List.length_map]
      rw[Y];clear X Y Z
      generalize(q0e (btL tx)).map wbS=ws at V U⊢
      go_wp2_with fail;refine(z6x ws q g _ V.o).mono ?_;rintro e w3⟨rfl,rfl⟩;rw[U.o];rw[P.o];go_wp2
      go_roundw
      case rel=>exact⟨r,k+1,by omega,by go_num,A.o⟩
      case measure=>simp[intOf];omega
     ·skip
      have A:Hid (q0b ds=q2x tx):=by
       show q0b ds=q2x tx;have e:=j7m (tx:=tx) (n:=n) G D;rw[C.o (by rw[e];exact D),e]
      have Al:(q2x tx != 0)=true:=by simp[D]
      clear C E D;have U:Hid (q1b ((q0e (btL tx)).map wbS)=q2x tx):=rfl;generalize q2x tx=nf at *;go_wp2_with fail;refine(q4d tx _ d).mono ?_;rintro e M⟨⟨q,g,rfl,X⟩,Z⟩;have r:Below w w M:=(B.o _).trans (Z.mono (by simp;omega));have V:Hid (Wds M q ((q0e (btL tx)).map wbS)):=q4i X;have Y:(q0e (btL tx)).length=((q0e (btL tx)).map wbS).length:=by rw[List.length_map]
      rw[Y];clear X Y Z
      generalize(q0e (btL tx)).map wbS=ws at V U⊢
      go_wp2_with fail;refine(z6x ws q g _ V.o).mono ?_;rintro e w3⟨rfl,rfl⟩;rw[U.o];go_wp2;go_ret;exact⟨by rw[A.o];rfl,r⟩
    ·skip
     have A:Hid (q0b ds=2):=by
      show q0b ds=2;have e:=j7k (tx:=tx) (n:=n) G;rw[C.o (by rw[e];decide),e]
     clear C E;go_wp2;go_ret;exact⟨by rw[A.o];rfl,B.o _⟩
  ·obtain rfl:k=ds.length:=by omega
   have N:Hid (∀x∈ds,q0p x=0):=by
    have h:=y.o;rw[List.take_length]at h;exact h
   have Ad:¬(ds.length:Int)<(ds.length:Int):=by omega
   by_cases hz:ds.length=0
   ·have A:Hid (q0b ds=2):=by
     show q0b ds=2;rw[z0y (by omega) N.o,q8o ds 0 0 (by omega),if_neg (by simp)]
    have Ai:((ds.length:Int)==0)=true:=beq_iff_eq.2 (by omega);clear hz;go_wp2;go_ret;exact⟨by rw[A.o];rfl,Q.o⟩
   ·have Ai:((ds.length:Int)==0)=false:=beq_false_of_ne (by omega);have f:Hid (Calls prog 24 #[.slice a ds.length cap,.int .i64 0] wr fun e w'=>e=.returned (.int .i64 (z8f (q3p ds 0 1)))/\Below wr wr w'):=z4r ds a cap (by omega) N.o (ds.length+1) 0 wr (HN.o.W Q.o) (by omega) (by omega);by_cases m:q3p ds 0 1=some ds.length
    ·have Aa:Hid (z8f (q3p ds 0 1)=(ds.length:Int)):=by show z8f _=_;rw[m];rfl
     have HT:Hid (q0b ds=if k5h ds=true then 0 else 2):=by
      show q0b ds=_;rw[z0y (by omega) N.o];simp only[m,true_and]
     have Ak:((ds.length:Int) != (ds.length:Int))=false:=by simp
     clear m hz;go_wp2_with fail;refine f.o.mono ?_;rintro e M⟨rfl,Z⟩;rw[Aa.o];have c:Hid (Below w w M):=q0d Q.o Zl Z;clear Z;go_wp2
     go_loopw [8] (fun i wx=>wx=M/\∃k:Nat,k<=ds.length/\i=.int .i64 (k:Int)/\∀j(h:j<ds.length),j<k->decide (7<=ds[j].op)=decide (j=0)) (fun i _=>ds.length-(intOf i).toNat)
     case atStart=>exact⟨rfl,0,Nat.zero_le _,rfl,fun j _ h=>by omega⟩
     case round=>
      obtain⟨rfl,k,hk,rfl,J⟩:=hrel;have s:Hid (∀j(h:j<ds.length),j<k->decide (7<=ds[j].op)=decide (j=0)):=J;clear J;by_cases L:k<ds.length
      ·obtain⟨b,o,ea,hb,u,_,_⟩:=(HN.o.W c.o) k L;have Ae:(k:Int)<(ds.length:Int):=by omega
       subst ea
       have H:Hid (decide (7<=ds[k].op)=decide (k=0)->∀j(h:j<ds.length),j<k+1->decide (7<=ds[j].op)=decide (j=0)):=fun hsame j h hj=>by
        by_cases Ac:j=k
        ·subst Ac;exact hsame
        ·exact s.o j h (by omega)
       have K:Hid (¬decide (7<=ds[k].op)=decide (k=0)->q0b ds=2):=fun hsame=>by
        rw[HT.o,if_neg];intro h;exact hsame (k7y.1 h k L)
       generalize ds[k].op=R at u H K;by_cases v:7<=R
       ·by_cases I:k=0
        ·have A:=hid (H.o (by simp[v,I]));have p:((k:Int)==0)=true:=beq_iff_eq.2 (by omega);clear I H K;go_wp2
         go_roundw
         case rel=>exact⟨by trivial,k+1,by omega,by go_num,A.o⟩
         case measure=>simp[intOf];omega
        ·have A:=hid (K.o (by simp[v,I]));have p:((k:Int)==0)=false:=beq_false_of_ne (by omega);clear I H K;go_wp2;go_ret;exact⟨by rw[A.o];rfl,c.o⟩
       ·by_cases I:k=0
        ·have A:=hid (K.o (by simp[v,I]));have p:((k:Int)==0)=true:=beq_iff_eq.2 (by omega);clear I H K;go_wp2;go_ret;exact⟨by rw[A.o];rfl,c.o⟩
        ·have A:=hid (H.o (by simp[v,I]));have p:((k:Int)==0)=false:=beq_false_of_ne (by omega);clear I H K;go_wp2
         go_roundw
         case rel=>exact⟨by trivial,k+1,by omega,by go_num,A.o⟩
         case measure=>simp[intOf];omega
      ·have A:Hid (q0b ds=0):=by
        show q0b ds=0;rw[HT.o,if_pos (k7y.2 fun j h=>s.o j h (by omega))]
       have Ae:¬(k:Int)<(ds.length:Int):=by omega
       go_wp2;go_ret;exact⟨by rw[A.o];rfl,c.o⟩
    ·have A:Hid (q0b ds=2):=by
      show q0b ds=2;rw[z0y (by omega) N.o,if_neg (fun h=>m h.1)]
     have Af:(z8f (q3p ds 0 1) != (ds.length:Int))=true:=by
      cases h:q3p ds 0 1 with
      | none=>
       simp only[z8f,bne_iff_ne,ne_eq];omega
      | some j=>
       rw[h]at m;have hj:j≠ds.length:=fun e=>m (by rw[e])
       simp only[z8f,bne_iff_ne,ne_eq];omega
     generalize z8f (q3p ds 0 1)=z at f Af;clear m hz;go_wp2_with fail;refine f.o.mono ?_;rintro e M⟨rfl,Z⟩;have r:=q0d Q.o Zl Z;go_wp2;go_ret;exact⟨by rw[A.o];rfl,r⟩
end Go.Proofs.YtfdppahhbpfnoaaGreatDoor
