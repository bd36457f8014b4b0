import Derived.Test.YtchdplceopegoaaGreatDoorPi20
open Go.Proofs.Tryz
open List (getElem_map getElem_mem length_cons length_drop length_map)
namespace Go.Proofs.YtchdplceopegoaaGreatDoor
open Go Go.ChangeShapes Go.WideShapes Go.RowKit
theorem j5t:prog.cellsOf 35=3:=by kernel_rfl
section
variable {H:Type} {enc:TypeId × Value→H} {W:World}
theorem k6v{K:Nat}{a0:Option Addr}{l0 c0:Nat}{d:DataW H}{p:List MemPlace}(hf:DataW.trod enc prog W 0 (fun _=>true) true K 22 [.slice a0 l0 c0]=some (d,p)):
  ∃ds:List Td,l0=ds.length/\Tds W a0 ds:=by
 rcases Deep.open_slice Tryz.underlying22 hf with⟨L,_⟩|⟨a,u,e,m,n,D,z,L,_,j,_,r,hd,s⟩
 ·simp only[List.cons.injEq,and_true,Value.slice.injEq]at L;obtain⟨rfl,rfl,rfl⟩:=L;exact⟨[],rfl,fun i N=>by simp at N⟩
 ·simp only[List.cons.injEq,and_true,Value.slice.injEq]at L;obtain⟨rfl,rfl,rfl⟩:=L;have l:l0<=m:=by rw[r];simp only[if_true];exact j
  have J:∀i,i<l0->∃x:Td,W.cell? ((a.add (i*3)).add 0)=some (.int .i64 x.op)/\W.cell? ((a.add (i*3)).add 1)=some (.string x.tx)/\W.cell? ((a.add (i*3)).add 2)=some (.int .i64 x.n):=by
   intro i N;obtain⟨f,Y,g⟩:=s i (by omega);rw[j5t]at Y;obtain⟨_,G,A⟩:=World.cells?_some Y;obtain⟨xs,k,_,_,_,M,I⟩:=DataW.trod_struct Tryz.underlying35 g;have B:=I 0 _ rfl;have C:=I 1 _ rfl;have E:=I 2 _ rfl;obtain⟨y0,y1,y2,rfl⟩:=y1t M;obtain⟨v0,v1,v2,rfl⟩:=y1t G;clear M G;simp[y2x,y2y]at B C E;obtain⟨w,U,_,_⟩:=DataW.trod_int Tryz.underlying3 B;obtain⟨v,V,_,_⟩:=DataW.trod_string Tryz.underlying9 C;obtain⟨y,X,_,_⟩:=DataW.trod_int Tryz.underlying3 E;simp only[List.cons.injEq,and_true]at U V X;subst U V X;exact⟨⟨w,v,y⟩,A 0 (by omega),A 1 (by omega),A 2 (by omega)⟩
  have t:Inhabited Td:=⟨⟨0,⟨#[]⟩,0⟩⟩;obtain⟨q,Z⟩:=Deep.choose_lt J;refine⟨(List.range l0).map q,by simp,?_⟩;intro i N;have Q:i<l0:=by simpa using N
  obtain⟨c0,R,S⟩:=Z i Q;obtain⟨O,_,_⟩:=Z 0 (by omega)
  have c:a.spot=none:=by
   have:=World.cell?_spot O
   simpa[Addr.add]using this
  obtain⟨b,o,sp⟩:=a;simp only at c;subst c;simp only[j4o,Nat.add_zero]at c0 R S
  have h:b<W.heap.size:=by
   rcases Nat.lt_or_ge b W.heap.size with P|P
   ·exact P
   ·simp[World.cell?,Array.getElem?_eq_none P]at c0
  refine⟨b,o,rfl,h,?_,?_,?_⟩
  ·simpa using c0
  ·simpa using R
  ·simpa using S
theorem j2n{a0:Option Addr}{l0 c0:Nat}{d:DataW H}{p:List MemPlace}(h:DataW.Trod enc prog W 0 (fun _=>true) true 22 (.slice a0 l0 c0) d p):
  ∃ds:List Td,l0=ds.length/\Tds W a0 ds:=by
 obtain⟨A,B⟩:=h;exact k6v B
end
end Go.Proofs.YtchdplceopegoaaGreatDoor
namespace Go.Proofs.YtchdplceopegoaaGreatDoor
open Go Go.RowKit
set_option maxRecDepth 100000
set_option maxHeartbeats 16000000
theorem z6m(ds:List Td)(a:Option Addr)(cap:Nat)(w:World)(hN:Tds w a ds)(t:∀x∈ds,x.tx.size<=1000000000000):Cb 44 #[.slice a ds.length cap] w (q0b ds):=by
 unfold Cb;have HN:Hid (Tds w a ds):=hN;have Ab:Hid (∀x∈ds,x.tx.size<=1000000000000):=t;clear hN t;by_cases Aj:40<(ds.length:Int)
 ·have A:Hid (q0b ds=3):=z7z (by omega);go_in;go_wp2;go_ret;exact⟨by rw[A.o];rfl,Below.refl _ _⟩
 go_in;go_wp2
 go_loopw [3] (fun i wr=>Below w w wr/\∃k:Nat,k<=ds.length/\i=.int .i64 k/\∀x∈ds.take k,q0t x=0) (fun i _=>ds.length-(intOf i).toNat)
 case atStart=>exact⟨Below.refl _ _,0,Nat.zero_le _,rfl,fun x hx=>by simp at hx⟩
 case round=>
  obtain⟨l,k,hk,rfl,J⟩:=hrel;have y:Hid (∀x∈ds.take k,q0t x=0):=J;have Q:Hid (Below w w wr):=l;have Ah:=l.size;clear J l;by_cases L:k<ds.length
  ·obtain⟨b,o,ea,hb,u,c2,c3⟩:=(HN.o.W Q.o) k L;have Ad:(k:Int)<(ds.length:Int):=by omega
   have C:Hid (q0t ds[k]≠0->q0b ds=q0t ds[k]):=fun h=>z8a (by omega) L y.o h
   have E:Hid (q0t ds[k]=0->∀x∈ds.take (k+1),q0t x=0):=fun h=>z7x L y.o h
   have d:ds[k].tx.size<=1000000000000:=Ab.o _ (getElem_mem L);have B:Hid (∀O:Obj,Below w w (wr.alloc O)):=fun O=>Q.o.alloc Ah O
   subst ea;generalize ds[k]=x at u c2 c3 C E d;obtain⟨R,tx,n⟩:=x;simp only at u c2 c3 d;by_cases G:R<1
   ·skip
    have A:Hid (q0b ds=1):=by
     show q0b ds=1;have e:=y0v (tx:=tx) (n:=n) G;rw[C.o (by rw[e];decide),e]
    clear C E;go_wp2;go_ret;exact⟨by rw[A.o];rfl,B.o _⟩
   by_cases D:9<R
   ·skip
    have A:Hid (q0b ds=1):=by
     show q0b ds=1;have e:=y0w (tx:=tx) (n:=n) G D;rw[C.o (by rw[e];decide),e]
    clear C E;go_wp2;go_ret;exact⟨by rw[A.o];rfl,B.o _⟩
   have Ag:R=1\/R=2\/R=3\/R=4\/R=5\/R=6\/R=7\/R=8\/R=9:=by omega
   clear G D;rcases Ag with rfl|rfl|rfl|rfl|rfl|rfl|rfl|rfl|rfl
   ·skip
    by_cases G:n<0
    ·skip
     have A:Hid (q0b ds=1):=by
      show q0b ds=1;have e:=y0x (tx:=tx) (n:=n) G;rw[C.o (by rw[e];decide),e]
     clear C E;go_wp2;go_ret;exact⟨by rw[A.o];rfl,B.o _⟩
    ·skip
     by_cases D:999999<n
     ·skip
      have A:Hid (q0b ds=1):=by
       show q0b ds=1;have e:=y0y (tx:=tx) (n:=n) G D;rw[C.o (by rw[e];decide),e]
      clear C E;go_wp2;go_ret;exact⟨by rw[A.o];rfl,B.o _⟩
     ·skip
      by_cases S:0<(tx.size:Int)
      ·skip
       have A:Hid (q0b ds=2):=by
        show q0b ds=2;have e:=y0z (tx:=tx) (n:=n) G D S;rw[C.o (by rw[e];decide),e]
       clear C E;go_wp2;go_ret;exact⟨by rw[A.o];rfl,B.o _⟩
      ·skip
       have A:=hid (E.o (y1a (tx:=tx) (n:=n) G D S));clear C E;go_wp2
       go_roundw
       case rel=>exact⟨B.o _,k+1,by omega,by go_num,A.o⟩
       case measure=>simp[intOf];omega
   ·skip
    by_cases G:n=0
    ·skip
     cases D:q0o tx with
     | true=>
      have A:=hid (E.o (y1c (tx:=tx) (n:=n) G D));have P:Hid (q0o tx=true):=D;clear C E D;go_wp2_with(go_at_call 25;refine(q1g _ _).mono ?_;rintro e M⟨rfl,rfl⟩;rw[P.o])
      go_roundw
      case rel=>exact⟨B.o _,k+1,by omega,by go_num,A.o⟩
      case measure=>simp[intOf];omega
     | false=>
      have A:Hid (q0b ds=5):=by
       show q0b ds=5;have e:=y1d (tx:=tx) (n:=n) G D;rw[C.o (by rw[e];decide),e]
      have P:Hid (q0o tx=false):=D;clear C E D;go_wp2_with(go_at_call 25;refine(q1g _ _).mono ?_;rintro e M⟨rfl,rfl⟩;rw[P.o]);go_ret;exact⟨by rw[A.o];rfl,B.o _⟩
    ·skip
     have A:Hid (q0b ds=2):=by
      show q0b ds=2;have e:=y1b (tx:=tx) (n:=n) G;rw[C.o (by rw[e];decide),e]
     clear C E;go_wp2;go_ret;exact⟨by rw[A.o];rfl,B.o _⟩
   ·skip
    by_cases G:n<0
    ·skip
     have A:Hid (q0b ds=1):=by
      show q0b ds=1;have e:=y1e (tx:=tx) (n:=n) G;rw[C.o (by rw[e];decide),e]
     clear C E;go_wp2;go_ret;exact⟨by rw[A.o];rfl,B.o _⟩
    ·skip
     by_cases D:6<n
     ·skip
      have A:Hid (q0b ds=1):=by
       show q0b ds=1;have e:=j9d (tx:=tx) (n:=n) G D;rw[C.o (by rw[e];decide),e]
      clear C E;go_wp2;go_ret;exact⟨by rw[A.o];rfl,B.o _⟩
     ·skip
      cases S:q0o tx with
      | true=>
       have A:=hid (E.o (j9e (tx:=tx) (n:=n) G D S));have P:Hid (q0o tx=true):=S;clear C E S;go_wp2_with(go_at_call 25;refine(q1g _ _).mono ?_;rintro e M⟨rfl,rfl⟩;rw[P.o])
       go_roundw
       case rel=>exact⟨B.o _,k+1,by omega,by go_num,A.o⟩
       case measure=>simp[intOf];omega
      | false=>
       have A:Hid (q0b ds=5):=by
        show q0b ds=5;have e:=j9f (tx:=tx) (n:=n) G D S;rw[C.o (by rw[e];decide),e]
       have P:Hid (q0o tx=false):=S;clear C E S;go_wp2_with(go_at_call 25;refine(q1g _ _).mono ?_;rintro e M⟨rfl,rfl⟩;rw[P.o]);go_ret;exact⟨by rw[A.o];rfl,B.o _⟩
   ·skip
    by_cases G:n<0
    ·skip
     have A:Hid (q0b ds=1):=by
      show q0b ds=1;have e:=j9g (tx:=tx) (n:=n) G;rw[C.o (by rw[e];decide),e]
     clear C E;go_wp2;go_ret;exact⟨by rw[A.o];rfl,B.o _⟩
    ·skip
     by_cases D:6<n
     ·skip
      have A:Hid (q0b ds=1):=by
       show q0b ds=1;have e:=j9h (tx:=tx) (n:=n) G D;rw[C.o (by rw[e];decide),e]
      clear C E;go_wp2;go_ret;exact⟨by rw[A.o];rfl,B.o _⟩
     ·skip
      by_cases S:0<(tx.size:Int)
      ·skip
       have A:Hid (q0b ds=2):=by
        show q0b ds=2;have e:=j9i (tx:=tx) (n:=n) G D S;rw[C.o (by rw[e];decide),e]
       clear C E;go_wp2;go_ret;exact⟨by rw[A.o];rfl,B.o _⟩
      ·skip
       have A:=hid (E.o (j9j (tx:=tx) (n:=n) G D S));clear C E;go_wp2
       go_roundw
       case rel=>exact⟨B.o _,k+1,by omega,by go_num,A.o⟩
       case measure=>simp[intOf];omega
   ·skip
    by_cases G:n=0
    ·skip
     by_cases D:0<(tx.size:Int)
     ·skip
      have A:Hid (q0b ds=2):=by
       show q0b ds=2;have e:=j9l (tx:=tx) (n:=n) G D;rw[C.o (by rw[e];decide),e]
      clear C E;go_wp2;go_ret;exact⟨by rw[A.o];rfl,B.o _⟩
     ·skip
      have A:=hid (E.o (j9m (tx:=tx) (n:=n) G D));clear C E;go_wp2
      go_roundw
      case rel=>exact⟨B.o _,k+1,by omega,by go_num,A.o⟩
      case measure=>simp[intOf];omega
    ·skip
     have A:Hid (q0b ds=2):=by
      show q0b ds=2;have e:=j9k (tx:=tx) (n:=n) G;rw[C.o (by rw[e];decide),e]
     clear C E;go_wp2;go_ret;exact⟨by rw[A.o];rfl,B.o _⟩
   ·skip
    by_cases G:n=0
    ·skip
     by_cases D:0<(tx.size:Int)
     ·skip
      have A:Hid (q0b ds=2):=by
       show q0b ds=2;have e:=j9o (tx:=tx) (n:=n) G D;rw[C.o (by rw[e];decide),e]
      clear C E;go_wp2;go_ret;exact⟨by rw[A.o];rfl,B.o _⟩
     ·skip
      have A:=hid (E.o (j9p (tx:=tx) (n:=n) G D));clear C E;go_wp2
      go_roundw
      case rel=>exact⟨B.o _,k+1,by omega,by go_num,A.o⟩
      case measure=>simp[intOf];omega
    ·skip
     have A:Hid (q0b ds=2):=by
      show q0b ds=2;have e:=j9n (tx:=tx) (n:=n) G;rw[C.o (by rw[e];decide),e]
     clear C E;go_wp2;go_ret;exact⟨by rw[A.o];rfl,B.o _⟩
   ·skip
    by_cases G:n=0
    ·skip
     cases D:q0o tx with
     | true=>
      have A:=hid (E.o (j9r (tx:=tx) (n:=n) G D));have P:Hid (q0o tx=true):=D;clear C E D;go_wp2_with(go_at_call 25;refine(q1g _ _).mono ?_;rintro e M⟨rfl,rfl⟩;rw[P.o])
      go_roundw
      case rel=>exact⟨B.o _,k+1,by omega,by go_num,A.o⟩
      case measure=>simp[intOf];omega
     | false=>
      have A:Hid (q0b ds=5):=by
       show q0b ds=5;have e:=j9s (tx:=tx) (n:=n) G D;rw[C.o (by rw[e];decide),e]
      have P:Hid (q0o tx=false):=D;clear C E D;go_wp2_with(go_at_call 25;refine(q1g _ _).mono ?_;rintro e M⟨rfl,rfl⟩;rw[P.o]);go_ret;exact⟨by rw[A.o];rfl,B.o _⟩
    ·skip
     have A:Hid (q0b ds=2):=by
      show q0b ds=2;have e:=j9q (tx:=tx) (n:=n) G;rw[C.o (by rw[e];decide),e]
     clear C E;go_wp2;go_ret;exact⟨by rw[A.o];rfl,B.o _⟩
   ·skip
    by_cases G:n=0
    ·skip
     by_cases D:0<(tx.size:Int)
     ·skip
      have A:Hid (q0b ds=2):=by
       show q0b ds=2;have e:=j9u (tx:=tx) (n:=n) G D;rw[C.o (by rw[e];decide),e]
      clear C E;go_wp2;go_ret;exact⟨by rw[A.o];rfl,B.o _⟩
     ·skip
      have A:=hid (E.o (j9v (tx:=tx) (n:=n) G D));clear C E;go_wp2
      go_roundw
      case rel=>exact⟨B.o _,k+1,by omega,by go_num,A.o⟩
      case measure=>simp[intOf];omega
    ·skip
     have A:Hid (q0b ds=2):=by
      show q0b ds=2;have e:=j9t (tx:=tx) (n:=n) G;rw[C.o (by rw[e];decide),e]
     clear C E;go_wp2;go_ret;exact⟨by rw[A.o];rfl,B.o _⟩
   ·skip
    by_cases G:n=0
    ·skip
     by_cases D:q2t tx=0
     ·skip
      have A:=hid (E.o (j9x (tx:=tx) (n:=n) G D));have P:Hid (q2t tx=0):=D;clear C E D;have U:Hid (q1f ((q0d (btL tx)).map wbS)=q2t tx):=rfl;generalize q2t tx=nf at *;go_wp2_with fail;refine(q4d tx _ d).mono ?_;rintro e M⟨⟨q,g,rfl,X⟩,Z⟩;have r:Below w w M:=(B.o _).trans (Z.mono (by simp;omega));have V:Hid (Wds M q ((q0d (btL tx)).map wbS)):=q3t X;have Y:(q0d (btL tx)).length=((q0d (btL tx)).map wbS).length:=by rw[length_map]
      rw[Y];clear X Y Z
      generalize(q0d (btL tx)).map wbS=ws at V U⊢
      go_wp2_with fail;refine(z7u ws q g _ V.o).mono ?_;rintro e w3⟨rfl,rfl⟩;rw[U.o];rw[P.o];go_wp2
      go_roundw
      case rel=>exact⟨r,k+1,by omega,by go_num,A.o⟩
      case measure=>simp[intOf];omega
     ·skip
      have A:Hid (q0b ds=q2t tx):=by
       show q0b ds=q2t tx;have e:=j9y (tx:=tx) (n:=n) G D;rw[C.o (by rw[e];exact D),e]
      have Al:(q2t tx != 0)=true:=by simp[D]
      clear C E D;have U:Hid (q1f ((q0d (btL tx)).map wbS)=q2t tx):=rfl;generalize q2t tx=nf at *;go_wp2_with fail;refine(q4d tx _ d).mono ?_;rintro e M⟨⟨q,g,rfl,X⟩,Z⟩;have r:Below w w M:=(B.o _).trans (Z.mono (by simp;omega));have V:Hid (Wds M q ((q0d (btL tx)).map wbS)):=q3t X;have Y:(q0d (btL tx)).length=((q0d (btL tx)).map wbS).length:=by rw[length_map]
      rw[Y];clear X Y Z
      generalize(q0d (btL tx)).map wbS=ws at V U⊢
      go_wp2_with fail;refine(z7u ws q g _ V.o).mono ?_;rintro e w3⟨rfl,rfl⟩;rw[U.o];go_wp2;go_ret;exact⟨by rw[A.o];rfl,r⟩
    ·skip
     have A:Hid (q0b ds=2):=by
      show q0b ds=2;have e:=j9w (tx:=tx) (n:=n) G;rw[C.o (by rw[e];decide),e]
     clear C E;go_wp2;go_ret;exact⟨by rw[A.o];rfl,B.o _⟩
  ·obtain rfl:k=ds.length:=by omega
   have N:Hid (∀x∈ds,q0t x=0):=by
    have h:=y.o;rw[List.take_length]at h;exact h
   have Ad:¬(ds.length:Int)<(ds.length:Int):=by omega
   by_cases hz:ds.length=0
   ·have A:Hid (q0b ds=2):=by
     show q0b ds=2;rw[z1r (by omega) N.o,q8v ds 0 0 (by omega),if_neg (by simp)]
    have Ai:((ds.length:Int)==0)=true:=beq_iff_eq.2 (by omega);clear hz;go_wp2;go_ret;exact⟨by rw[A.o];rfl,Q.o⟩
   ·have Ai:((ds.length:Int)==0)=false:=beq_false_of_ne (by omega);have f:Hid (Cb 47 #[.slice a ds.length cap,.int .i64 0] wr (z9g (q3u ds 0 1))):=z5l ds a cap (by omega) N.o (ds.length+1) 0 wr (HN.o.W Q.o) (by omega) (by omega);by_cases m:q3u ds 0 1=some ds.length
    ·have Aa:Hid (z9g (q3u ds 0 1)=(ds.length:Int)):=by show z9g _=_;rw[m];rfl
     have HT:Hid (q0b ds=if k7i ds=true then 0 else 2):=by
      show q0b ds=_;rw[z1r (by omega) N.o];simp only[m,true_and]
     have Ak:((ds.length:Int) != (ds.length:Int))=false:=by simp
     clear m hz;go_wp2_with fail;refine f.o.mono ?_;rintro e M⟨rfl,Z⟩;rw[Aa.o];have c:Hid (Below w w M):=q0e Q.o Zl Z;clear Z;go_wp2
     go_loopw [8] (fun i wx=>wx=M/\∃k:Nat,k<=ds.length/\i=(k:Int)/\∀j(h:j<ds.length),j<k->decide (7<=ds[j].op)=decide (j=0)) (fun i _=>ds.length-(intOf i).toNat)
     case atStart=>exact⟨rfl,0,Nat.zero_le _,rfl,fun j _ h=>by omega⟩
     case round=>
      obtain⟨rfl,k,hk,rfl,J⟩:=hrel;have s:Hid (∀j(h:j<ds.length),j<k->decide (7<=ds[j].op)=decide (j=0)):=J;clear J;by_cases L:k<ds.length
      ·obtain⟨b,o,ea,hb,u,_,_⟩:=(HN.o.W c.o) k L;have Ae:(k:Int)<(ds.length:Int):=by omega
       subst ea
       have H:Hid (decide (7<=ds[k].op)=decide (k=0)->∀j(h:j<ds.length),j<k+1->decide (7<=ds[j].op)=decide (j=0)):=fun hsame j h hj=>by
        by_cases Ac:j=k
        ·subst Ac;exact hsame
        ·exact s.o j h (by omega)
       have K:Hid (¬decide (7<=ds[k].op)=decide (k=0)->q0b ds=2):=fun hsame=>by
        rw[HT.o,if_neg];intro h;exact hsame (j0k.1 h k L)
       generalize ds[k].op=R at u H K;by_cases v:7<=R
       ·by_cases I:k=0
        ·have A:=hid (H.o (by simp[v,I]));have p:((k:Int)==0)=true:=beq_iff_eq.2 (by omega);clear I H K;go_wp2
         go_roundw
         case rel=>exact⟨by trivial,k+1,by omega,by go_num,A.o⟩
         case measure=>simp[intOf];omega
        ·have A:=hid (K.o (by simp[v,I]));have p:((k:Int)==0)=false:=beq_false_of_ne (by omega);clear I H K;go_wp2;go_ret;exact⟨by rw[A.o];rfl,c.o⟩
       ·by_cases I:k=0
        ·have A:=hid (K.o (by simp[v,I]));have p:((k:Int)==0)=true:=beq_iff_eq.2 (by omega);clear I H K;go_wp2;go_ret;exact⟨by rw[A.o];rfl,c.o⟩
        ·have A:=hid (H.o (by simp[v,I]));have p:((k:Int)==0)=false:=beq_false_of_ne (by omega);clear I H K;go_wp2
         go_roundw
         case rel=>exact⟨by trivial,k+1,by omega,by go_num,A.o⟩
         case measure=>simp[intOf];omega
      ·have A:Hid (q0b ds=0):=by
        show q0b ds=0;rw[HT.o,if_pos (j0k.2 fun j h=>s.o j h (by omega))]
       have Ae:¬(k:Int)<(ds.length:Int):=by omega
       go_wp2;go_ret;exact⟨by rw[A.o];rfl,c.o⟩
    ·have A:Hid (q0b ds=2):=by
      show q0b ds=2;rw[z1r (by omega) N.o,if_neg (fun h=>m h.1)]
     have Af:(z9g (q3u ds 0 1) != (ds.length:Int))=true:=by
      cases h:q3u ds 0 1 with
      | none=>
       simp only[z9g,bne_iff_ne,ne_eq];omega
      | some j=>
       rw[h]at m;have hj:j≠ds.length:=fun e=>m (by rw[e])
       simp only[z9g,bne_iff_ne,ne_eq];omega
     generalize z9g (q3u ds 0 1)=z at f Af;clear m hz;go_wp2_with fail;refine f.o.mono ?_;rintro e M⟨rfl,Z⟩;have r:=q0e Q.o Zl Z;go_wp2;go_ret;exact⟨by rw[A.o];rfl,r⟩
theorem k3x(ps:List (List Td))(a:Option Addr)(cap:Nat)(w:World)(hP:Prg w a ps)(z:∀t∈ps,∀x∈t,x.tx.size<=1000000000000):Cb 28 #[.slice a ps.length cap] w (.tuple #[((q0z ps).1:Int),(q0z ps).2]):=by
 unfold Cb;have HP:=hid hP;have Ab:=hid z;clear hP z;by_cases Ag:20<(ps.length:Int)
 ·have c:Hid (q0z ps=(0,3)):=by show q0z ps=_;rw[q0z,if_pos (by omega)]
  go_in;go_wp2;go_ret2;exact⟨by rw[c.o];rfl,Below.refl _ _⟩
 have HF:Hid (q0z ps=q7u 0 0 ps):=by show q0z ps=_;rw[q0z,if_neg (by omega)]
 go_in;go_wp2
 go_loopw [4] (fun i wr=>Below w w wr/\∃k:Nat,k<=ps.length/\i=.int .i64 k/\q0z ps=q7u (q7f ps k) k (ps.drop k)/\∀j(h:j<ps.length),j<k->q0b ps[j]=0) (fun i _=>ps.length-(intOf i).toNat)
 case atStart=>exact⟨Below.refl _ _,0,Nat.zero_le _,rfl,HF.o,fun j _ h=>by omega⟩
 case round=>
  obtain⟨u,k,hk,rfl,hF,X⟩:=hrel;have J:=hid u;have HG:=hid hF;have HA:=hid X;clear u hF X;by_cases P:k<ps.length
  ·obtain⟨b,o,a',c',ea,hb,V,c2,hT⟩:=(HP.o.W J.o) k P;subst ea;have y:(k:Int)<(ps.length:Int):=by omega
   have S:=z6m ps[k] a' c' wr hT (Ab.o _ (getElem_mem P))
   have Q:Hid (q0b ps[k]=0->∀j(h:j<ps.length),j<k+1->q0b ps[j]=0):=fun h0 j h hj=>by
    by_cases Ac:j=k
    ·subst Ac;exact h0
    ·exact HA.o j h (by omega)
   have K:Hid (q0b ps[k]=0->0<ps[k].length/\∃U p,a'=some ⟨U,p,none⟩/\U<wr.heap.size/\wr.cell? ⟨U,p,none⟩=some (.int .i64 (opT ps[k]))):=fun h0=>by
    have A:=z1s h0;obtain⟨U,p,e1,g,d1,_,_⟩:=hT 0 A;exact⟨A,U,p,e1,g,by rw[z5j A];simpa using d1⟩
   have H:Hid (q0b ps[k]≠0->q0z ps=(k,q0b ps[k])):=fun h=>HG.o.trans (k3v P h)
   have D:Hid (q0b ps[k]=0->opT ps[k]=9/\q7f ps k=9->q0z ps=(k,2)):=fun h h2=>HG.o.trans (k3w P h h2)
   have C:Hid (q0b ps[k]=0->¬(opT ps[k]=9/\q7f ps k=9)->q0z ps=q7u (q7f ps (k+1)) (k+1) (ps.drop (k+1))):=fun h h2=>HG.o.trans (z7s P h h2)
   have M:Hid (∀j,k=j+1->∃a1 n1 f,wr.cell? ⟨b,o+j,none⟩=some (.slice a1 n1 f)/\0<n1/\∃I q,a1=some ⟨I,q,none⟩/\I<wr.heap.size/\wr.cell? ⟨I,q,none⟩=some (.int .i64 (q7f ps k))):=fun j hj=>by
    have m:j<ps.length:=by omega
    obtain⟨bj,oj,aj,cj,ej,_,q1,_,qT⟩:=(HP.o.W J.o) j m;simp only[Option.some.injEq,Addr.mk.injEq,and_true]at ej;obtain⟨rfl,rfl⟩:=ej;have A:=z1s (HA.o j m (by omega));obtain⟨I,q,e2,l,d2,_,_⟩:=qT 0 A;refine⟨aj,ps[j].length,cj,q1,A,I,q,e2,l,?_⟩;rw[hj,z2u m,z5j A];simpa using d2
   have N:=hid S;clear hT S c2;generalize ps[k].length=nl at V N K;generalize opT ps[k]=op0 at K D C;generalize q0b ps[k]=E at N Q K H D C;by_cases v:E=0
   ·subst v;obtain⟨Am,U,p,rfl,g,d1⟩:=K.o rfl;have Y:=hid (Q.o rfl);have L:=hid (D.o rfl);have B:=hid (C.o rfl);clear D C;have Af:(0:Int)<(nl:Int):=by omega
    have Z:=hid V;have Aa:=hid d1;clear K H Q V d1;by_cases n:k=0
    ·have s:=hid (B.o (by simp[q7f,n]));have Ad:¬(0:Int)<(k:Int):=by omega
     have V:=Z.o;clear L B n;go_wp2_with fail;refine N.o.mono ?_;rintro e w2⟨rfl,I⟩;have G:=hid (q0e J.o Zl I);clear I V;go_wp2
     go_roundw
     case rel=>exact⟨G.o,k+1,by omega,by go_num,s.o,Y.o⟩
     case measure=>simp[intOf];omega
    ·obtain⟨j,rfl⟩:∃j,k=j+1:=⟨k-1,by omega⟩;obtain⟨a1,n1,f,q1,Ak,I,q,rfl,l,d2⟩:=M.o j rfl;have O:((j+1:Nat):Int)=(j:Int)+1:=by omega
     have Ad:(0:Int)<(j:Int)+1:=by omega
     have Ai:(j:Int)<(ps.length:Int):=by omega
     have Aj:(j:Int)+1<(ps.length:Int):=by omega
     have Ae:(0:Int)<(n1:Int):=by omega
     have r:Hid (∀W:World,Below wr wr W->W.cell? (b,o+(j+1))=some (.slice (some ↑(U,p)) nl c')/\W.cell? (U,p)=some ↑op0/\W.cell? (b,o+j)=some (.slice (some ↑(I,q)) n1 f)/\W.cell? (I,q)=some ↑(q7f ps (j+1))):=fun W hW=>
      ⟨((q0s hW).1 _ _ hb).trans Z.o,((q0s hW).1 _ _ g).trans Aa.o,((q0s hW).1 _ _ hb).trans q1,((q0s hW).1 _ _ l).trans d2⟩
     have V:=Z.o;generalize q7f ps (j+1)=pv at L B r;rw[O]at y⊢;clear q1 d2 M O n;go_wp2_with fail;refine N.o.mono ?_;rintro e w2⟨rfl,d⟩;have G:=hid (q0e J.o Zl d);obtain⟨k1,k2,k3,k4⟩:=r.o w2 d;clear d V;by_cases h9:op0=9
     ·subst h9;by_cases R:pv=9
      ·subst R;have c:=hid (L.o ⟨rfl,rfl⟩);clear L B;go_wp2;go_ret2;exact⟨by rw[c.o];rfl,G.o⟩
      ·have s:=hid (B.o (fun h=>R h.2));have Ao:(pv==9)=false:=by simp[R]
       clear L B R;go_wp2
       go_roundw
       case rel=>exact⟨G.o,j+1+1,by omega,by go_num,s.o,Y.o⟩
       case measure=>simp[intOf];omega
     ·have s:=hid (B.o (fun h=>h9 h.1));have An:(op0==9)=false:=by simp[h9]
      clear L B h9;go_wp2
      go_roundw
      case rel=>exact⟨G.o,j+1+1,by omega,by go_num,s.o,Y.o⟩
      case measure=>simp[intOf];omega
   ·have c:=hid (H.o v);have Ah:(E==0)=false:=by simp[v]
    have Al:(E != 0)=true:=by simp[v]
    clear K H Q D C v;go_wp2_with fail;refine N.o.mono ?_;rintro e w2⟨rfl,I⟩;have G:=hid (q0e J.o Zl I);clear I V;go_wp2;go_ret2;exact⟨by rw[c.o];rfl,G.o⟩
  ·have c:Hid (q0z ps=(0,0)):=by
    show q0z ps=_;rw[HG.o,List.drop_eq_nil_of_le (by omega)];rfl
   have y:¬(k:Int)<(ps.length:Int):=by omega
   go_wp2;go_ret2;exact⟨by rw[c.o];rfl,J.o⟩
def v9r(s:ByteArray)(W:World)(e:Ending)(w':World):Prop:=∃ps k f A c,e=.returned (.tuple #[.slice A ps.length c,.int .i64 k,.int .i64 f])/\z0i s ps k f/\Prg w' A ps/\(A=none->ps.length=0/\c=0)/\ps.length<=c/\Below W W w'
theorem q5b{s:ByteArray}{W w':World}{k f:Int}(h:z0i s [] k f)(hb:Below W W w'):v9r s W (.returned (.tuple #[.slice none 0 0,.int .i64 k,.int .i64 f])) w':=
 ⟨[],k,f,none,0,rfl,h,Prg.nil _ _,fun _=>⟨rfl,rfl⟩,Nat.le_refl _,hb⟩
theorem v8h{B:Nat}{w:World}{A:Option Addr}{n c:Nat}{xs:List ByteArray}(h:q2i B (.slice A n c) xs w):∀ba oa,A=some ⟨ba,oa,none⟩->ba<w.heap.size:=by
 intro ba oa e;rcases h.2 with⟨C,_⟩|⟨g,G,D,C,_,E,_⟩
 ·simp only[Value.slice.injEq]at C;rw[C.1]at e;cases e
 ·simp only[Value.slice.injEq]at C;rw[C.1]at e;simp only[Option.some.injEq,Addr.mk.injEq,and_true]at e;rw[<-e.1];exact(Array.getElem?_eq_some_iff.1 E).1
theorem y9f{w:World}{A:Option Addr}{c:Nat}{ws:List Wd}(hw:Wds w A (ws.map wbS))(D:∀ba oa,A=some ⟨ba,oa,none⟩->ba<w.heap.size):Rd (w.alloc (.cells #[.slice A ws.length c,.int .i64 0,.bool false] 68)) w.heap.size A c ws 0 false:=by
 have B:(w.alloc (.cells #[.slice A ws.length c,.int .i64 0,.bool false] 68)).heap[w.heap.size]?=some (.cells #[.slice A ws.length c,.int .i64 0,.bool false] 68 (0,0)):=by
  show(w.heap.push _)[w.heap.size]?=_
  simp
 have C:∀k,(w.alloc (.cells #[.slice A ws.length c,.int .i64 0,.bool false] 68)).cell? ⟨w,k,none⟩=(match (w.alloc (.cells #[.slice A ws.length c,.int .i64 0,.bool false] 68)).heap[w.heap.size]? with
  | some (.cells c _ _)=>c[k]?
  | _=>none):=fun _=>rfl
 refine⟨by rw[C,B];rfl,by rw[C,B];rfl,by rw[C,B];rfl,⟨_,_,B,rfl⟩,hw.W (Zb.alloc Zl _),D⟩
theorem v3e{L:List UInt8}:∀x∈q2o L,q3l x/\x.length<=L.length:=by
 intro x B;obtain⟨j,A,rfl⟩:=List.getElem_of_mem B;have h:=g0n L j A (by rw[<-z3m];exact A);exact⟨h.2.2.1,by omega⟩
theorem j8u:∀(ws:List Wd)(w:Wd),w∈ws->w.length+1<=k4f ws
 | a::r,w,h=>by
  unfold k4f;rw[List.map_cons,List.sum_cons];rcases List.mem_cons.1 h with rfl|h
  ·omega
  ·have:=j8u r w h
   unfold k4f at this;omega
theorem j8d:∀ws:List Wd,ws.length<=k4f ws
 | []=>by simp
 | a::r=>by
  have:=j8d r
  unfold k4f at this⊢;rw[List.map_cons,List.sum_cons,length_cons];omega
theorem v0c(s:List UInt8):(q0d s).length<=s.length+1:=by
 unfold q0d
 split
 ·simp
 ·have:=j8d (q4x s)
  rw[k0r]at this;exact this
theorem v0d{s:List UInt8}{w:Wd}(h:w∈q0d s):w.length<=s.length:=by
 unfold q0d at h
 split at h
 ·cases h
 ·have A:=j8u _ _ h;rw[k0r]at A;omega
theorem j4q{t l:Wd}(h:l≠[]/\t≠[]):wbS t++(⟨#[32]⟩:ByteArray)++wbS l=wbS (q6i t l):=by
 unfold q6i;rw[if_pos h,<-q0l,<-q0l];rfl
theorem k5e{t l:Wd}(h:¬(l≠[]/\t≠[])):wbS t++wbS l=wbS (q6i t l):=by
 unfold q6i;rw[if_neg h,<-q0l]
theorem v2y{t:Wd}(h:t≠[]):(0:Int)<((wbS t).size:Int):=by
 rw[q1m]
 have:=List.length_pos_iff.2 h
 omega
theorem k7j{t:Wd}(h:t=[]):¬(0:Int)<((wbS t).size:Int):=by
 rw[q1m,h];simp
theorem y6b{w:Wd}{S:ByteArray}(h:wbS w=S)(h0:w≠[]):0<S.size/\∀h1:0<S.size,S[0]=w.headD 0:=by
 subst h;cases w with
 | nil=>exact absurd rfl h0
 | cons c r=>exact⟨by rw[<-q0c];show 0<(c::r).length;simp,fun _=>rfl⟩
theorem y5r{w:Wd}{S:ByteArray}(h:wbS w=S):btL (S.extract 1 S.size)=w.drop 1:=by
 subst h;rw[z0f];have A:btL (wbS w)=w:=rfl;have B:∀l:List UInt8,btL (wbS l)=l:=fun _=>rfl
 rw[B,A,q1m,List.take_of_length_le (by simp)]
structure g1i(b:Nat)(A:Option Addr)(c:Nat)(ws:List Wd)(p:Nat)(w:World)(r:Rs)(ns:List Td)(v:Value)(w':World):Prop where
 o:q1b w v ns w'
 n:ns.length+r.rest.length<=(ws.drop p).length
 rd:Rd w' b A c ws (ws.length-r.rest.length) r.isBad
 bt:But w b w w'
 er:r=.bad (ws.drop p)
 en:ns=[]
theorem y8v{b:Nat}{A:Option Addr}{c:Nat}{ws:List Wd}{w:World}{q p:Nat}{B:List (List Td)}{v v7:Value}{wr w3 w4 w7:World}{x:Td}{r:Rs}{ns:List Td}{v4:Value}(hV:PAt b A c ws w q false B v wr)(H:q<p)(hp:p<=ws.length)
  (hG:g1i b A c ws p w3 r ns v4 w4) (hP:PG (q6n ws q) B (ws.drop q) (.bad (ws.drop p)))
  (hR:Rd w7 b A c ws (q1q ws (ws.length-r.rest.length) r.isBad [59]) (q0y ws (ws.length-r.rest.length) r.isBad [59])) (hO:q4f (b+1) v7 (B++[x::ns]) w7) (b7:But w b w w7):
  PAt b A c ws w (q1q ws (ws.length-r.rest.length) r.isBad [59]) (q0y ws (ws.length-r.rest.length) r.isBad [59]) (B++[x::ns]) v7 w7/\
  2*(ws.length-q1q ws (ws.length-r.rest.length) r.isBad [59])+(if q0y ws (ws.length-r.rest.length) r.isBad [59]then 0 else 1)<2*(ws.length-q)+1:=by
 have G:=hG.er;subst G
 have C:ws.length-(Rs.bad (ws.drop p)).rest.length=p:=by
  show ws.length-(ws.drop p).length=p;rw[q0m hp];omega
 rw[C]at hR⊢;have D:q1q ws p (Rs.bad (ws.drop p)).isBad [59]=p:=by simp[q1q,Rs.isBad]
 have E:q0y ws p (Rs.bad (ws.drop p)).isBad [59]=true:=by simp[q0y,Rs.isBad]
 rw[D,E]at hR⊢;exact⟨y4z hV (by omega) hp (by simp) hP hO hR b7,by simp only[if_true];omega⟩
theorem k6y(s:ByteArray)(W:World):Calls prog 11 #[.string s] W fun e w'=>v9r s W e w':=by
 have HL:Hid (Cp 22 #[.string s] W fun e w'=>j4g s W e w'/\Below W W w'):=j8f s W;go_in;go_wp2_with fail;refine HL.o.mono ?_;rintro e w1⟨Eh,Da⟩;have Cb:Hid (Below W W w1):=Da;clear Da HL;rcases Eh with⟨Bj,rfl⟩|⟨h0,A,P,V,pc,rfl,hS,hP⟩
 ·have HP:Hid (z0i s [] ((k1j (btL s):Nat):Int) (q8e (btL s))):=.lex Bj
  generalize((k1j (btL s):Nat):Int)=K at HP
  generalize q8e (btL s)=E at HP Bj;go_wp2;refine bodyPost_ret (v:=.tuple #[.slice none 0 0,K,E]) (by simp[results,Tryz.results11,go_sem]) rfl ?_;exact q5b HP.o Cb.o
 have hl:=j8h h0;have Ej:∀x∈q2o (btL s),q3l x:=fun x hx=>(v3e x hx).1
 have Ek:∀x∈q2o (btL s),x.length<=60000:=fun x hx=>Nat.le_trans (v3e x hx).2 (z5d h0).1
 have Ay:Hid (∀q,q<=(q2o (btL s)).length->PG false [] (q2o (btL s)) (.bad ((q2o (btL s)).drop q))->z0i s [] ((((z3j (btL s))[q]?).getD s.size:Nat):Int) 5):=fun q hq hg=>by
  have h9:=z0i.bad h0 hg;unfold y8y at h9;rw[q0m hq,show(q2o (btL s)).length-((q2o (btL s)).length-q)=q by omega]at h9;exact h9
 have Dn:Hid (∀qs,PG false [] (q2o (btL s)) (.ok qs)->((q0z qs).2≠0->z0i s [] 0 (q0z qs).2)/\((q0z qs).2=0->z0i s qs 0 0)):=fun qs hg=>⟨fun h=>.full h0 hg h,fun h=>.ok h0 hg h⟩
 have D2:∀i,i<(q2o (btL s)).length->∃bp op,P=some ↑(bp,op)/\bp<w1.heap.size/\w1.cell? (bp,op+i)=some (.int .i64 ((((z3j (btL s))[i]?).getD s.size:Nat):Int)):=fun i hi=>by
  have Ey:i<((z3j (btL s)).map fun(k:Nat)=>(k:Int)).length:=by rw[length_map,<-z3m];exact hi
  obtain⟨bp,op,e,Aa,c1⟩:=j2k hP i Ey;have Ez:i<(z3j (btL s)).length:=by rw[<-z3m];exact hi
  refine⟨bp,op,e,Aa,?_⟩;rw[c1,List.getElem?_eq_getElem Ez,getElem_map];rfl
 generalize El:q2o (btL s)=ws at *;obtain⟨M,B3⟩:∃M,M=w1.alloc (.cells #[.slice A ws.length V,.int .i64 0,.bool false] 68):=⟨_,rfl⟩;have Dr:Hid (Rd M w1.heap.size A V ws 0 false):=by rw[B3];exact y9f (q3t hS) (v8h hS)
 have Ds:Hid (M=w1.alloc (.cells #[.slice A ws.length V,.int .i64 0,.bool false] 68)):=B3;have Db:Below w1 w1 M:=by rw[B3];exact Zb.alloc Zl _
 have Bm:M.heap.size=w1.heap.size+1:=by rw[B3,World.size_alloc]
 have Az:Hid (∀wr,But M w1.heap.size M wr->∀i,i<ws.length->∃bp op,P=some ⟨bp,op,none⟩/\wr.cell? ⟨bp,op+i,none⟩=some (.int .i64 ((((z3j (btL s))[i]?).getD s.size:Nat):Int))):=fun wr hb i hi=>by
  obtain⟨bp,op,e,Aa,c1⟩:=D2 i hi;refine⟨bp,op,e,?_⟩;rw[hb.cell (p:=(bp,op+i)) (by show bp<_;omega) (by show bp≠_;omega),Db.cell (p:=(bp,op+i)) Aa];exact c1
 have Cc:Hid (∀wr,But M w1.heap.size M wr->Below W W wr):=fun wr hb=>by
  have J:=Cb.o.size;exact(Cb.o.trans (Db.mono J)).trans (hb.low (by omega) J)
 have Bu:Hid (∀q,ws.length<=q->(z3j (btL s))[q]?=none):=fun q hq=>List.getElem?_eq_none (by rw[<-z3m,El];exact hq)
 have B0:Hid (∀x∈ws,q3l x):=Ej;have Es:Hid (∀x∈ws,x.length<=60000):=Ek;have Bc:Hid (M.heap.size=w1.heap.size+1):=Bm;generalize Eu:z3j (btL s)=pl at Ay Az Bu;clear hS hP h0 Ej Ek D2 El B3 Db Bm Cb Eu;go_wp2_with fail;rw[<-Ds.o];generalize w1.heap.size=b at Dr Az Cc Bc⊢;clear Ds
 go_loopw [10] (fun x wr=>∃(q:Nat)(C7:Bool)(B:List (List Td))(d:Option Addr)(N:Nat),x=.slice d B.length N/\PAt b A V ws M q C7 B (.slice d B.length N) wr) (fun _ wr=>2*(ws.length-y9e wr b)+g1b wr b)
 case atStart=>exact⟨0,false,[],none,0,rfl,y5a Dr.o⟩
 case round=>
  obtain⟨q,C7,B,d,N,rfl,hV⟩:=hrel;have I:=hid hV;have d1:=hV.rd.c1;have d2:=hV.rd.c2;have B9:=hV.le;have Fj:wr.frozen? (b,1)=false:=hV.rd.row.frozen;have Fk:wr.frozen? (b,2)=false:=hV.rd.row.frozen;have B4:b<wr.heap.size:=hV.rd.row.lt;have Cm:=hV.bt.size;have E3:=hV.len;have A3:Hid (Below W W wr):=Cc.o wr hV.bt;generalize Bi:B.length=al at E3;have Ah:Hid (B.length=al):=Bi;clear hV Bi;cases C7 with
  | true=>
   have Am:=Ay.o q B9 (I.o.bd rfl);have Aj:=hid Am;clear Am;by_cases Ck:q<ws.length
   ·have Eg:(q:Int)<(ws.length:Int):=by omega
    obtain⟨bp,op,rfl,Dc⟩:=Az.o wr I.o.bt q Ck
    generalize(((pl[q]?).getD s.size:Nat):Int)=K at Aj Dc
    go_wp2_with fail
    go_quiet (fail)
    go_wp2;refine bodyPost_ret (v:=.tuple #[.slice none 0 0,K,.int .i64 5]) (by simp[results,Tryz.results11,go_sem]) rfl ?_;exact q5b Aj.o (q0f A3.o _)
   ·have Eg:¬(q:Int)<(ws.length:Int):=by omega
    have Av:pl[q]?=none:=Bu.o q (by omega);rw[Av]at Aj;go_wp2;refine bodyPost_ret (v:=.tuple #[.slice none 0 0,(s.size:Int),.int .i64 5]) (by simp[results,Tryz.results11,go_sem]) rfl ?_;exact q5b Aj.o A3.o
  | false=>
   by_cases Ag:q<ws.length
   ·have E6:(q:Int)<(ws.length:Int):=by omega
    obtain⟨y,oa,eA,Fr,dq⟩:=I.o.rd.wd q (by rw[length_map];exact Ag);subst eA;rw[getElem_map]at dq;have Dh:=B0.o _ (getElem_mem Ag);have Di:=Es.o _ (getElem_mem Ag)
    have Bj:ws[q]≠[]:=by
     obtain⟨x,r,e,_⟩:=Dh;rw[e];simp
    generalize hX:wbS ws[q]=X at dq;have HX:Hid (wbS ws[q]=X):=hX;obtain⟨Em,Cn⟩:=y6b hX Bj;have Fl:(0:Int)<(X.size:Int):=by omega
    have Co:X.size<=60000:=by rw[<-hX,q1m];exact Di
    by_cases Be:ws[q].headD 0=35
    ·have Cr:X[0]=35:=(Cn Em).trans Be;have Bo:Hid (ws[q].headD 0=35):=Be
     have Dl:Hid (Cp 23 #[.string (X.extract 1 X.size)] (wr.setCell ↑(b,1) ↑((q:Int)+1)) fun e w'=>(∃A1 c1,e=.returned (.slice A1 (q0d (ws[q].drop 1)).length c1)/\Wds w' A1 ((q0d (ws[q].drop 1)).map wbS))/\Rd w' b (some ↑(y,oa)) V ws (q+1) false/\But M b M w'/\q4f (b+1) (.slice d al N) B w'/\wr.heap.size<=w'.heap.size):=by
      have J:=q4d (X.extract 1 X.size) (wr.setCell ↑(b,1) ↑((q:Int)+1)) (by rw[ByteArray.size_extract];omega);rw[y5r HX.o]at J;have h2:=I.o.rd.setAt (q+1);rw[show((q+1:Nat):Int)=(q:Int)+1 by omega]at h2;have h3:But wr b wr (wr.setCell ↑(b,1) ↑((q:Int)+1)):=(But.refl _ _ _).setCell (p:=↑(b,1)) (.inl rfl) _;have h4:(wr.setCell ↑(b,1) ↑((q:Int)+1)).heap.size=wr.heap.size:=by rw[World.size_setCell]
      rw[h4]at J;refine J.mono ?_;rintro e w'⟨⟨A1,c1,rfl,h5⟩,h6⟩;have h7:But wr b wr w':=h3.trans (But.of h6);refine⟨⟨A1,c1,rfl,q3t h5⟩,h2.keepB h6 B4,I.o.bt.trans (h7.mono Cm),?_,h7.size⟩;have h8:=I.o.o.but h7 (by omega);rw[Ah.o]at h8;exact h8
     clear hX Cn Be Bj Dh Di;go_wp2_with fail;refine Dl.o.mono ?_;rintro e w3⟨⟨A1,Fo,rfl,D6⟩,Ci,Dx,D0,Fy⟩;have Dp:=hid Ci;have Dk:=hid Dx;have Dm:Hid (q4f (b+1) (.slice d al N) B w3):=D0;have C5:=hid D6;have Fp:=Ci.c1;have Fq:=Ci.c2
     have Ai:Hid (∀k,(wbS (ntx ((q0d (ws[q].drop 1)).take k))).size<=60001):=fun k=>by
      have J:=v0i (ws[q].drop 1) k
      have h2:(ws[q].drop 1).length<=60000:=by
       have h3:(wbS ws[q]).size<=60000:=by rw[HX.o];exact Co
       rw[q1m]at h3;simp only[length_drop];omega
      show(wbS _).size<=_
      rw[q1m];omega
     have C6:Hid (ntx ((q0d (ws[q].drop 1)).take (q0d (ws[q].drop 1)).length)=q1c ws[q]):=by
      show _=_;rw[List.take_length];rfl
     have Cx:Hid (∀j(h:j<(q0d (ws[q].drop 1)).length),(wbS (q0d (ws[q].drop 1))[j]).size<=60001):=fun j h=>by
      have J:=v0d (getElem_mem h);have h3:(wbS ws[q]).size<=60000:=by rw[HX.o];exact Co
      rw[q1m]at h3;simp only[length_drop]at J;rw[q1m];omega
     have Ec:(q0d (ws[q].drop 1)).length<=60001:=by
      have J:=v0c (ws[q].drop 1);have h3:(wbS ws[q]).size<=60000:=by rw[HX.o];exact Co
      rw[q1m]at h3;simp only[length_drop]at J;omega
     clear D6 Ci Dx D0 Dl;generalize q0d (ws[q].drop 1)=nl at C5 Ai C6 Cx Ec⊢;go_wp2_with fail
     go_loopw [12,14] (fun t i wx=>∃j:Nat,j<=nl.length/\i=(j:Int)/\t=.string (wbS (ntx (nl.take j)))/\Below w3 w3 wx) (fun _ i _=>nl.length-(intOf i).toNat)
     case atStart=>exact⟨0,Nat.zero_le _,rfl,rfl,Below.refl _ _⟩
     case round=>
      obtain⟨j,hj,rfl,rfl,D9⟩:=hrel;have Al:Hid (Below w3 w3 wr):=D9;clear D9;by_cases Df:j<nl.length
      ·have E2:(j:Int)<(nl.length:Int):=by omega
       obtain⟨b1,o1,e1,Da,dj⟩:=(Wds.W C5.o Al.o) j (by rw[length_map];exact Df);subst e1;rw[getElem_map]at dj
       have Bx:Hid (ntx (nl.take (j+1))=q6i (ntx (nl.take j)) nl[j]):=by
        show _=_;unfold ntx;rw[List.take_succ_eq_append_getElem Df,List.foldl_append];rfl
       have Cp:=Ai.o j;have Ff:=Cx.o j Df;generalize ntx (nl.take j)=T at Bx Cp⊢;generalize nl[j]=Y at Bx Ff dj;by_cases hy:Y=[]
       ·have HA:Hid (wbS T++wbS Y=wbS (q6i T Y)):=k5e fun h=>h.1 hy
        have Fe:=k7j hy;clear hy;generalize wbS T=TT at *;generalize wbS Y=YY at *;go_wp2
        go_roundw
        case rel=>exact⟨j+1,by omega,by go_num,by rw[Bx.o,<-HA.o],Al.o⟩
        case measure=>simp[intOf];omega
       ·have Fe:=v2y hy;by_cases ht:T=[]
        ·have HA:Hid (wbS T++wbS Y=wbS (q6i T Y)):=k5e fun h=>h.2 ht
         have Dg:=k7j ht;clear hy ht;generalize wbS T=TT at *;generalize wbS Y=YY at *;go_wp2
         go_roundw
         case rel=>exact⟨j+1,by omega,by go_num,by rw[Bx.o,<-HA.o],Al.o⟩
         case measure=>simp[intOf];omega
        ·have HA:Hid (wbS T++(⟨#[32]⟩:ByteArray)++wbS Y=wbS (q6i T Y)):=j4q ⟨hy,ht⟩;have Dg:=v2y ht;clear hy ht;generalize wbS T=TT at *;generalize wbS Y=YY at *;go_wp2
         go_roundw
         case rel=>exact⟨j+1,by omega,by go_num,by rw[Bx.o,<-HA.o],Al.o⟩
         case measure=>simp[intOf];omega
      ·have E2:¬(j:Int)<(nl.length:Int):=by omega
       have E1:j=nl.length:=by omega
       subst E1;have Cp:=Ai.o nl.length;rw[C6.o]at Cp⊢;have C8:=Dp.o.keep Al.o;have e1:wr.cell? (b,1)=some ↑((q:Int)+1):=C8.c1;have D1:q4f (b+1) (.slice d al N) B wr:=Dm.o.kept fun g J h2=>Al.o.block g h2
       have Dz:But M b M wr:=Dk.o.trans (But.of (Al.o.mono (by omega)));have Fz:w3.heap.size<=wr.heap.size:=Al.o.size;have Bw:=hid C8;have Ba:Hid (q4f (b+1) (.slice d al N) B wr):=D1;have Cv:=hid Dz;have Ar:Hid (∀A9 c9 n9 w9,q4f (b+1) (.slice A9 n9 c9) (z8n (q6n ws q) B (q1c ws[q])) w9->Rd w9 b (some ↑(y,oa)) V ws (q+1) false->But M b M w9->PAt b (some ↑(y,oa)) V ws M (q+1) false (z8n (q6n ws q) B (q1c ws[q])) (.slice A9 n9 c9) w9/\n9=(z8n (q6n ws q) B (q1c ws[q])).length):=fun A9 c9 n9 w9 J h2 h3=>⟨y8w I.o Ag Bo.o (by have h4:(wbS ws[q]).size<=60000:=by{rw[HX.o];exact Co};rw[q1m]at h4;exact h4) J h2 h3,J.cell.1⟩
       clear C8 D1 Dz Dp Dm Dk C5 Ai Cx C6;cases Aw:q6n ws q with
       | false=>
        rw[Aw]at Ar;generalize D5:wbS (q1c ws[q])=TX at Cp
        have Er:Hid (z8n false B (q1c ws[q])=B++[[⟨9,TX,0⟩]]):=by
         show z8n false B (q1c ws[q])=_;rw[<-D5];rfl
        rw[Er.o]at Ar;obtain⟨n1,n2,n3⟩:=v7a Ba.o (by omega) ⟨9,TX,0⟩;have N1:Hid (q4f (b+1) (.slice d al N) B ((wr.alloc (.cells #[.int .i64 9,.string TX,.int .i64 0] 71)).alloc (.cells #[.slice wr.heap.size 1 1] 59))):=n1;have N2:Hid (q1b (b+1) (.slice ↑wr.heap.size 1 1) [⟨9,TX,0⟩] ((wr.alloc (.cells #[.int .i64 9,.string TX,.int .i64 0] 71)).alloc (.cells #[.slice ↑wr.heap.size 1 1] 59))):=n2;have N3:Hid (((wr.alloc (.cells #[.int .i64 9,.string TX,.int .i64 0] 71)).alloc (.cells #[.slice ↑wr.heap.size 1 1] 59)).cell? ↑(wr.heap.size+1)=some (.slice ↑wr.heap.size 1 1)):=n3;clear n1 n2 n3 D5;by_cases Ed:q=0
        ·have Bl:¬(1:Int)<(q:Int)+1:=by omega
         have Ck:¬(0:Int)<(q:Int):=by omega
         clear Ed;go_wp2_with(at_builtin;refine z8q rfl _ _ rfl (b+1) _ B rfl N1.o (wr.heap.size+1) wr.heap.size 1 1 [⟨9,TX,0⟩] rfl rfl N3.o N2.o (al+1) (by rw[Ah.o]) (by omega) (by simp only[World.size_alloc];omega) ?_);intro A9 c9 w9 f Ae;have L:Below (b+1) wr w9:=((Zb.alloc (by omega) _).alloc (by simp only[World.size_alloc];omega) _).grown Ae (by simp only[World.size_alloc];omega) (fun k' hk=>Ba.o.own_le hk);obtain⟨Ac,B8⟩:=Ar.o A9 c9 _ w9 f (Bw.o.keepB L (by omega)) (Cv.o.trans (But.of (L.mono (by rw[Bc.o];exact Nat.le_refl _))));have C:=hid Ac;clear f Ae L Ac;go_wp2
         go_roundw
         case rel=>exact⟨q+1,false,_,A9,c9,by rw[<-B8],by rw[<-B8];exact C.o⟩
         case measure=>rw[C.o.rd.at_eq,C.o.rd.nb_eq,I.o.rd.at_eq,I.o.rd.nb_eq];simp;omega
        ·obtain⟨j0,De⟩:∃j0,q=j0+1:=⟨q-1,by omega⟩;have Af:j0<ws.length:=by omega
         have Bl:(1:Int)<(q:Int)+1:=by omega
         have Ck:(0:Int)<(q:Int):=by omega
         have E0:(q:Int)+1-2=(j0:Int):=by omega
         have Ea:(j0:Int)<(ws.length:Int):=by omega
         obtain⟨Du,Eo,ea,_,dz⟩:=Bw.o.wd j0 (by rw[length_map];exact Af);simp only[Option.some.injEq,Addr.mk.injEq,and_true]at ea;obtain⟨rfl,rfl⟩:=ea;rw[getElem_map]at dz
         have Aq:ws[j0]≠[]:=by
          obtain⟨x,r,e,_⟩:=B0.o _ (getElem_mem Af);rw[e];simp
         generalize hZ:wbS ws[j0]=Z at dz;obtain⟨Dj,Ca⟩:=y6b hZ Aq;have En:(0:Int)<(Z.size:Int):=by omega
         have Bk:(ws[j0].headD 0==35)=false:=by rw[<-z1e Af,<-De];exact Aw
         have Cs:¬Z[0]=35:=by
          rw[Ca Dj];intro e;rw[e]at Bk;cases Bk
         have Fg:¬Z[0].toNat=35:=fun e=>Cs (UInt8.toNat_inj.1 e)
         have Fh:¬(Z[0].toNat:Int)=35:=by omega
         clear Ca Bk Aq hZ;go_wp2_with(at_builtin;refine z8q rfl _ _ rfl (b+1) _ B rfl N1.o (wr.heap.size+1) wr.heap.size 1 1 [⟨9,TX,0⟩] rfl rfl N3.o N2.o (al+1) (by rw[Ah.o]) (by omega) (by simp only[World.size_alloc];omega) ?_);intro A9 c9 w9 f Ae;have L:Below (b+1) wr w9:=((Zb.alloc (by omega) _).alloc (by simp only[World.size_alloc];omega) _).grown Ae (by simp only[World.size_alloc];omega) (fun k' hk=>Ba.o.own_le hk);obtain⟨Ac,B8⟩:=Ar.o A9 c9 _ w9 f (Bw.o.keepB L (by omega)) (Cv.o.trans (But.of (L.mono (by rw[Bc.o];exact Nat.le_refl _))));have C:=hid Ac;clear f Ae L Ac;go_wp2
         go_roundw
         case rel=>exact⟨q+1,false,_,A9,c9,by rw[<-B8],by rw[<-B8];exact C.o⟩
         case measure=>rw[C.o.rd.at_eq,C.o.rd.nb_eq,I.o.rd.at_eq,I.o.rd.nb_eq];simp;omega
       | true=>
        rw[Aw]at Ar;have Ed:q≠0:=fun e=>by rw[e]at Aw;cases Aw
        obtain⟨j0,De⟩:∃j0,q=j0+1:=⟨q-1,by omega⟩;have Af:j0<ws.length:=by omega
        have Bl:(1:Int)<(q:Int)+1:=by omega
        have Ck:(0:Int)<(q:Int):=by omega
        have E0:(q:Int)+1-2=(j0:Int):=by omega
        have Ea:(j0:Int)<(ws.length:Int):=by omega
        obtain⟨Du,Eo,ea,_,dz⟩:=Bw.o.wd j0 (by rw[length_map];exact Af);simp only[Option.some.injEq,Addr.mk.injEq,and_true]at ea;obtain⟨rfl,rfl⟩:=ea;rw[getElem_map]at dz
        have Aq:ws[j0]≠[]:=by
         obtain⟨x,r,e,_⟩:=B0.o _ (getElem_mem Af);rw[e];simp
        generalize hZ:wbS ws[j0]=Z at dz;obtain⟨Dj,Ca⟩:=y6b hZ Aq;have En:(0:Int)<(Z.size:Int):=by omega
        have Bk:(ws[j0].headD 0==35)=true:=by rw[<-z1e Af,<-De];exact Aw
        have Cs:Z[0]=35:=by
         rw[Ca Dj];simpa using Bk
        clear Ca Bk Aq hZ;obtain⟨D,x,Et,F0⟩:=I.o.last rfl Aw;subst Et;obtain⟨go,g,cx,eA,Ex,A0,dk,hT⟩:=Ba.o.cell.2.2.2 D.length (by simp);subst eA;rw[List.getElem_append_right Zl]at dk hT;simp only[Nat.sub_self,List.getElem_cons_zero,List.length_singleton]at dk hT;obtain⟨g',o',eg,Fv,_,t2,_⟩:=hT.tds 0 (by simp);simp only[Option.some.injEq,Addr.mk.injEq,and_true]at eg;obtain⟨rfl,rfl⟩:=eg;simp only[List.getElem_cons_zero,Nat.zero_mul,Nat.zero_add]at t2;have Fu:wr.frozen? (go,D.length)=false:=A0.frozen;have Dd:go<wr.heap.size:=A0.lt;have Ft:∀o:Obj,(wr.alloc o).frozen? (go,D.length)=false:=fun o=>(A0.kept (((Below.refl wr.heap.size wr).alloc Zl o).block go Dd)).frozen
        have Fs:∀o:Obj,(wr.alloc o).cell? (go,D.length)=some (.slice g 1 cx):=fun o=>(((Below.refl wr.heap.size wr).alloc Zl o).cell (p:=(go,D.length)) Dd).trans dk
        have Bi:al=D.length+1:=by rw[<-Ah.o];simp
        have hk:(al:Int)-1=(D.length:Int):=by omega
        have Fw:(D.length:Int)<(al:Int):=by omega
        have U:Hid (∀R,R=wbS (q6i (btL x.tx) (q1c ws[q]))->PAt b (some ↑(y,oa)) V ws M (q+1) false (D++[[⟨9,R,0⟩]]) (.slice go al N) ((wr.setCell (go,D.length) (.slice wr.heap.size 1 1)).alloc (.cells #[.int .i64 9,.string R,.int .i64 0] 71))/\(D++[[(⟨9,R,0⟩:Td)]]).length=al):=fun R hR=>by
         have J:z8n true (D++[[x]]) (q1c ws[q])=D++[[⟨9,R,0⟩]]:=by
          show(D++[[x]]).dropLast++[[ntT (q6i (q5u (D++[[x]])) (q1c ws[q]))]]=_
          have e:q5u (D++[[x]])=btL x.tx:=by simp[q5u]
          rw[e,hR];simp[ntT]
         have h2:=Ar.o go N al ((wr.alloc (.cells #[.int .i64 9,.string R,.int .i64 0] 71)).setCell (go,D.length) (.slice wr.heap.size 1 1));rw[J]at h2;have L:Below (b+1) wr ((wr.alloc (.cells #[.int .i64 9,.string R,.int .i64 0] 71)).setCell (go,D.length) (.slice wr.heap.size 1 1)):=(Zb.alloc (by omega) _).setCell (p:=(go,D.length)) Ex _;have h3:q4f (b+1) (.slice go al N) (D++[[x]]) (wr.alloc (.cells #[.int .i64 9,.string R,.int .i64 0] 71)):=Ba.o.kept fun k _ h4=>((Below.refl wr.heap.size wr).alloc Zl _).block k h4
         obtain⟨h5,h6⟩:=h2 (h3.last ((q1b.one wr ⟨9,R,0⟩).down (by omega))) (Bw.o.keepB L (by omega)) (Cv.o.trans (But.of (L.mono (by rw[Bc.o];exact Nat.le_refl _))));rw[World.setCell_alloc_past _ _ _ _ Dd]at h5;exact⟨h5,h6.symm⟩
        have C9:(wbS (q1c ws[q])).size=(q1c ws[q]).length:=q1m _;have A2:(btL x.tx).length=x.tx.size:=q0c _;have Fd:wbS (btL x.tx)=x.tx:=rfl;have HY:Hid (q1c ws[q]≠[]/\btL x.tx≠[]->x.tx++(⟨#[32]⟩:ByteArray)++wbS (q1c ws[q])=wbS (q6i (btL x.tx) (q1c ws[q]))):=fun h=>j4q h
        have HN:Hid (¬(q1c ws[q]≠[]/\btL x.tx≠[])->x.tx++wbS (q1c ws[q])=wbS (q6i (btL x.tx) (q1c ws[q]))):=fun h=>k5e h
        clear Ba Ar hT A0 Fd;have Fm:x.tx.size<=4000000000:=by omega
        by_cases Ax:btL x.tx=[]
        ·have Fc:¬(0:Int)<(x.tx.size:Int):=by rw[<-A2,Ax];simp
         have HE:=(show Hid (_=_)from HN.o fun h=>h.2 Ax);clear HY HN Ax C9 A2;generalize wbS (q6i (btL x.tx) (q1c ws[q]))=RR at HE U;generalize wbS (q1c ws[q])=TX at *;have C:=hid (U.o _ HE.o);clear U;go_wp2
         go_roundw
         case rel=>exact⟨q+1,false,_,some ↑go,N,by rw[C.o.2,Bi],by rw[C.o.2];exact C.o.1⟩
         case measure=>rw[C.o.1.rd.at_eq,C.o.1.rd.nb_eq,I.o.rd.at_eq,I.o.rd.nb_eq];simp;omega
        ·have Fc:(0:Int)<(x.tx.size:Int):=by
          have:=List.length_pos_iff.2 Ax
          omega
         by_cases Bn:q1c ws[q]=[]
         ·have Dg:=k7j Bn;have HE:=(show Hid (_=_)from HN.o fun h=>h.1 Bn);clear HY HN Ax C9 A2 Bn;generalize wbS (q6i (btL x.tx) (q1c ws[q]))=RR at HE U;generalize wbS (q1c ws[q])=TX at *;have C:=hid (U.o _ HE.o);clear U;go_wp2
          go_roundw
          case rel=>exact⟨q+1,false,_,some ↑go,N,by rw[C.o.2,Bi],by rw[C.o.2];exact C.o.1⟩
          case measure=>rw[C.o.1.rd.at_eq,C.o.1.rd.nb_eq,I.o.rd.at_eq,I.o.rd.nb_eq];simp;omega
         ·have Dg:=v2y Bn;have HE:=(show Hid (_=_)from HY.o ⟨Bn,Ax⟩);clear HY HN Ax C9 A2 Bn;generalize wbS (q6i (btL x.tx) (q1c ws[q]))=RR at HE U;generalize wbS (q1c ws[q])=TX at *;have C:=hid (U.o _ HE.o);clear U;go_wp2
          go_roundw
          case rel=>exact⟨q+1,false,_,some ↑go,N,by rw[C.o.2,Bi],by rw[C.o.2];exact C.o.1⟩
          case measure=>rw[C.o.1.rd.at_eq,C.o.1.rd.nb_eq,I.o.rd.at_eq,I.o.rd.nb_eq];simp;omega
    ·have Cr:¬X[0]=35:=fun e=>Be ((Cn Em).symm.trans e)
     have Fa:¬X[0].toNat=35:=fun e=>Cr (UInt8.toNat_inj.1 e)
     have Fb:¬(X[0].toNat:Int)=35:=by omega
     have Bo:Hid (¬ws[q].headD 0=35):=Be;have Ce:Hid (ws.drop q=ws[q]::ws.drop (q+1)):=List.drop_eq_getElem_cons Ag
     have A7:Hid (Cp 24 #[.pointer b,.string ⟨#[108,101,116]⟩] (wr.alloc (.cells #[.int .i64 8,.string ⟨#[]⟩,.int .i64 0] 71)) fun e w'=>e=.returned (.bool (!false&&(ws[q]?==some q9n)))/\Rd w' b (some ↑(y,oa)) V ws q false/\But wr b wr w'/\q1b wr (.slice wr.heap.size 1 1) [doT] w'/\wr.heap.size<w'.heap.size):=by
      have J:Below wr wr (wr.alloc (.cells #[.int .i64 8,.string ⟨#[]⟩,.int .i64 0] 71)):= Zb.alloc Zl _;refine(z2v (I.o.rd.keep J) q9n).mono ?_;rintro e w'⟨rfl,q',rfl⟩;have h2:Below (wr.alloc (.cells #[.int .i64 8,.string ⟨#[]⟩,.int .i64 0] 71)).heap.size (wr.alloc (.cells #[.int .i64 8,.string ⟨#[]⟩,.int .i64 0] 71)) ((wr.alloc (.cells #[.int .i64 8,.string ⟨#[]⟩,.int .i64 0] 71)).drewN q'):=q0f Zb q';refine⟨rfl,(I.o.rd.keep J).keep h2,But.of (J.trans (h2.mono (by rw[World.size_alloc];omega))),(q1b.one wr doT).kept fun g _ h3=>h2.block g h3,?_⟩;show wr.heap.size<(wr.alloc _).heap.size;rw[World.size_alloc];omega
     clear hX Cn Be Bj Dh Di;cases Aa:(!false&&(ws[q]?==some q9n))with
     | false=>
      rw[Aa]at A7
      have Ak:ws[q]≠q9n:=fun e=>by
       rw[List.getElem?_eq_getElem Ag,e]at Aa;exact absurd Aa (by decide)
      have Cg:Hid (∀{w3 w4 w7:World}{r:Rs}{ns:List Td}{v4 v7:Value},Got b (some ↑(y,oa)) V ws (.level 0) q w3 r ns v4 w4->Rd w7 b (some ↑(y,oa)) V ws (q1q ws (ws.length-r.rest.length) r.isBad [59]) (q0y ws (ws.length-r.rest.length) r.isBad [59])->q4f (b+1) v7 (B++[doT::ns]) w7->But M b M w7->_):=fun J h2 h3 h4=>y1l I.o Zl B9 (by decide) J
       (fun u h=>by rw[Ce.o]at h⊢;exact .doB Bo.o Ak h) (fun m ms u h h5=>by rw[Ce.o]at h⊢;exact .doX Bo.o Ak h h5) (fun m ms u r h h5=>by rw[Ce.o]at h⊢;exact .doO Bo.o Ak h h5) h2 h3 h4
      clear Aa Ak;go_wp2_with fail;refine A7.o.mono ?_;rintro e l⟨rfl,z,Bg,Cj,Bm⟩;have A8:Hid (Cp 27 #[.pointer b,.int .i64 0] l fun e w'=>∃r ns d N,e=.returned (.slice d ns.length N)/\Got b (some ↑(y,oa)) V ws (.level 0) q l r ns (.slice d ns.length N) w'):=k2q hl B0.o B9 l z;have Ab:Hid (But wr b wr l):=Bg;have Bd:Hid (q1b wr (.slice wr.heap.size 1 1) [doT] l):=Cj;clear z Bg Cj A7;go_wp2_with fail;refine A8.o.mono ?_;rintro e w4⟨r4,G,A4,c4,rfl,H⟩;have Cz:Hid (Got b (some ↑(y,oa)) V ws (.level 0) q l r4 G (.slice A4 G.length c4) w4):=H;have Ev:b<w4.heap.size:=H.rd.row.lt;have B1:Hid (Cp 26 #[.pointer b,.string ⟨#[59]⟩] w4 fun e w'=>(∃v,e=.returned v)/\Rd w' b (some ↑(y,oa)) V ws (q1q ws (ws.length-r4.rest.length) r4.isBad [59]) (q0y ws (ws.length-r4.rest.length) r4.isBad [59])/\But w4 b w4 w'):=q8i H.rd hl (by omega) [59];have B7:=H.n;rw[q0m (by omega)]at B7;have E7:=H.bt.size;have Ct:Hid (But wr b wr w4):=Ab.o.trans (H.bt.mono (by omega));have By:Hid (q1b wr (.slice wr.heap.size 1 1) [doT] w4):=Bd.o.but H.bt B4;have Bv:Hid (q1b l (.slice A4 G.length c4) G w4):=H.o;have Bt:Hid (A4=none->G.length=0/\c4=0):=H.o.none.2;generalize Ak:G.length=n4 at B7 Bt;have Ai:Hid (G.length=n4):=Ak;clear H Ak A8;go_wp2_with fail;refine B1.o.mono ?_;rintro e w5⟨⟨vv,rfl⟩,B2,Ad⟩;have E8:=Ad.size;have Bz:Hid (q1b wr (.slice wr.heap.size 1 1) [doT] w5):=By.o.but Ad B4;have Cw:Hid (Tds w5 A4 G):=(Bv.o.but Ad (by omega)).tds;have Cu:Hid (But wr b wr w5):=Ct.o.trans (Ad.mono (by omega));have C4:Hid (Rd w5 b (some ↑(y,oa)) V ws (q1q ws (ws.length-r4.rest.length) r4.isBad [59]) (q0y ws (ws.length-r4.rest.length) r4.isBad [59])):=B2;clear Ad B2 B1 By Bv Bd;go_wp2_with(at_builtin;refine q4l rfl _ _ rfl wr.heap.size _ [doT] rfl Bz.o A4 n4 G Ai.o c4 rfl Cw.o Bt.o (1+n4) rfl (by omega) (by omega) ?_);intro A6 c6 O Q c;have a:Below wr w5 O:= Zb.grown c (by omega) (fun k' hk=>(World.ownsRow.lt Bz.o k' hk).1);have Cl:=a.size;obtain⟨g6,eg⟩:=z1p Q;subst eg;have Bq:Hid (But wr b wr O):=Cu.o.trans (But.of a)
      have At:q4f (b+1) (.slice d al N) B O:=by
       have h8:=I.o.o.but Bq.o (by omega);rw[Ah.o]at h8;exact h8
      have C2:Hid (q4f (b+1) (.slice d al N) B O):=At;obtain⟨n1,n2,n3⟩:=k0j At (Q.down (show b+1<=wr.heap.size by omega));have N1:=(show Hid (q4f (b+1) (.slice d al N) B (O.alloc (.cells #[.slice g6 (1+n4) c6] 59)))from n1);have N2:=(show Hid (q1b (b+1) (.slice g6 (1+n4) c6) (doT::G) (O.alloc (.cells #[.slice g6 (1+n4) c6] 59)))from n2);have N3:=(show Hid ((O.alloc (.cells #[.slice g6 (1+n4) c6] 59)).cell? O.heap.size=some (.slice g6 (1+n4) c6))from n3)
      have C0:Hid ((doT::G).length=1+n4):=by
       show _=_;rw[length_cons,Ai.o];omega
      have Bp:Hid (Below wr w5 O):=a;clear Q c At n1 n2 n3 a;go_wp2_with(at_builtin;refine z8q rfl _ _ rfl (b+1) _ B rfl N1.o O.heap.size g6 (1+n4) c6 (doT::G) C0.o rfl N3.o N2.o (al+1) (by rw[Ah.o]) (by omega) (by simp only[World.size_alloc];omega) ?_);intro A9 c9 w9 f Ae;have L:Below (b+1) O w9:=(Zb.alloc (by omega) _).grown Ae (by simp only[World.size_alloc];omega) (fun k' hk=>C2.o.own_le hk);have Ao:Below (b+1) w5 w9:=(Bp.o.mono (by omega)).trans L;have Ap:But M b M w9:=(I.o.bt.trans (Bq.o.mono Cm)).trans (But.of (L.mono (by rw[Bc.o];exact Nat.le_refl _)));obtain⟨Ac,B6⟩:=Cg.o Cz.o (C4.o.keepB Ao (by omega)) f Ap;have B5:=f.cell.1;have C:=hid Ac;have C1:=hid B6;have Bs:=(show Hid (_=_)from B5);clear f Ae L Ao Ap Ac B6 B5;go_wp2
      go_roundw
      case rel=>exact⟨_,_,_,A9,c9,by rw[<-Bs.o],by rw[<-Bs.o];exact C.o⟩
      case measure=>rw[C.o.rd.at_eq,C.o.rd.nb_eq,I.o.rd.at_eq,I.o.rd.nb_eq];exact C1.o
     | true=>
      rw[Aa]at A7
      have Eb:ws[q]=q9n:=by
       rw[List.getElem?_eq_getElem Ag]at Aa;simpa using Aa
      have A5:Hid (ws.drop q=q9n::ws.drop (q+1)):=by
       show _=_;rw[Ce.o,Eb]
      clear Aa Eb;go_wp2_with fail;refine A7.o.mono ?_;rintro e l⟨rfl,z,Bg,Cj,Bm⟩;have e1:=z.c1;have e2:=z.c2;have g1:l.frozen? (b,1)=false:=z.row.frozen;have g2:l.frozen? ↑(b,2)=false:=z.row.frozen;have An:b<l.heap.size:=z.row.lt
      have Ew:y≠b:=by
       have:=z.lt y oa rfl
       omega
      have Ee:((q+1:Nat):Int)=(q:Int)+1:=by omega
      have D3:Rd (l.setCell ↑(b,1) ↑((q:Int)+1)) b (some ↑(y,oa)) V ws (q+1) false:=by
       have J:=z.setAt (q+1);rw[Ee]at J;exact J
      have D7:But M b M (l.setCell ↑(b,1) ↑((q:Int)+1)):=(I.o.bt.trans (Bg.mono Cm)).setCell (p:=↑(b,1)) (.inl rfl) _;have Ch:Hid (But M b M ((l.setCell ⟨b,1,none⟩ (.int .i64 ((q:Int)+1))).setCell ⟨b,2,none⟩ (.bool true))):=D7.setCell (p:=⟨b,2,none⟩) (.inl rfl) _;have Dq:=(show Hid (Rd (l.setCell ↑(b,1) ↑((q:Int)+1)) b (some ↑(y,oa)) V ws (q+1) false)from D3);have Ab:Hid (But wr b wr l):=Bg;have Do:=(show Hid (Rd l b (some ↑(y,oa)) V ws q false)from z);clear Bg Cj A7 D3 D7 z;by_cases Bl:q+1<ws.length
      ·have Ef:(q:Int)+1<(ws.length:Int):=by omega
       obtain⟨Du,Eo,ea,Fi,dn⟩:=Do.o.wd (q+1) (by rw[length_map];exact Bl);simp only[Option.some.injEq,Addr.mk.injEq,and_true]at ea;obtain⟨rfl,rfl⟩:=ea;rw[getElem_map]at dn;have Br:Hid (ws.drop (q+1)=ws[q+1]::ws.drop (q+2)):=List.drop_eq_getElem_cons Bl;have As:Hid (∀w',Cp 25 #[.string (wbS ws[q+1])] w' fun e w''=>e=.returned (.bool (nmW ws[q+1]))/\w'=w''):=fun w'=>q1g _ w'
       cases Au:nmW ws[q+1]with
       | false=>
        rw[Au]at As;have Bb:Hid (PG false [] ws (.bad (ws.drop (q+1)))):=I.o.ok rfl _ (by rw[A5.o];exact .letN (fun w h=>by rw[Br.o]at h;cases h;exact Au));clear Au;generalize wbS ws[q+1]=X1 at dn As;go_wp2_with fail;refine(As.o _).mono ?_;rintro e w3⟨rfl,rfl⟩;have Am:=Ay.o (q+1) (by omega) Bb.o;have Aj:=hid Am;clear Am;obtain⟨bp,op,rfl,Dc⟩:=Az.o _ Ch.o (q+1) Bl
        generalize(((pl[q+1]?).getD s.size:Nat):Int)=K at Aj Dc
        go_wp2_with fail
        go_quiet (fail)
        go_wp2;refine bodyPost_ret (v:=.tuple #[.slice none 0 0,K,.int .i64 5]) (by simp[results,Tryz.results11,go_sem]) rfl ?_;exact q5b Aj.o (q0f (Cc.o _ Ch.o) _)
       | true=>
        rw[Au]at As;have Cq:(wbS ws[q+1]).size<=8:=j9c Au;generalize D8:wbS ws[q+1]=X1 at dn As Cq
        have Ep:Hid (j2b ws[q+1]=⟨7,X1,0⟩):=by
         show _=_;rw[<-D8];rfl
        have Cf:Hid (nmW ws[q+1]=true):=Au;clear Au D8;go_wp2_with fail;refine(As.o _).mono ?_;rintro e w3⟨rfl,rfl⟩;go_wp2_with fail
        have Dt:Hid (Cp 26 #[.pointer ↑b,.string ⟨#[61]⟩] (((l.setCell ↑(b,1) ↑((q:Int)+1)).setCell ↑(b,1) ↑((q:Int)+1+1)).alloc (.cells #[.int .i64 7,.string X1,.int .i64 0] 71)) fun e w'=>(∃v,e=.returned v)/\Rd w' b (some ↑(y,oa)) V ws (q1q ws (q+2) false [61]) (q0y ws (q+2) false [61])/\But wr b wr w'/\q1b wr (.slice ↑l.heap.size 1 1) [⟨7,X1,0⟩] w'/\wr.heap.size<w'.heap.size):=by
         have J:=Dq.o.setAt (q+2);rw[show((q+2:Nat):Int)=(q:Int)+1+1 by omega]at J;have Dv:But wr b wr ((l.setCell ↑(b,1) ↑((q:Int)+1)).setCell ↑(b,1) ↑((q:Int)+1+1)):=(Ab.o.setCell (p:=↑(b,1)) (.inl rfl) _).setCell (p:=↑(b,1)) (.inl rfl) _;have Ei:((l.setCell ↑(b,1) ↑((q:Int)+1)).setCell ↑(b,1) ↑((q:Int)+1+1)).heap.size=l.heap.size:=by rw[World.size_setCell,World.size_setCell]
         generalize(l.setCell ↑(b,1) ↑((q:Int)+1)).setCell ↑(b,1) ↑((q:Int)+1+1)=S at J Dv Ei⊢
         have h3:=J.keep (Zb.alloc Zl (.cells #[.int .i64 7,.string X1,.int .i64 0] 71));have h4:But wr b wr (S.alloc (.cells #[.int .i64 7,.string X1,.int .i64 0] 71)):=Dv.alloc (by omega) _;have h5:=q1b.one S ⟨7,X1,0⟩;rw[Ei]at h5;refine(q8i h3 hl (by omega) [61]).mono ?_;rintro e w'⟨hv,hR,hB⟩;have E9:=hB.size;rw[World.size_alloc]at E9;exact⟨hv,hR,h4.trans (hB.mono (by rw[World.size_alloc];omega)),(h5.but hB An).down (by omega),by omega⟩
        have Fn:=(show Hid (PAt b (some ↑(y,oa)) V ws M q false B (.slice d B.length N) wr)from I.o);refine Dt.o.mono ?_;rintro e O⟨⟨F1,rfl⟩,Bh,Dy,D4,Cl⟩;clear e1 e2 g1 g2 An Ew dn Dq Ch Ab Do As Dt Bm;have Bm:=Cl;have Ab:Hid (But wr b wr O):=Dy;have Bd:Hid (q1b wr (.slice l.heap.size 1 1) [⟨7,X1,0⟩] O):=D4;clear Dy D4 Cl;generalize l.heap.size=gx at Bd⊢;by_cases Bf:ws[q+2]?=some ([61]:Wd)
        case' pos=>
         obtain⟨a1,a2⟩:=j0q Bf;rw[a1,a2]at Bh;obtain⟨E4,Dw⟩:=List.getElem?_eq_some_iff.1 Bf
         have Cd:Hid (ws.drop q=q9n::ws[q+1]::[61]::ws.drop (q+3)):=by
          show _=_;rw[A5.o,Br.o,List.drop_eq_getElem_cons E4,Dw]
         have Cg:Hid (∀{w3 w4 w7:World}{r:Rs}{ns:List Td}{v4 v7:Value},Got b (some ↑(y,oa)) V ws (.level 0) (q+3) w3 r ns v4 w4->Rd w7 b (some ↑(y,oa)) V ws (q1q ws (ws.length-r.rest.length) r.isBad [59]) (q0y ws (ws.length-r.rest.length) r.isBad [59])->q4f (b+1) v7 (B++[⟨7,X1,0⟩::ns]) w7->But M b M w7->_):=fun J h2 h3 h4=>y1l I.o (show q<=q+3 by omega) (show q+3<=ws.length by omega) Cq J
          (fun u h=>by rw[Cd.o];exact .letB Cf.o h) (fun m ms u h h5=>by rw[Cd.o];exact .letX Cf.o h h5) (fun m ms u r h h5=>by rw[Cd.o];exact .letO Cf.o h (by rw[Ep.o];exact h5)) h2 h3 h4
         have A8:Hid (Cp 27 #[.pointer b,.int .i64 0] O fun e w'=>∃r ns d N,e=.returned (.slice d ns.length N)/\Got b (some ↑(y,oa)) V ws (.level 0) (q+3) O r ns (.slice d ns.length N) w'):=k2q hl B0.o (by omega) O Bh;clear Bh a1 a2 Bf Dw A5 Br Cd
        case' neg=>
         obtain⟨a1,a2⟩:=v2w Bf;rw[a1,a2]at Bh
         have Bb:Hid (PG (q6n ws q) B (ws.drop q) (.bad (ws.drop (q+2)))):=by
          show PG _ _ _ _;rw[A5.o,Br.o];exact .letE Cf.o (by rw[q5l];exact Bf)
         have Cg:Hid (∀{w3 w4 w7:World}{r:Rs}{ns:List Td}{v4 v7:Value},g1i b (some ↑(y,oa)) V ws (q+2) w3 r ns v4 w4->Rd w7 b (some ↑(y,oa)) V ws (q1q ws (ws.length-r.rest.length) r.isBad [59]) (q0y ws (ws.length-r.rest.length) r.isBad [59])->q4f (b+1) v7 (B++[⟨7,X1,0⟩::ns]) w7->But M b M w7->_):=fun J h2 h3 h4=>y8v I.o (show q<q+2 by omega) (show q+2<=ws.length by omega) J Bb.o h2 h3 h4
         have A8:Hid (Cp 27 #[.pointer b,.int .i64 0] O fun e w'=>∃r ns d N,e=.returned (.slice d ns.length N)/\g1i b (some ↑(y,oa)) V ws (q+2) O r ns (.slice d ns.length N) w'):=by
          refine(z7k Bh).mono ?_;rintro e w'⟨rfl,hR,hB⟩;refine⟨.bad (ws.drop (q+2)),[],none,0,rfl,⟨q1b.nil _ _,?_,?_,hB,rfl,rfl⟩⟩
          ·show 0+(ws.drop (q+2)).length<=_;omega
          ·show Rd w' b _ V ws (ws.length-(ws.drop (q+2)).length) true;rw[q0m (by omega),show ws.length-(ws.length-(q+2))=q+2 by omega];exact hR
         clear Bh a1 a2 Bf A5 Br Bb
        all_goals
         go_wp2_with fail;refine A8.o.mono ?_;rintro e w4⟨r4,G,A4,c4,rfl,H⟩;have Cz:=hid H;have Ev:b<w4.heap.size:=H.rd.row.lt;have B1:Hid (Cp 26 #[.pointer b,.string ⟨#[59]⟩] w4 fun e w'=>(∃v,e=.returned v)/\Rd w' b (some ↑(y,oa)) V ws (q1q ws (ws.length-r4.rest.length) r4.isBad [59]) (q0y ws (ws.length-r4.rest.length) r4.isBad [59])/\But w4 b w4 w'):=q8i H.rd hl (by omega) [59];have B7:=H.n;rw[q0m (by omega)]at B7;have E7:=H.bt.size;have Ct:Hid (But wr b wr w4):=Ab.o.trans (H.bt.mono (by omega));have By:Hid (q1b wr (.slice gx 1 1) [(⟨7,X1,0⟩:Td)] w4):=Bd.o.but H.bt B4;have Bv:Hid (q1b O (.slice A4 G.length c4) G w4):=H.o;have Bt:Hid (A4=none->G.length=0/\c4=0):=H.o.none.2;generalize Ak:G.length=n4 at B7 Bt;have Ai:Hid (G.length=n4):=Ak;clear H Ak A8;go_wp2_with fail;refine B1.o.mono ?_;rintro e w5⟨⟨vv,rfl⟩,B2,Ad⟩;have E8:=Ad.size;have Bz:Hid (q1b wr (.slice gx 1 1) [(⟨7,X1,0⟩:Td)] w5):=By.o.but Ad B4;have Cw:Hid (Tds w5 A4 G):=(Bv.o.but Ad (by omega)).tds;have Cu:Hid (But wr b wr w5):=Ct.o.trans (Ad.mono (by omega));have C4:Hid (Rd w5 b (some ↑(y,oa)) V ws (q1q ws (ws.length-r4.rest.length) r4.isBad [59]) (q0y ws (ws.length-r4.rest.length) r4.isBad [59])):=B2;clear Ad B2 B1 By Bv Bd;go_wp2_with(at_builtin;refine q4l rfl _ _ rfl wr.heap.size _ [(⟨7,X1,0⟩:Td)] rfl Bz.o A4 n4 G Ai.o c4 rfl Cw.o Bt.o (1+n4) rfl (by omega) (by omega) ?_);intro A6 c6 O Q c;have a:Below wr w5 O:= Zb.grown c (by omega) (fun k' hk=>(World.ownsRow.lt Bz.o k' hk).1);have Cl:=a.size;obtain⟨g6,eg⟩:=z1p Q;subst eg;have Bq:Hid (But wr b wr O):=Cu.o.trans (But.of a)
         have At:q4f (b+1) (.slice d al N) B O:=by
          have h8:=I.o.o.but Bq.o (by omega);rw[Ah.o]at h8;exact h8
         have C2:Hid (q4f (b+1) (.slice d al N) B O):=At;obtain⟨n1,n2,n3⟩:=k0j At (Q.down (show b+1<=wr.heap.size by omega));have N1:=(show Hid (q4f (b+1) (.slice d al N) B (O.alloc (.cells #[.slice g6 (1+n4) c6] 59)))from n1);have N2:=(show Hid (q1b (b+1) (.slice g6 (1+n4) c6) ((⟨7,X1,0⟩:Td)::G) (O.alloc (.cells #[.slice g6 (1+n4) c6] 59)))from n2);have N3:=(show Hid ((O.alloc (.cells #[.slice g6 (1+n4) c6] 59)).cell? O.heap.size=some (.slice g6 (1+n4) c6))from n3)
         have C0:Hid (((⟨7,X1,0⟩:Td)::G).length=1+n4):=by
          show _=_;rw[length_cons,Ai.o];omega
         have Bp:Hid (Below wr w5 O):=a;clear Q c At n1 n2 n3 a;go_wp2_with(at_builtin;refine z8q rfl _ _ rfl (b+1) _ B rfl N1.o O.heap.size g6 (1+n4) c6 ((⟨7,X1,0⟩:Td)::G) C0.o rfl N3.o N2.o (al+1) (by rw[Ah.o]) (by omega) (by simp only[World.size_alloc];omega) ?_);intro A9 c9 w9 f Ae;have L:Below (b+1) O w9:=(Zb.alloc (by omega) _).grown Ae (by simp only[World.size_alloc];omega) (fun k' hk=>C2.o.own_le hk);have Ao:Below (b+1) w5 w9:=(Bp.o.mono (by omega)).trans L;have Ap:But M b M w9:=(I.o.bt.trans (Bq.o.mono Cm)).trans (But.of (L.mono (by rw[Bc.o];exact Nat.le_refl _)));obtain⟨Ac,B6⟩:=Cg.o Cz.o (C4.o.keepB Ao (by omega)) f Ap;have B5:=f.cell.1;have C:=hid Ac;have C1:=hid B6;have Bs:=(show Hid (_=_)from B5);clear f Ae L Ao Ap Ac B6 B5;go_wp2
         go_roundw
         case rel=>exact⟨_,_,_,A9,c9,by rw[<-Bs.o],by rw[<-Bs.o];exact C.o⟩
         case measure=>rw[C.o.rd.at_eq,C.o.rd.nb_eq,I.o.rd.at_eq,I.o.rd.nb_eq];exact C1.o
      ·have Ef:¬(q:Int)+1<(ws.length:Int):=by omega
       have Bb:Hid (PG false [] ws (.bad (ws.drop (q+1)))):=I.o.ok rfl _ (by rw[A5.o];exact .letN (fun w h=>by rw[List.drop_eq_nil_of_le (by omega)]at h;cases h));have Am:=Ay.o (q+1) (by omega) Bb.o;have Aj:=hid Am;clear Am;have Av:pl[q+1]?=none:=Bu.o (q+1) (by omega);rw[Av]at Aj;go_wp2;refine bodyPost_ret (v:=.tuple #[.slice none 0 0,(s.size:Int),.int .i64 5]) (by simp[results,Tryz.results11,go_sem]) rfl ?_;exact q5b Aj.o (Cc.o _ Ch.o)
   ·have E5:q=ws.length:=by omega
    have E6:¬(q:Int)<(ws.length:Int):=by omega
    have hG:PG false [] ws (.ok B):=I.o.ok rfl _ (by rw[E5,List.drop_length];exact .done);have HG:=hid (Dn.o B hG)
    have C3:Hid (Cb 28 #[.slice d al N] wr (.tuple #[((q0z B).1:Int),(q0z B).2])):=by
     have J:=k3x B d N wr I.o.o.prg (fun t ht x hx=>by have:=I.o.tx rfl t ht x hx;omega);rw[Ah.o]at J;exact J
    clear hG;generalize Fx:(q0z B).2=F at C3 HG;by_cases hF:F=0
    ·subst hF;have Cy:=hid (HG.o.2 rfl);clear HG;go_wp2_with fail;refine C3.o.mono ?_;rintro e l⟨rfl,An⟩;have Ab:=hid An;clear An;go_wp2;refine bodyPost_ret (v:=.tuple #[.slice d al N,.int .i64 0,.int .i64 0]) (by simp[results,Tryz.results11,go_sem]) rfl ?_;have hc:=I.o.o.cell;have hs:=A3.o.size;exact⟨B,0,0,d,N,by rw[Ah.o],Cy.o,I.o.o.prg.W Ab.o,hc.2.2.1,hc.2.1,A3.o.trans (Ab.o.mono hs)⟩
    ·have Cy:=hid (HG.o.1 hF);clear HG;go_wp2_with fail;refine C3.o.mono ?_;rintro e l⟨rfl,An⟩;have Ab:=hid An;clear An;go_wp2;refine bodyPost_ret (v:=.tuple #[.slice none 0 0,.int .i64 0,F]) (by simp[results,Tryz.results11,go_sem]) rfl ?_;have hs:=A3.o.size;exact q5b Cy.o (A3.o.trans (Ab.o.mono hs))
end Go.Proofs.YtchdplceopegoaaGreatDoor
