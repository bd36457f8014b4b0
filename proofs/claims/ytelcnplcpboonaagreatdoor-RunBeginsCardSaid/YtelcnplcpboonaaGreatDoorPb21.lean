import Derived.Test.YtelcnplcpboonaaGreatDoorPb16
import Derived.Test.YtelcnplcpboonaaGreatDoorPb15
open Go.Proofs.Tryz
namespace Go.Proofs.YtelcnplcpboonaaGreatDoor
open Go Go.RowKit
set_option maxRecDepth 100000
set_option maxHeartbeats 8000000
theorem q3e(s:ByteArray)(w:World):Calls prog 192 #[.string s] w fun e w'=>e=.returned (.bool (q1f s))/\w=w':=by
 by_cases O:(s.size:Int)<1
 ·have A:Hid (q1f s=false):=k3d (by omega);go_in;go_wp2;go_ret;exact⟨by rw[A.o];rfl,rfl⟩
 by_cases P:8<(s.size:Int)
 ·have A:Hid (q1f s=false):=k8w (by omega);go_in;go_wp2;go_ret;exact⟨by rw[A.o];rfl,rfl⟩
 by_cases D:s=⟨#[108,101,116]⟩
 ·subst D;go_in;go_wp2;go_ret;exact⟨by rfl,rfl⟩
 have L:Hid (¬s=⟨#[108,101,116]⟩):=D
 have J:¬s.toList=[108,101,116]:=by
  rw[ByteArray.toList_eq];intro e;exact D (v6s.1 e)
 have N:(s.toList==[108,101,116])=false:=beq_false_of_ne J;clear D;go_in;go_wp2_with fail
 go_loopw [18] (fun i wr=>wr=w/\∃k:Nat,k<=s.size/\i=.int .i64 k/\∀j(h:j<s.size),j<k->q3g s[j]=true) (fun i _=>s.size-(intOf i).toNat)
 case atStart=>exact⟨rfl,0,Nat.zero_le _,rfl,fun j _ hj=>by omega⟩
 case round=>
  obtain⟨rfl,k,Q,rfl,B⟩:=hrel;have K:Hid (∀j(h:j<s.size),j<k->q3g s[j]=true):=B;clear B;by_cases I:k<s.size
  ·cases C:q3g s[k]with
   | false=>
    have A:Hid (q1f s=false):=j5x I C;by_cases G:(s[k].toNat:Int)<97
    ·clear C;go_wp2;go_ret;exact⟨by rw[A.o];rfl,rfl⟩
    ·have M:(122:Int)<(s[k].toNat:Int):=by
      simp[q3g]at C;omega
     clear C;go_wp2;go_ret;exact⟨by rw[A.o];rfl,rfl⟩
   | true=>
    have E:Hid (∀j(h:j<s.size),j<k+1->q3g s[j]=true):=fun j h hj=>by
     by_cases H:j=k
     ·subst H;exact C
     ·exact K.o j h (by omega)
    have G:¬(s[k].toNat:Int)<97/\¬(122:Int)<(s[k].toNat:Int):=by
     simp[q3g]at C;omega
    obtain⟨G,M⟩:=G;clear C;go_wp2
    go_roundw
    case rel=>exact⟨by trivial,k+1,by omega,by go_num,E.o⟩
    case measure=>simp[intOf];omega
  ·have A:Hid (q1f s=true):=j5w (by omega) (by omega) L.o fun j h=>K.o j h (by omega)
   go_wp2;go_ret;exact⟨by rw[A.o];rfl,rfl⟩
def grM(op:Int):Int:=if op=1 then 999999 else if op=3\/op=4 then 6 else 0
def grH(op:Int):Bool:=decide (op=1\/op=3\/op=4)
theorem q0d(op M:Int)(H:Bool)(hM:grM op=M)(hH:grH op=H)(w:World):Calls prog 188 #[.int .i64 op] w fun e w'=>e=.returned (.tuple #[.int .i64 M,.bool H])/\w=w':=by
 subst hM hH;by_cases A:op=1
 ·subst A;go_in;go_wp2;go_ret2;exact⟨rfl,rfl⟩
 by_cases B:op=3
 ·subst B;go_in;go_wp2;go_ret2;exact⟨rfl,rfl⟩
 by_cases C:op=4
 ·subst C;go_in;go_wp2;go_ret2;exact⟨rfl,rfl⟩
 have E:Hid (grM op=0):=by show grM op=0;simp[grM,A,B,C]
 have D:Hid (grH op=false):=by show grH op=false;simp[grH,A,B,C]
 have G:(op==1)=false:=by simp[A]
 have I:(op==3)=false:=by simp[B]
 have J:(op==4)=false:=by simp[C]
 clear A B C;go_in;go_wp2;go_ret2;exact⟨by rw[E.o,D.o];rfl,rfl⟩
def y7y(op:Int):Bool:=op==2||op==3||op==7
theorem q0f(op:Int)(H:Bool)(hH:y7y op=H)(w:World):Calls prog 191 #[.int .i64 op] w fun e w'=>e=.returned (.bool H)/\w=w':=by
 subst hH;by_cases A:op=2
 ·subst A;go_in;go_wp2;go_ret;exact⟨rfl,rfl⟩
 by_cases B:op=3
 ·subst B;go_in;go_wp2;go_ret;exact⟨rfl,rfl⟩
 by_cases C:op=7
 ·subst C;go_in;go_wp2;go_ret;exact⟨rfl,rfl⟩
 have D:Hid (y7y op=false):=by show y7y op=false;simp[y7y,A,B,C]
 have E:(op==2)=false:=by simp[A]
 have G:(op==3)=false:=by simp[B]
 have I:(op==7)=false:=by simp[C]
 clear A B C;go_in;go_wp2;go_ret;exact⟨by rw[D.o];rfl,rfl⟩
def exB(op:Int):Bool:=decide (1<=op)&&decide (op<=6)
theorem q9m(op:Int)(w:World):Calls prog 193 #[.int .i64 op] w fun e w'=>e=.returned (.bool (exB op))/\w=w':=by
 by_cases B:1<=op
 ·by_cases C:op<=6
  ·have A:Hid (exB op=true):=by show exB op=true;simp[exB,B,C]
   go_in;go_wp2;go_ret;exact⟨by rw[A.o];rfl,rfl⟩
  ·have A:Hid (exB op=false):=by show exB op=false;simp[exB,C]
   go_in;go_wp2;go_ret;exact⟨by rw[A.o];rfl,rfl⟩
 ·have A:Hid (exB op=false):=by show exB op=false;simp[exB,B]
  go_in;go_wp2;go_ret;exact⟨by rw[A.o];rfl,rfl⟩
theorem k1d(x:Td)(w:World)(hs:x.tx.size<=140737488351232):Calls prog 151 #[tdV x] w fun e w'=>e=.returned (q0s (q0l x))/\Below w w w':=by
 obtain⟨H,tx,n⟩:=x;have hs:tx.size<=140737488351232:=hs;have G:∀O:Obj,Below w w (w.alloc O):=fun O=>(Below.refl _ w).alloc Zl O
 by_cases B:H<1
 ·have D:Hid (q0l ⟨H,tx,n⟩=1):=y5o B;have M:grM H=0:=by unfold grM;rw[if_neg (by omega),if_neg (by omega)]
  have N:grH H=false:=decide_eq_false (by omega);go_in;go_wp2_with fail;refine(q0d H 0 false M N _).mono ?_;rintro e C⟨rfl,rfl⟩;go_wp2;go_ret;exact⟨by rw[D.o];rfl,G _⟩
 by_cases E:9<H
 ·have D:Hid (q0l ⟨H,tx,n⟩=1):=y5p B E;have M:grM H=0:=by unfold grM;rw[if_neg (by omega),if_neg (by omega)]
  have N:grH H=false:=decide_eq_false (by omega);go_in;go_wp2_with fail;refine(q0d H 0 false M N _).mono ?_;rintro e C⟨rfl,rfl⟩;go_wp2;go_ret;exact⟨by rw[D.o];rfl,G _⟩
 have S:H=1\/H=2\/H=3\/H=4\/H=5\/H=6\/H=7\/H=8\/H=9:=by omega
 clear B E;rcases S with rfl|rfl|rfl|rfl|rfl|rfl|rfl|rfl|rfl
 ·by_cases B:n<0
  ·have D:Hid (q0l ⟨1,tx,n⟩=1):=y5q B;go_in;go_wp2_with fail;refine(q0d 1 999999 true rfl rfl _).mono ?_;rintro e C⟨rfl,rfl⟩;go_wp2;go_ret;exact⟨by rw[D.o];rfl,G _⟩
  ·by_cases E:999999<n
   ·have D:Hid (q0l ⟨1,tx,n⟩=1):=y5r B E;go_in;go_wp2_with fail;refine(q0d 1 999999 true rfl rfl _).mono ?_;rintro e C⟨rfl,rfl⟩;go_wp2;go_ret;exact⟨by rw[D.o];rfl,G _⟩
   ·by_cases I:0<(tx.size:Int)
    ·have D:Hid (q0l ⟨1,tx,n⟩=2):=y5s B E I;have L:=q7j I;have R:(tx.toList != [])=true:=by simp[bne,L]
     go_in;go_wp2_with fail;refine(q0d 1 999999 true rfl rfl _).mono ?_;rintro e C⟨rfl,rfl⟩;go_wp2_with fail;refine(q0f 1 false rfl _).mono ?_;rintro e C⟨rfl,rfl⟩;go_wp2;go_ret;exact⟨by rw[D.o];rfl,G _⟩
    ·have D:Hid (q0l ⟨1,tx,n⟩=0):=y5t B E I;have K:=q5h I;subst K;go_in;go_wp2_with fail;refine(q0d 1 999999 true rfl rfl _).mono ?_;rintro e C⟨rfl,rfl⟩;go_wp2_with fail;refine(q0f 1 false rfl _).mono ?_;rintro e C⟨rfl,rfl⟩;go_wp2_with fail;refine(q0f 1 false rfl _).mono ?_;rintro e C⟨rfl,rfl⟩;go_wp2;go_ret;exact⟨by rw[D.o];rfl,G _⟩
 ·by_cases B:n=0
  ·cases E:q1f tx with
   | true=>
    have D:Hid (q0l ⟨2,tx,n⟩=0):=y5v B E;subst B;have J:Hid (q1f tx=true):=E;clear E;go_in;go_wp2_with fail;refine(q0d 2 0 false rfl rfl _).mono ?_;rintro e C⟨rfl,rfl⟩;go_wp2_with fail;refine(q0f 2 true rfl _).mono ?_;rintro e C⟨rfl,rfl⟩;go_wp2_with fail;refine(q0f 2 true rfl _).mono ?_;rintro e C⟨rfl,rfl⟩;go_wp2_with fail;refine(q3e tx _).mono ?_;rintro e C⟨rfl,rfl⟩;rw[J.o];go_wp2;go_ret;exact⟨by rw[D.o];rfl,G _⟩
   | false=>
    have D:Hid (q0l ⟨2,tx,n⟩=5):=y5w B E;subst B;have J:Hid (q1f tx=false):=E;clear E;go_in;go_wp2_with fail;refine(q0d 2 0 false rfl rfl _).mono ?_;rintro e C⟨rfl,rfl⟩;go_wp2_with fail;refine(q0f 2 true rfl _).mono ?_;rintro e C⟨rfl,rfl⟩;go_wp2_with fail;refine(q0f 2 true rfl _).mono ?_;rintro e C⟨rfl,rfl⟩;go_wp2_with fail;refine(q3e tx _).mono ?_;rintro e C⟨rfl,rfl⟩;rw[J.o];go_wp2;go_ret;exact⟨by rw[D.o];rfl,G _⟩
  ·have D:Hid (q0l ⟨2,tx,n⟩=2):=y5u B;have P:(n==0)=false:=by simp[B]
   have Q:(n != 0)=true:=by simp[B]
   go_in;go_wp2_with fail;refine(q0d 2 0 false rfl rfl _).mono ?_;rintro e C⟨rfl,rfl⟩;go_wp2;go_ret;exact⟨by rw[D.o];rfl,G _⟩
 ·by_cases B:n<0
  ·have D:Hid (q0l ⟨3,tx,n⟩=1):=y5x B;go_in;go_wp2_with fail;refine(q0d 3 6 true rfl rfl _).mono ?_;rintro e C⟨rfl,rfl⟩;go_wp2;go_ret;exact⟨by rw[D.o];rfl,G _⟩
  ·by_cases E:6<n
   ·have D:Hid (q0l ⟨3,tx,n⟩=1):=y1f B E;go_in;go_wp2_with fail;refine(q0d 3 6 true rfl rfl _).mono ?_;rintro e C⟨rfl,rfl⟩;go_wp2;go_ret;exact⟨by rw[D.o];rfl,G _⟩
   ·cases I:q1f tx with
    | true=>
     have D:Hid (q0l ⟨3,tx,n⟩=0):=y1g B E I;have J:Hid (q1f tx=true):=I;clear I;go_in;go_wp2_with fail;refine(q0d 3 6 true rfl rfl _).mono ?_;rintro e C⟨rfl,rfl⟩;go_wp2_with fail;refine(q0f 3 true rfl _).mono ?_;rintro e C⟨rfl,rfl⟩;go_wp2_with fail;refine(q0f 3 true rfl _).mono ?_;rintro e C⟨rfl,rfl⟩;go_wp2_with fail;refine(q3e tx _).mono ?_;rintro e C⟨rfl,rfl⟩;rw[J.o];go_wp2;go_ret;exact⟨by rw[D.o];rfl,G _⟩
    | false=>
     have D:Hid (q0l ⟨3,tx,n⟩=5):=y1h B E I;have J:Hid (q1f tx=false):=I;clear I;go_in;go_wp2_with fail;refine(q0d 3 6 true rfl rfl _).mono ?_;rintro e C⟨rfl,rfl⟩;go_wp2_with fail;refine(q0f 3 true rfl _).mono ?_;rintro e C⟨rfl,rfl⟩;go_wp2_with fail;refine(q0f 3 true rfl _).mono ?_;rintro e C⟨rfl,rfl⟩;go_wp2_with fail;refine(q3e tx _).mono ?_;rintro e C⟨rfl,rfl⟩;rw[J.o];go_wp2;go_ret;exact⟨by rw[D.o];rfl,G _⟩
 ·by_cases B:n<0
  ·have D:Hid (q0l ⟨4,tx,n⟩=1):=y1i B;go_in;go_wp2_with fail;refine(q0d 4 6 true rfl rfl _).mono ?_;rintro e C⟨rfl,rfl⟩;go_wp2;go_ret;exact⟨by rw[D.o];rfl,G _⟩
  ·by_cases E:6<n
   ·have D:Hid (q0l ⟨4,tx,n⟩=1):=y1j B E;go_in;go_wp2_with fail;refine(q0d 4 6 true rfl rfl _).mono ?_;rintro e C⟨rfl,rfl⟩;go_wp2;go_ret;exact⟨by rw[D.o];rfl,G _⟩
   ·by_cases I:0<(tx.size:Int)
    ·have D:Hid (q0l ⟨4,tx,n⟩=2):=y1k B E I;have L:=q7j I;have R:(tx.toList != [])=true:=by simp[bne,L]
     go_in;go_wp2_with fail;refine(q0d 4 6 true rfl rfl _).mono ?_;rintro e C⟨rfl,rfl⟩;go_wp2_with fail;refine(q0f 4 false rfl _).mono ?_;rintro e C⟨rfl,rfl⟩;go_wp2;go_ret;exact⟨by rw[D.o];rfl,G _⟩
    ·have D:Hid (q0l ⟨4,tx,n⟩=0):=y1l B E I;have K:=q5h I;subst K;go_in;go_wp2_with fail;refine(q0d 4 6 true rfl rfl _).mono ?_;rintro e C⟨rfl,rfl⟩;go_wp2_with fail;refine(q0f 4 false rfl _).mono ?_;rintro e C⟨rfl,rfl⟩;go_wp2_with fail;refine(q0f 4 false rfl _).mono ?_;rintro e C⟨rfl,rfl⟩;go_wp2;go_ret;exact⟨by rw[D.o];rfl,G _⟩
 ·by_cases B:n=0
  ·by_cases E:0<(tx.size:Int)
   ·have D:Hid (q0l ⟨5,tx,n⟩=2):=y1n B E;subst B;have L:=q7j E;have R:(tx.toList != [])=true:=by simp[bne,L]
    go_in;go_wp2_with fail;refine(q0d 5 0 false rfl rfl _).mono ?_;rintro e C⟨rfl,rfl⟩;go_wp2_with fail;refine(q0f 5 false rfl _).mono ?_;rintro e C⟨rfl,rfl⟩;go_wp2;go_ret;exact⟨by rw[D.o];rfl,G _⟩
   ·have D:Hid (q0l ⟨5,tx,n⟩=0):=y1o B E;subst B;have K:=q5h E;subst K;go_in;go_wp2_with fail;refine(q0d 5 0 false rfl rfl _).mono ?_;rintro e C⟨rfl,rfl⟩;go_wp2_with fail;refine(q0f 5 false rfl _).mono ?_;rintro e C⟨rfl,rfl⟩;go_wp2_with fail;refine(q0f 5 false rfl _).mono ?_;rintro e C⟨rfl,rfl⟩;go_wp2;go_ret;exact⟨by rw[D.o];rfl,G _⟩
  ·have D:Hid (q0l ⟨5,tx,n⟩=2):=y1m B;have P:(n==0)=false:=by simp[B]
   have Q:(n != 0)=true:=by simp[B]
   go_in;go_wp2_with fail;refine(q0d 5 0 false rfl rfl _).mono ?_;rintro e C⟨rfl,rfl⟩;go_wp2;go_ret;exact⟨by rw[D.o];rfl,G _⟩
 ·by_cases B:n=0
  ·by_cases E:0<(tx.size:Int)
   ·have D:Hid (q0l ⟨6,tx,n⟩=2):=y1q B E;subst B;have L:=q7j E;have R:(tx.toList != [])=true:=by simp[bne,L]
    go_in;go_wp2_with fail;refine(q0d 6 0 false rfl rfl _).mono ?_;rintro e C⟨rfl,rfl⟩;go_wp2_with fail;refine(q0f 6 false rfl _).mono ?_;rintro e C⟨rfl,rfl⟩;go_wp2;go_ret;exact⟨by rw[D.o];rfl,G _⟩
   ·have D:Hid (q0l ⟨6,tx,n⟩=0):=y1r B E;subst B;have K:=q5h E;subst K;go_in;go_wp2_with fail;refine(q0d 6 0 false rfl rfl _).mono ?_;rintro e C⟨rfl,rfl⟩;go_wp2_with fail;refine(q0f 6 false rfl _).mono ?_;rintro e C⟨rfl,rfl⟩;go_wp2_with fail;refine(q0f 6 false rfl _).mono ?_;rintro e C⟨rfl,rfl⟩;go_wp2;go_ret;exact⟨by rw[D.o];rfl,G _⟩
  ·have D:Hid (q0l ⟨6,tx,n⟩=2):=y1p B;have P:(n==0)=false:=by simp[B]
   have Q:(n != 0)=true:=by simp[B]
   go_in;go_wp2_with fail;refine(q0d 6 0 false rfl rfl _).mono ?_;rintro e C⟨rfl,rfl⟩;go_wp2;go_ret;exact⟨by rw[D.o];rfl,G _⟩
 ·by_cases B:n=0
  ·cases E:q1f tx with
   | true=>
    have D:Hid (q0l ⟨7,tx,n⟩=0):=y1t B E;subst B;have J:Hid (q1f tx=true):=E;clear E;go_in;go_wp2_with fail;refine(q0d 7 0 false rfl rfl _).mono ?_;rintro e C⟨rfl,rfl⟩;go_wp2_with fail;refine(q0f 7 true rfl _).mono ?_;rintro e C⟨rfl,rfl⟩;go_wp2_with fail;refine(q0f 7 true rfl _).mono ?_;rintro e C⟨rfl,rfl⟩;go_wp2_with fail;refine(q3e tx _).mono ?_;rintro e C⟨rfl,rfl⟩;rw[J.o];go_wp2;go_ret;exact⟨by rw[D.o];rfl,G _⟩
   | false=>
    have D:Hid (q0l ⟨7,tx,n⟩=5):=y1u B E;subst B;have J:Hid (q1f tx=false):=E;clear E;go_in;go_wp2_with fail;refine(q0d 7 0 false rfl rfl _).mono ?_;rintro e C⟨rfl,rfl⟩;go_wp2_with fail;refine(q0f 7 true rfl _).mono ?_;rintro e C⟨rfl,rfl⟩;go_wp2_with fail;refine(q0f 7 true rfl _).mono ?_;rintro e C⟨rfl,rfl⟩;go_wp2_with fail;refine(q3e tx _).mono ?_;rintro e C⟨rfl,rfl⟩;rw[J.o];go_wp2;go_ret;exact⟨by rw[D.o];rfl,G _⟩
  ·have D:Hid (q0l ⟨7,tx,n⟩=2):=y1s B;have P:(n==0)=false:=by simp[B]
   have Q:(n != 0)=true:=by simp[B]
   go_in;go_wp2_with fail;refine(q0d 7 0 false rfl rfl _).mono ?_;rintro e C⟨rfl,rfl⟩;go_wp2;go_ret;exact⟨by rw[D.o];rfl,G _⟩
 ·by_cases B:n=0
  ·by_cases E:0<(tx.size:Int)
   ·have D:Hid (q0l ⟨8,tx,n⟩=2):=y1w B E;subst B;have L:=q7j E;have R:(tx.toList != [])=true:=by simp[bne,L]
    go_in;go_wp2_with fail;refine(q0d 8 0 false rfl rfl _).mono ?_;rintro e C⟨rfl,rfl⟩;go_wp2_with fail;refine(q0f 8 false rfl _).mono ?_;rintro e C⟨rfl,rfl⟩;go_wp2;go_ret;exact⟨by rw[D.o];rfl,G _⟩
   ·have D:Hid (q0l ⟨8,tx,n⟩=0):=y1x B E;subst B;have K:=q5h E;subst K;go_in;go_wp2_with fail;refine(q0d 8 0 false rfl rfl _).mono ?_;rintro e C⟨rfl,rfl⟩;go_wp2_with fail;refine(q0f 8 false rfl _).mono ?_;rintro e C⟨rfl,rfl⟩;go_wp2_with fail;refine(q0f 8 false rfl _).mono ?_;rintro e C⟨rfl,rfl⟩;go_wp2;go_ret;exact⟨by rw[D.o];rfl,G _⟩
  ·have D:Hid (q0l ⟨8,tx,n⟩=2):=y1v B;have P:(n==0)=false:=by simp[B]
   have Q:(n != 0)=true:=by simp[B]
   go_in;go_wp2_with fail;refine(q0d 8 0 false rfl rfl _).mono ?_;rintro e C⟨rfl,rfl⟩;go_wp2;go_ret;exact⟨by rw[D.o];rfl,G _⟩
 ·by_cases B:n=0
  ·have D:Hid (q0l ⟨9,tx,n⟩=q3k tx):=by
    show _=_;by_cases h:q3k tx=0
    ·rw[y1z B h,h]
    ·exact y2a B h
   subst B;go_in;go_wp2_with fail;refine(q0d 9 0 false rfl rfl _).mono ?_;rintro e C⟨rfl,rfl⟩;go_wp2_with fail;refine(k9w tx _ hs).mono ?_;rintro e C⟨A,Y,c,rfl,X,W,U⟩;have V:Below w w C:=q8i Zb Zl U;clear U;go_wp2_with fail;refine(q5k Y A c _ X).mono ?_;rintro e Z⟨rfl,rfl⟩;rw[W,<-D.o];go_wp2;go_ret;exact⟨rfl,V⟩
  ·have D:Hid (q0l ⟨9,tx,n⟩=2):=y1y B;have P:(n==0)=false:=by simp[B]
   have Q:(n != 0)=true:=by simp[B]
   go_in;go_wp2_with fail;refine(q0d 9 0 false rfl rfl _).mono ?_;rintro e C⟨rfl,rfl⟩;go_wp2;go_ret;exact⟨by rw[D.o];rfl,G _⟩
theorem y0g{L:List UInt8}(h:q6h L=0):(q2x L).length<=60000:=Nat.le_trans (j8t L) (z3d h).1
end Go.Proofs.YtelcnplcpboonaaGreatDoor
