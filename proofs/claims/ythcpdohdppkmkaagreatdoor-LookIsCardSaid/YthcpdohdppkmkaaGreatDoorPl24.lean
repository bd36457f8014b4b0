import Derived.Test.YthcpdohdppkmkaaGreatDoorPl23
import Derived.Lib.Fields
open Go.Proofs.Tryz
namespace Go.Proofs.YthcpdohdppkmkaaGreatDoor
open Go Go.RowKit
set_option maxRecDepth 100000
set_option maxHeartbeats 8000000
theorem q4a(s:ByteArray)(w:World):Calls prog 161 #[.string s] w fun e w'=>e=.returned (.bool (q0p s))/\w=w':=by
 by_cases O:(s.size:Int)<1
 ·have A:Hid (q0p s=false):=z4j (by omega);go_in;go_wp2;go_ret;exact⟨by rw[A.o];rfl,rfl⟩
 by_cases P:8<(s.size:Int)
 ·have A:Hid (q0p s=false):=z6p (by omega);go_in;go_wp2;go_ret;exact⟨by rw[A.o];rfl,rfl⟩
 by_cases D:s=⟨#[108,101,116]⟩
 ·subst D;go_in;go_wp2;go_ret;exact⟨by rfl,rfl⟩
 have L:Hid (¬s=⟨#[108,101,116]⟩):=D
 have J:¬s.toList=[108,101,116]:=by
  rw[ByteArray.toList_eq];intro e;exact D (j5l.1 e)
 have N:(s.toList==[108,101,116])=false:=beq_false_of_ne J;clear D;go_in;go_wp2_with fail
 go_loopw [18] (fun i wr=>wr=w/\∃k:Nat,k<=s.size/\i=.int .i64 k/\∀j(h:j<s.size),j<k->q2j s[j]=true) (fun i _=>s.size-(intOf i).toNat)
 case atStart=>exact⟨rfl,0,Nat.zero_le _,rfl,fun j _ hj=>by omega⟩
 case round=>
  obtain⟨rfl,k,Q,rfl,B⟩:=hrel;have K:Hid (∀j(h:j<s.size),j<k->q2j s[j]=true):=B;clear B;by_cases I:k<s.size
  ·cases C:q2j s[k]with
   | false=>
    have A:Hid (q0p s=false):=k1v I C;by_cases G:(s[k].toNat:Int)<97
    ·clear C;go_wp2;go_ret;exact⟨by rw[A.o];rfl,rfl⟩
    ·have M:(122:Int)<(s[k].toNat:Int):=by
      simp[q2j]at C;omega
     clear C;go_wp2;go_ret;exact⟨by rw[A.o];rfl,rfl⟩
   | true=>
    have E:Hid (∀j(h:j<s.size),j<k+1->q2j s[j]=true):=fun j h hj=>by
     by_cases H:j=k
     ·subst H;exact C
     ·exact K.o j h (by omega)
    have G:¬(s[k].toNat:Int)<97/\¬(122:Int)<(s[k].toNat:Int):=by
     simp[q2j]at C;omega
    obtain⟨G,M⟩:=G;clear C;go_wp2
    go_roundw
    case rel=>exact⟨by trivial,k+1,by omega,by go_num,E.o⟩
    case measure=>simp[intOf];omega
  ·have A:Hid (q0p s=true):=k1u (by omega) (by omega) L.o fun j h=>K.o j h (by omega)
   go_wp2;go_ret;exact⟨by rw[A.o];rfl,rfl⟩
def grM(op:Int):Int:=if op=1 then 999999 else if op=3\/op=4 then 6 else 0
def grH(op:Int):Bool:=decide (op=1\/op=3\/op=4)
theorem q0g(op M:Int)(H:Bool)(hM:grM op=M)(hH:grH op=H)(w:World):Calls prog 157 #[.int .i64 op] w fun e w'=>e=.returned (.tuple #[.int .i64 M,.bool H])/\w=w':=by
 subst hM hH;by_cases A:op=1
 ·subst A;go_in;go_wp2;go_ret2;exact⟨rfl,rfl⟩
 by_cases B:op=3
 ·subst B;go_in;go_wp2;go_ret2;exact⟨rfl,rfl⟩
 by_cases C:op=4
 ·subst C;go_in;go_wp2;go_ret2;exact⟨rfl,rfl⟩
 have E:Hid (grM op=0):=by show grM op=0;simp[grM,A,B,C]
 have D:Hid (grH op=false):=by show grH op=false;simp[grH,A,B,C]
 have G:(op==1)=false:=by simp[A]
 have I:(op==3)=false:=by simp[B]
 have J:(op==4)=false:=by simp[C]
 clear A B C;go_in;go_wp2;go_ret2;exact⟨by rw[E.o,D.o];rfl,rfl⟩
def y7t(op:Int):Bool:=op==2||op==3||op==7
theorem q0i(op:Int)(H:Bool)(hH:y7t op=H)(w:World):Calls prog 160 #[.int .i64 op] w fun e w'=>e=.returned (.bool H)/\w=w':=by
 subst hH;by_cases A:op=2
 ·subst A;go_in;go_wp2;go_ret;exact⟨rfl,rfl⟩
 by_cases B:op=3
 ·subst B;go_in;go_wp2;go_ret;exact⟨rfl,rfl⟩
 by_cases C:op=7
 ·subst C;go_in;go_wp2;go_ret;exact⟨rfl,rfl⟩
 have D:Hid (y7t op=false):=by show y7t op=false;simp[y7t,A,B,C]
 have E:(op==2)=false:=by simp[A]
 have G:(op==3)=false:=by simp[B]
 have I:(op==7)=false:=by simp[C]
 clear A B C;go_in;go_wp2;go_ret;exact⟨by rw[D.o];rfl,rfl⟩
def exB(op:Int):Bool:=decide (1<=op)&&decide (op<=6)
theorem z0s(op:Int)(w:World):Calls prog 162 #[.int .i64 op] w fun e w'=>e=.returned (.bool (exB op))/\w=w':=by
 by_cases B:1<=op
 ·by_cases C:op<=6
  ·have A:Hid (exB op=true):=by show exB op=true;simp[exB,B,C]
   go_in;go_wp2;go_ret;exact⟨by rw[A.o];rfl,rfl⟩
  ·have A:Hid (exB op=false):=by show exB op=false;simp[exB,C]
   go_in;go_wp2;go_ret;exact⟨by rw[A.o];rfl,rfl⟩
 ·have A:Hid (exB op=false):=by show exB op=false;simp[exB,B]
  go_in;go_wp2;go_ret;exact⟨by rw[A.o];rfl,rfl⟩
theorem k2o(x:Td)(w:World)(hs:x.tx.size<=140737488351232):Calls prog 99 #[tdV x] w fun e w'=>e=.returned (q1r (q0q x))/\Below w w w':=by
 obtain⟨H,tx,n⟩:=x;have hs:tx.size<=140737488351232:=hs;have G:∀O:Obj,Below w w (w.alloc O):=fun O=>(Below.refl _ w).alloc Zl O
 by_cases B:H<1
 ·have D:Hid (q0q ⟨H,tx,n⟩=1):=v8n B;have M:grM H=0:=by unfold grM;rw[if_neg (by omega),if_neg (by omega)]
  have N:grH H=false:=decide_eq_false (by omega);go_in;go_wp2_with fail;refine(q0g H 0 false M N _).mono ?_;rintro e C⟨rfl,rfl⟩;go_wp2;go_ret;exact⟨by rw[D.o];rfl,G _⟩
 by_cases E:9<H
 ·have D:Hid (q0q ⟨H,tx,n⟩=1):=v8o B E;have M:grM H=0:=by unfold grM;rw[if_neg (by omega),if_neg (by omega)]
  have N:grH H=false:=decide_eq_false (by omega);go_in;go_wp2_with fail;refine(q0g H 0 false M N _).mono ?_;rintro e C⟨rfl,rfl⟩;go_wp2;go_ret;exact⟨by rw[D.o];rfl,G _⟩
 have S:H=1\/H=2\/H=3\/H=4\/H=5\/H=6\/H=7\/H=8\/H=9:=by omega
 clear B E;rcases S with rfl|rfl|rfl|rfl|rfl|rfl|rfl|rfl|rfl
 ·by_cases B:n<0
  ·have D:Hid (q0q ⟨1,tx,n⟩=1):=v8p B;go_in;go_wp2_with fail;refine(q0g 1 999999 true rfl rfl _).mono ?_;rintro e C⟨rfl,rfl⟩;go_wp2;go_ret;exact⟨by rw[D.o];rfl,G _⟩
  ·by_cases E:999999<n
   ·have D:Hid (q0q ⟨1,tx,n⟩=1):=v8q B E;go_in;go_wp2_with fail;refine(q0g 1 999999 true rfl rfl _).mono ?_;rintro e C⟨rfl,rfl⟩;go_wp2;go_ret;exact⟨by rw[D.o];rfl,G _⟩
   ·by_cases I:0<(tx.size:Int)
    ·have D:Hid (q0q ⟨1,tx,n⟩=2):=v8r B E I;have L:=q8r I;have R:(tx.toList != [])=true:=by simp[bne,L]
     go_in;go_wp2_with fail;refine(q0g 1 999999 true rfl rfl _).mono ?_;rintro e C⟨rfl,rfl⟩;go_wp2_with fail;refine(q0i 1 false rfl _).mono ?_;rintro e C⟨rfl,rfl⟩;go_wp2;go_ret;exact⟨by rw[D.o];rfl,G _⟩
    ·have D:Hid (q0q ⟨1,tx,n⟩=0):=v8s B E I;have K:=q6i I;subst K;go_in;go_wp2_with fail;refine(q0g 1 999999 true rfl rfl _).mono ?_;rintro e C⟨rfl,rfl⟩;go_wp2_with fail;refine(q0i 1 false rfl _).mono ?_;rintro e C⟨rfl,rfl⟩;go_wp2_with fail;refine(q0i 1 false rfl _).mono ?_;rintro e C⟨rfl,rfl⟩;go_wp2;go_ret;exact⟨by rw[D.o];rfl,G _⟩
 ·by_cases B:n=0
  ·cases E:q0p tx with
   | true=>
    have D:Hid (q0q ⟨2,tx,n⟩=0):=v8u B E;subst B;have J:Hid (q0p tx=true):=E;clear E;go_in;go_wp2_with fail;refine(q0g 2 0 false rfl rfl _).mono ?_;rintro e C⟨rfl,rfl⟩;go_wp2_with fail;refine(q0i 2 true rfl _).mono ?_;rintro e C⟨rfl,rfl⟩;go_wp2_with fail;refine(q0i 2 true rfl _).mono ?_;rintro e C⟨rfl,rfl⟩;go_wp2_with fail;refine(q4a tx _).mono ?_;rintro e C⟨rfl,rfl⟩;rw[J.o];go_wp2;go_ret;exact⟨by rw[D.o];rfl,G _⟩
   | false=>
    have D:Hid (q0q ⟨2,tx,n⟩=5):=v8v B E;subst B;have J:Hid (q0p tx=false):=E;clear E;go_in;go_wp2_with fail;refine(q0g 2 0 false rfl rfl _).mono ?_;rintro e C⟨rfl,rfl⟩;go_wp2_with fail;refine(q0i 2 true rfl _).mono ?_;rintro e C⟨rfl,rfl⟩;go_wp2_with fail;refine(q0i 2 true rfl _).mono ?_;rintro e C⟨rfl,rfl⟩;go_wp2_with fail;refine(q4a tx _).mono ?_;rintro e C⟨rfl,rfl⟩;rw[J.o];go_wp2;go_ret;exact⟨by rw[D.o];rfl,G _⟩
  ·have D:Hid (q0q ⟨2,tx,n⟩=2):=v8t B;have P:(n==0)=false:=by simp[B]
   have Q:(n != 0)=true:=by simp[B]
   go_in;go_wp2_with fail;refine(q0g 2 0 false rfl rfl _).mono ?_;rintro e C⟨rfl,rfl⟩;go_wp2;go_ret;exact⟨by rw[D.o];rfl,G _⟩
 ·by_cases B:n<0
  ·have D:Hid (q0q ⟨3,tx,n⟩=1):=v8w B;go_in;go_wp2_with fail;refine(q0g 3 6 true rfl rfl _).mono ?_;rintro e C⟨rfl,rfl⟩;go_wp2;go_ret;exact⟨by rw[D.o];rfl,G _⟩
  ·by_cases E:6<n
   ·have D:Hid (q0q ⟨3,tx,n⟩=1):=j7a B E;go_in;go_wp2_with fail;refine(q0g 3 6 true rfl rfl _).mono ?_;rintro e C⟨rfl,rfl⟩;go_wp2;go_ret;exact⟨by rw[D.o];rfl,G _⟩
   ·cases I:q0p tx with
    | true=>
     have D:Hid (q0q ⟨3,tx,n⟩=0):=j7b B E I;have J:Hid (q0p tx=true):=I;clear I;go_in;go_wp2_with fail;refine(q0g 3 6 true rfl rfl _).mono ?_;rintro e C⟨rfl,rfl⟩;go_wp2_with fail;refine(q0i 3 true rfl _).mono ?_;rintro e C⟨rfl,rfl⟩;go_wp2_with fail;refine(q0i 3 true rfl _).mono ?_;rintro e C⟨rfl,rfl⟩;go_wp2_with fail;refine(q4a tx _).mono ?_;rintro e C⟨rfl,rfl⟩;rw[J.o];go_wp2;go_ret;exact⟨by rw[D.o];rfl,G _⟩
    | false=>
     have D:Hid (q0q ⟨3,tx,n⟩=5):=j7c B E I;have J:Hid (q0p tx=false):=I;clear I;go_in;go_wp2_with fail;refine(q0g 3 6 true rfl rfl _).mono ?_;rintro e C⟨rfl,rfl⟩;go_wp2_with fail;refine(q0i 3 true rfl _).mono ?_;rintro e C⟨rfl,rfl⟩;go_wp2_with fail;refine(q0i 3 true rfl _).mono ?_;rintro e C⟨rfl,rfl⟩;go_wp2_with fail;refine(q4a tx _).mono ?_;rintro e C⟨rfl,rfl⟩;rw[J.o];go_wp2;go_ret;exact⟨by rw[D.o];rfl,G _⟩
 ·by_cases B:n<0
  ·have D:Hid (q0q ⟨4,tx,n⟩=1):=j7d B;go_in;go_wp2_with fail;refine(q0g 4 6 true rfl rfl _).mono ?_;rintro e C⟨rfl,rfl⟩;go_wp2;go_ret;exact⟨by rw[D.o];rfl,G _⟩
  ·by_cases E:6<n
   ·have D:Hid (q0q ⟨4,tx,n⟩=1):=j7e B E;go_in;go_wp2_with fail;refine(q0g 4 6 true rfl rfl _).mono ?_;rintro e C⟨rfl,rfl⟩;go_wp2;go_ret;exact⟨by rw[D.o];rfl,G _⟩
   ·by_cases I:0<(tx.size:Int)
    ·have D:Hid (q0q ⟨4,tx,n⟩=2):=j7f B E I;have L:=q8r I;have R:(tx.toList != [])=true:=by simp[bne,L]
     go_in;go_wp2_with fail;refine(q0g 4 6 true rfl rfl _).mono ?_;rintro e C⟨rfl,rfl⟩;go_wp2_with fail;refine(q0i 4 false rfl _).mono ?_;rintro e C⟨rfl,rfl⟩;go_wp2;go_ret;exact⟨by rw[D.o];rfl,G _⟩
    ·have D:Hid (q0q ⟨4,tx,n⟩=0):=j7g B E I;have K:=q6i I;subst K;go_in;go_wp2_with fail;refine(q0g 4 6 true rfl rfl _).mono ?_;rintro e C⟨rfl,rfl⟩;go_wp2_with fail;refine(q0i 4 false rfl _).mono ?_;rintro e C⟨rfl,rfl⟩;go_wp2_with fail;refine(q0i 4 false rfl _).mono ?_;rintro e C⟨rfl,rfl⟩;go_wp2;go_ret;exact⟨by rw[D.o];rfl,G _⟩
 ·by_cases B:n=0
  ·by_cases E:0<(tx.size:Int)
   ·have D:Hid (q0q ⟨5,tx,n⟩=2):=j7i B E;subst B;have L:=q8r E;have R:(tx.toList != [])=true:=by simp[bne,L]
    go_in;go_wp2_with fail;refine(q0g 5 0 false rfl rfl _).mono ?_;rintro e C⟨rfl,rfl⟩;go_wp2_with fail;refine(q0i 5 false rfl _).mono ?_;rintro e C⟨rfl,rfl⟩;go_wp2;go_ret;exact⟨by rw[D.o];rfl,G _⟩
   ·have D:Hid (q0q ⟨5,tx,n⟩=0):=j7j B E;subst B;have K:=q6i E;subst K;go_in;go_wp2_with fail;refine(q0g 5 0 false rfl rfl _).mono ?_;rintro e C⟨rfl,rfl⟩;go_wp2_with fail;refine(q0i 5 false rfl _).mono ?_;rintro e C⟨rfl,rfl⟩;go_wp2_with fail;refine(q0i 5 false rfl _).mono ?_;rintro e C⟨rfl,rfl⟩;go_wp2;go_ret;exact⟨by rw[D.o];rfl,G _⟩
  ·have D:Hid (q0q ⟨5,tx,n⟩=2):=j7h B;have P:(n==0)=false:=by simp[B]
   have Q:(n != 0)=true:=by simp[B]
   go_in;go_wp2_with fail;refine(q0g 5 0 false rfl rfl _).mono ?_;rintro e C⟨rfl,rfl⟩;go_wp2;go_ret;exact⟨by rw[D.o];rfl,G _⟩
 ·by_cases B:n=0
  ·by_cases E:0<(tx.size:Int)
   ·have D:Hid (q0q ⟨6,tx,n⟩=2):=j7l B E;subst B;have L:=q8r E;have R:(tx.toList != [])=true:=by simp[bne,L]
    go_in;go_wp2_with fail;refine(q0g 6 0 false rfl rfl _).mono ?_;rintro e C⟨rfl,rfl⟩;go_wp2_with fail;refine(q0i 6 false rfl _).mono ?_;rintro e C⟨rfl,rfl⟩;go_wp2;go_ret;exact⟨by rw[D.o];rfl,G _⟩
   ·have D:Hid (q0q ⟨6,tx,n⟩=0):=j7m B E;subst B;have K:=q6i E;subst K;go_in;go_wp2_with fail;refine(q0g 6 0 false rfl rfl _).mono ?_;rintro e C⟨rfl,rfl⟩;go_wp2_with fail;refine(q0i 6 false rfl _).mono ?_;rintro e C⟨rfl,rfl⟩;go_wp2_with fail;refine(q0i 6 false rfl _).mono ?_;rintro e C⟨rfl,rfl⟩;go_wp2;go_ret;exact⟨by rw[D.o];rfl,G _⟩
  ·have D:Hid (q0q ⟨6,tx,n⟩=2):=j7k B;have P:(n==0)=false:=by simp[B]
   have Q:(n != 0)=true:=by simp[B]
   go_in;go_wp2_with fail;refine(q0g 6 0 false rfl rfl _).mono ?_;rintro e C⟨rfl,rfl⟩;go_wp2;go_ret;exact⟨by rw[D.o];rfl,G _⟩
 ·by_cases B:n=0
  ·cases E:q0p tx with
   | true=>
    have D:Hid (q0q ⟨7,tx,n⟩=0):=j7o B E;subst B;have J:Hid (q0p tx=true):=E;clear E;go_in;go_wp2_with fail;refine(q0g 7 0 false rfl rfl _).mono ?_;rintro e C⟨rfl,rfl⟩;go_wp2_with fail;refine(q0i 7 true rfl _).mono ?_;rintro e C⟨rfl,rfl⟩;go_wp2_with fail;refine(q0i 7 true rfl _).mono ?_;rintro e C⟨rfl,rfl⟩;go_wp2_with fail;refine(q4a tx _).mono ?_;rintro e C⟨rfl,rfl⟩;rw[J.o];go_wp2;go_ret;exact⟨by rw[D.o];rfl,G _⟩
   | false=>
    have D:Hid (q0q ⟨7,tx,n⟩=5):=j7p B E;subst B;have J:Hid (q0p tx=false):=E;clear E;go_in;go_wp2_with fail;refine(q0g 7 0 false rfl rfl _).mono ?_;rintro e C⟨rfl,rfl⟩;go_wp2_with fail;refine(q0i 7 true rfl _).mono ?_;rintro e C⟨rfl,rfl⟩;go_wp2_with fail;refine(q0i 7 true rfl _).mono ?_;rintro e C⟨rfl,rfl⟩;go_wp2_with fail;refine(q4a tx _).mono ?_;rintro e C⟨rfl,rfl⟩;rw[J.o];go_wp2;go_ret;exact⟨by rw[D.o];rfl,G _⟩
  ·have D:Hid (q0q ⟨7,tx,n⟩=2):=j7n B;have P:(n==0)=false:=by simp[B]
   have Q:(n != 0)=true:=by simp[B]
   go_in;go_wp2_with fail;refine(q0g 7 0 false rfl rfl _).mono ?_;rintro e C⟨rfl,rfl⟩;go_wp2;go_ret;exact⟨by rw[D.o];rfl,G _⟩
 ·by_cases B:n=0
  ·by_cases E:0<(tx.size:Int)
   ·have D:Hid (q0q ⟨8,tx,n⟩=2):=j7r B E;subst B;have L:=q8r E;have R:(tx.toList != [])=true:=by simp[bne,L]
    go_in;go_wp2_with fail;refine(q0g 8 0 false rfl rfl _).mono ?_;rintro e C⟨rfl,rfl⟩;go_wp2_with fail;refine(q0i 8 false rfl _).mono ?_;rintro e C⟨rfl,rfl⟩;go_wp2;go_ret;exact⟨by rw[D.o];rfl,G _⟩
   ·have D:Hid (q0q ⟨8,tx,n⟩=0):=j7s B E;subst B;have K:=q6i E;subst K;go_in;go_wp2_with fail;refine(q0g 8 0 false rfl rfl _).mono ?_;rintro e C⟨rfl,rfl⟩;go_wp2_with fail;refine(q0i 8 false rfl _).mono ?_;rintro e C⟨rfl,rfl⟩;go_wp2_with fail;refine(q0i 8 false rfl _).mono ?_;rintro e C⟨rfl,rfl⟩;go_wp2;go_ret;exact⟨by rw[D.o];rfl,G _⟩
  ·have D:Hid (q0q ⟨8,tx,n⟩=2):=j7q B;have P:(n==0)=false:=by simp[B]
   have Q:(n != 0)=true:=by simp[B]
   go_in;go_wp2_with fail;refine(q0g 8 0 false rfl rfl _).mono ?_;rintro e C⟨rfl,rfl⟩;go_wp2;go_ret;exact⟨by rw[D.o];rfl,G _⟩
 ·by_cases B:n=0
  ·have D:Hid (q0q ⟨9,tx,n⟩=q2x tx):=by
    show _=_;by_cases h:q2x tx=0
    ·rw[j7u B h,h]
    ·exact j7v B h
   subst B;go_in;go_wp2_with fail;refine(q0g 9 0 false rfl rfl _).mono ?_;rintro e C⟨rfl,rfl⟩;go_wp2_with fail;refine(j0y tx _ hs).mono ?_;rintro e C⟨A,Y,c,rfl,X,W,U⟩;have V:Below w w C:=z5r Zb Zl U;clear U;go_wp2_with fail;refine(q6k Y A c _ X).mono ?_;rintro e Z⟨rfl,rfl⟩;rw[W,<-D.o];go_wp2;go_ret;exact⟨rfl,V⟩
  ·have D:Hid (q0q ⟨9,tx,n⟩=2):=j7t B;have P:(n==0)=false:=by simp[B]
   have Q:(n != 0)=true:=by simp[B]
   go_in;go_wp2_with fail;refine(q0g 9 0 false rfl rfl _).mono ?_;rintro e C⟨rfl,rfl⟩;go_wp2;go_ret;exact⟨by rw[D.o];rfl,G _⟩
def j1k(ds:List Td):Prop:=∀x∈ds,x.tx.size<=140737488351232
theorem v0a(x:Td)(w:World):Calls prog 207 #[tdV x] w fun e w'=>e=.returned (.int .i64 (kdZ x))/\Below w w w':=by
 obtain⟨A,J,n⟩:=x;have B:∀O:Obj,Below w w (w.alloc O):=fun O=>(Below.refl _ w).alloc Zl O
 by_cases C:A=3
 ·subst C;go_in;go_wp2;go_ret;exact⟨by simp[kdZ],B _⟩
 by_cases D:A=4
 ·subst D;go_in;go_wp2;go_ret;exact⟨by simp[kdZ],B _⟩
 by_cases E:A=5
 ·subst E;go_in;go_wp2;go_ret;exact⟨by simp[kdZ,kdT],B _⟩
 by_cases G:A=6
 ·subst G;go_in;go_wp2;go_ret;exact⟨by simp[kdZ,kdT],B _⟩
 by_cases H:A=7
 ·subst H;go_in;go_wp2;go_ret;exact⟨by simp[kdZ,kdT],B _⟩
 by_cases I:A=8
 ·subst I;go_in;go_wp2;go_ret;exact⟨by simp[kdZ,kdT],B _⟩
 have K:Hid (kdZ ⟨A,J,n⟩=0):=by show kdZ ⟨A,J,n⟩=0;simp[kdZ,kdT,C,D,E,G,H,I]
 have L:(A==3)=false:=by simp[C]
 have M:(A==4)=false:=by simp[D]
 have N:(A==5)=false:=by simp[E]
 have P:(A==6)=false:=by simp[G]
 have Q:(A==7)=false:=by simp[H]
 have R:(A==8)=false:=by simp[I]
 clear C D E G H I;go_in;go_wp2;go_ret;exact⟨by rw[K.o];rfl,B _⟩
theorem v6j(x:Td)(h:q0q x=0)(w:World):Calls prog 207 #[.agg #[.int .i64 x.op,.string x.tx,.int .i64 x.n]] w fun e w'=>e=.returned (.int .i64 (kdT x:Int))/\Below w w w':=by
 have:=v0a x w
 rw[v8h h]at this;exact this
def v9q(o:Option Nat)(j:Nat)(b:Bool):Prop:=o=if b=true then some j else none
def v7k(ds:List Td)(i:Nat)(e:Ending):Prop:=∃(j:Nat)(b:Bool),e=.returned (.tuple #[.int .i64 (j:Int),.bool b])/\v9q (q3q ds i 1) j b
theorem v9q.yes{o:Option Nat}{j:Nat}(h:o=some j):v9q o j true:=h
theorem v9q.no{o:Option Nat}{j:Nat}(h:o=none):v9q o j false:=h
theorem j0x(ds:List Td)(a:Option Addr)(cap:Nat)(hl:ds.length<=40)(hk:∀x∈ds,q0q x=0)(i:Nat)(hi:i<=ds.length)(w:World)(hN:Tds w a ds):
  Calls prog 163 #[.slice a ds.length cap,.int .i64 i] w fun e w'=>v7k ds i e/\Below w w w':=by
 have V:Hid (Tds w a ds):=hN;have N:Hid (∀x∈ds,q0q x=0):=hk;clear hN hk;go_in;go_wp2
 go_loopw [1,6] (fun z m wr=>Below w w wr/\∃k q:Nat,k<=ds.length/\q<=1+6*k/\z=.int .i64 (k:Int)/\m=.int .i64 (q:Int)/\q3q ds i 1=q3q ds k q) (fun z _ _=>ds.length-(intOf z).toNat)
 case atStart=>exact⟨Below.refl _ _,i,1,hi,by omega,rfl,rfl,rfl⟩
 case round=>
  obtain⟨E,k,q,Y,g,rfl,rfl,U⟩:=hrel;have H:Hid (q3q ds i 1=q3q ds k q):=U;have A:Hid (Below w w wr):=E;clear U E;by_cases J:q=0
  ·subst J
   have I:Hid (q3q ds i 1=some k):=by
    show _=_;rw[H.o,k0q]
   go_wp2;go_ret2;exact⟨⟨k,true,rfl,v9q.yes I.o⟩,A.o⟩
  ·obtain⟨p,rfl⟩:∃p,q=p+1:=⟨q-1,by omega⟩;have C:((p+1:Nat):Int)=(p:Int)+1:=by omega
   have Z:(0:Int)<(p:Int)+1:=by omega
   have M:((p:Int)+1==0)=false:=beq_false_of_ne (by omega);by_cases B:k<ds.length
   ·have L:(k:Int)<(ds.length:Int):=by omega
    obtain⟨b,o,X,f,Q,R,S⟩:=(V.o.W A.o) k B;subst X;have K:=v8g (N.o _ (List.getElem_mem B));have D:Hid (∀W:World,Calls prog 207 #[.agg #[.int .i64 ds[k].op,.string ds[k].tx,.int .i64 ds[k].n]] W fun e w'=>e=.returned (.int .i64 (kdT ds[k]:Int))/\Below W W w'):=fun W=>v6j _ (N.o _ (List.getElem_mem B)) W
    have O:Hid (q3q ds i 1=q3q ds (k+1) (kdT ds[k]+p)):=by
     show _=_;rw[H.o,z3u ds k p B]
    generalize kdT ds[k]=d at K D O;generalize ds[k].op=xo at Q D;generalize ds[k].tx=xt at R D;generalize ds[k].n=xn at S D;rw[C];clear J M C;go_wp2_with fail;refine(D.o _).mono ?_;rintro e c⟨rfl,P⟩;have G:Hid (Below w w c):=q0e A.o Zl P;clear P Q R S;go_wp2
    go_roundw
    case rel=>exact⟨G.o,k+1,d+p,by omega,by omega,by go_num,by go_num,O.o⟩
    case measure=>simp[intOf];omega
   ·have L:¬(k:Int)<(ds.length:Int):=by omega
    have I:Hid (q3q ds i 1=none):=by
     show _=_;rw[H.o,q8j ds k p (by omega)]
    rw[C];clear J C;go_wp2;go_ret2;exact⟨⟨k,false,rfl,v9q.no I.o⟩,A.o⟩
theorem v6o{w:World}{a:Option Addr}{c:Nat}{x:Td}{r:List Td}(h:Tds w a (x::r))(hc:r.length+1<=c):
  ∃A,(∀W:World,(Instr.slice 51 (.slice a (r.length+1) c) (some (.int .i64 1)) none none).run prog W=.ok (.slice A r.length (c-1)) W)/\Tds w A r:=by
 obtain⟨b,o,rfl,J,_,_,_⟩:=h 0 (by simp);refine⟨if c=1 then some ⟨b,o,none⟩else some ⟨b,o+3,none⟩,fun W=>?_,?_⟩
 ·have H:=run_slice_l (P:=prog) W 51 (some ⟨b,o,none⟩) (r.length+1) c Tryz.underlying51 .i64 1 (by omega) (by omega);rw[H];have L:(sizeOf (prog.elem 51)).run prog W=.ok 3 W:=by kernel_rfl
  rw[L];have I:(⟨b,o,none⟩:Addr).add 3=⟨b,o+3,none⟩:=rfl;simp[Result.andThen,sliced,I]
 ·by_cases e:c=1
  ·have:r=[]:=List.eq_nil_of_length_eq_zero (by omega)
   subst this;exact fun i E=>by simp at E
  ·rw[if_neg e];intro i E;obtain⟨M,N,G,K,B,C,D⟩:=h (i+1) (by simp;omega);cases G;rw[show o+(i+1)*3=o+3+i*3 by omega]at B C D;exact⟨b,o+3,rfl,J,B,C,D⟩
theorem y5s{x:Td}(h:q0q x=0):1<=x.op/\x.op<=9:=by
 unfold q0q at h
 split at h
 ·cases h
 ·omega
def q7l(ds:List Td):Bool:=decide (q3q ds 0 1=some ds.length)&&k5i ds
theorem j9t:q7l []=false:=by
 have:q3q [] 0 1=none:=q8j _ _ _ Zl
 simp[q7l,this]
theorem j1b{ds:List Td}(hl:ds.length<=40)(ha:∀x∈ds,q0q x=0):q0c ds=if q7l ds=true then 0 else 2:=by
 rw[z0w hl ha];simp only[q7l,Bool.and_eq_true,decide_eq_true_eq]
theorem v0b(ds:List Td)(a:Option Addr)(cap:Nat)(hl:ds.length<=40)(hk:∀x∈ds,q0q x=0)(w:World)(hc:ds.length<=cap)(hN:Tds w a ds):
  Calls prog 100 #[.slice a ds.length cap] w fun e w'=>e=.returned (.bool (q7l ds))/\Below w w w':=by
 cases ds with
 | nil=>
  rw[j9t];clear hk hN hl hc;go_in;go_wp2;go_ret;exact⟨rfl,Below.refl _ _⟩
 | cons x r=>
  have l:Hid (Tds w a (x::r)):=hN;have h:Hid (∀y∈x::r,q0q y=0):=hk;obtain⟨b,o,ea,hb,m,_,_⟩:=hN 0 (by simp);have hx:=y5s (hk x (by simp));have R:(x::r).length=r.length+1:=rfl;rw[R]at hl hc⊢;have hp:¬(r.length:Int)+1=0:=by omega
  have Ad:((r.length:Int)+1==0)=false:=beq_false_of_ne hp;have Ac:(0:Int)<(r.length:Int)+1:=by omega
  have Q:w.cell? ⟨b,o,none⟩=some (.int .i64 x.op):=by simpa using m
  clear m hN;subst ea;by_cases h7:7<=x.op
  ·have M:Hid (exB x.op=false):=by show exB x.op=false;simp[exB];omega
   obtain⟨A,f,t⟩:=v6o l.o hc;have u:Hid (Tds w A r):=t;clear t;generalize Ae:x.op=xo at Q M;go_in;go_wp2_with fail;refine(z0s xo _).mono ?_;rintro e V⟨rfl,rfl⟩;rw[M.o];go_wp2_with fail
   go_loopw [20] (fun i wr=>Below w w wr/\∃k:Nat,k<=r.length/\i=.int .i64 (k:Int)/\∀y∈r.take k,y.op<7) (fun i _=>r.length-(intOf i).toNat)
   case atStart=>exact⟨Below.refl _ _,0,Nat.zero_le _,rfl,by simp⟩
   case round=>
    obtain⟨E,k,Ab,rfl,H⟩:=hrel;have I:Hid (Below w w wr):=E;have K:Hid (∀O:Obj,Below w w (wr.alloc O)):=fun O=>E.alloc E.size O
    clear E;have g:Hid (∀y∈r.take k,y.op<7):=H;clear H f;by_cases J:k<r.length
    ·have d:(k:Int)<(r.length:Int):=by omega
     obtain⟨b1,o1,z,Aa,p,q,s⟩:=(u.o.W I.o) k J;subst z;have U:=y5s (h.o r[k] (by simp));by_cases G:r[k].op<7
     ·have N:Hid (exB r[k].op=true):=by show exB r[k].op=true;simp[exB];omega
      have X:Hid (∀y∈r.take (k+1),y.op<7):=by
       intro y B;rw[List.take_succ_eq_append_getElem J]at B;rcases List.mem_append.1 B with B|B
       ·exact g.o y B
       ·simp at B;subst B;exact G
      clear G U;generalize r[k].op=yo at p N;generalize r[k].tx=yt at q;generalize r[k].n=yn at s;go_wp2_with fail;refine(z0s yo _).mono ?_;rintro e V⟨rfl,rfl⟩;rw[N.o];go_wp2
      go_roundw
      case rel=>exact⟨K.o _,k+1,by omega,by go_num,X.o⟩
      case measure=>simp[intOf];omega
     ·have N:Hid (exB r[k].op=false):=by show exB r[k].op=false;simp[exB];omega
      have D:Hid (q7l (x::r)=false):=by
       show _=_
       have:k5i (x::r)=false:=by
        simp only[k5i,Bool.and_eq_false_iff,List.all_eq_false];exact .inr ⟨r[k],List.getElem_mem J,by simp[G]⟩
       simp[q7l,this]
      clear G U;generalize r[k].op=yo at p N;generalize r[k].tx=yt at q;generalize r[k].n=yn at s;go_wp2_with fail;refine(z0s yo _).mono ?_;rintro e V⟨rfl,rfl⟩;rw[N.o];go_wp2;go_ret;exact⟨by rw[D.o];rfl,K.o _⟩
    ·have d:¬(k:Int)<(r.length:Int):=by omega
     have L:Hid (k5i (x::r)=true):=by
      show _=_;simp only[k5i,Bool.and_eq_true,decide_eq_true_eq,List.all_eq_true];refine⟨by omega,fun y U=>g.o y ?_⟩;rw[List.take_of_length_le (by omega)];exact U
     have Y:Hid (Calls prog 163 #[.slice (some ⟨b,o,none⟩) (r.length+1) cap,.int .i64 0] wr fun e w'=>v7k (x::r) 0 e/\Below wr wr w'):=j0x (x::r) _ cap hl h.o 0 (Nat.zero_le _) wr (l.o.W I.o);go_wp2_with fail;refine Y.o.mono ?_;rintro e V⟨⟨j,v,rfl,C⟩,P⟩;have Z:=q0e I.o Zl P;clear P;cases v with
     | false=>
      have C:q3q (x::r) 0 1=none:=C
      have D:Hid (q7l (x::r)=false):=by
       show _=_;simp[q7l,C]
      clear C;go_wp2;go_ret;exact⟨by rw[D.o];rfl,Z⟩
     | true=>
      have C:q3q (x::r) 0 1=some j:=C;by_cases S:(j:Int)=(r.length:Int)+1
      ·have D:Hid (q7l (x::r)=true):=by
        show _=_
        have:j=r.length+1:=by omega
        simp[q7l,C,this,L.o]
       have c:((j:Int)==(r.length:Int)+1)=true:=beq_iff_eq.2 S;clear C S;go_wp2;go_ret;exact⟨by rw[D.o];rfl,Z⟩
      ·have D:Hid (q7l (x::r)=false):=by
        show _=_
        have:¬j=r.length+1:=by omega
        simp[q7l,C,this]
       have c:((j:Int)==(r.length:Int)+1)=false:=beq_false_of_ne S;clear C S;go_wp2;go_ret;exact⟨by rw[D.o];rfl,Z⟩
  ·have M:Hid (exB x.op=true):=by show exB x.op=true;simp[exB];omega
   have D:Hid (q7l (x::r)=false):=by
    show _=_
    have:k5i (x::r)=false:=by simp[k5i,h7]
    simp[q7l,this]
   generalize x.op=xo at Q M;go_in;go_wp2_with fail;refine(z0s xo _).mono ?_;rintro e V⟨rfl,rfl⟩;rw[M.o];go_wp2;go_ret;exact⟨by rw[D.o];rfl,Below.refl _ _⟩
theorem q7c(ds:List Td)(a:Option Addr)(cap:Nat)(w:World)(hc:ds.length<=cap)(hN:Tds w a ds)(G:j1k ds):Calls prog 56 #[.slice a ds.length cap] w fun e w'=>e=.returned (q1r (q0c ds))/\Below w w w':=by
 have V:Hid (Tds w a ds):=hN;have M:Hid (j1k ds):=G;clear hN G;by_cases d:40<(ds.length:Int)
 ·rw[z6z (by omega),k6j];go_in;go_wp2;go_ret;exact⟨rfl,Below.refl _ _⟩
 ·have N:ds.length<=40:=by omega
  go_in;go_wp2
  go_loopw [12] (fun i wr=>Below w w wr/\∃k:Nat,k<=ds.length/\i=.int .i64 k/\∀x∈ds.take k,q0q x=0) (fun i _=>ds.length-(intOf i).toNat)
  case atStart=>exact⟨Below.refl _ _,0,Nat.zero_le _,rfl,by simp⟩
  case round=>
   obtain⟨J,k,g,rfl,C⟩:=hrel;have K:Hid (∀x∈ds.take k,q0q x=0):=C;have Q:Hid (Tds wr a ds):=V.o.W J;clear C;by_cases B:k<ds.length
   ·obtain⟨b,o,X,f,Y,Z,c⟩:=Q.o k B;have H:=M.o _ (List.getElem_mem B);subst X;by_cases I:q0q ds[k]=0
    ·have E:Hid (q0q ds[k]=0):=I;clear I;go_wp2_with fail;refine(k2o ds[k] _ H).mono ?_;rintro e U⟨rfl,A⟩;rw[E.o,q0z];have D:=z5r J Zl A;clear A;go_wp2
     go_roundw
     case rel=>exact⟨D,k+1,by omega,by go_num,z6y B K.o E.o⟩
     case measure=>simp[intOf];omega
    ·have E:Hid (q0q ds[k]≠0):=I;clear I;go_wp2_with fail;refine(k2o ds[k] _ H).mono ?_;rintro e U⟨rfl,A⟩;rw[q0l E.o];have D:=z5r J Zl A;clear A;go_wp2;go_ret;refine⟨?_,D⟩;rw[z7a N B K.o E.o,q0l E.o];rfl
   ·have P:Hid (∀x∈ds,q0q x=0):=by
     have:=K.o
     rw[List.take_of_length_le (by omega)]at this;exact this
    have L:Hid (q0c ds=if q7l ds=true then 0 else 2):=j1b N P.o;have R:Hid (Calls prog 100 #[.slice a ds.length cap] wr fun e w'=>e=.returned (.bool (q7l ds))/\Below wr wr w'):=v0b ds a cap N P.o wr hc Q.o;generalize q7l ds=sb at L R;go_wp2_with fail;refine R.o.mono ?_;rintro e U⟨rfl,S⟩;have O:=q0e J Zl S;clear S;cases sb with
    | true=>
     go_wp2;go_ret;exact⟨by rw[L.o];rfl,O⟩
    | false=>
     go_wp2;go_ret;exact⟨by rw[L.o];rfl,O⟩
abbrev neW(w:Wd):Bool:=!w.isEmpty
theorem k3t:∀(ws:List Wd)(t:Wd),ws.foldl q6n t=(ws.filter neW).foldl q6n t
 | [],_=>rfl
 | w::r,t=>by
  cases w with
  | nil=>
   have e:q6n t []=t:=by simp[q6n]
   rw[List.foldl_cons,e,k3t r t];rfl
  | cons c z=>exact k3t r _
theorem z3v:∀(l cur h:Wd)(tl:List Wd),(∀b∈l,Lib.isSp b=true->b=32)->q5l l=h::tl->Lib.fieldsGo cur l=((cur++h)::tl).filter neW
 | [],cur,h,tl,_,e=>by
  have e2:[[]]=h::tl:=e;simp only[List.cons.injEq]at e2;obtain⟨rfl,rfl⟩:=e2;cases cur<;>simp[Lib.fieldsGo]
 | b::l,cur,h,tl,hb,e=>by
  have hl:∀x∈l,Lib.isSp x=true->x=32:=fun x hx=>hb x (by simp[hx])
  cases hs:q5l l with
  | nil=>exact absurd hs (q9n l)
  | cons h2 tl2=>
   by_cases h32:b=32
   ·subst h32;rw[q6j,hs]at e;simp only[List.cons.injEq]at e;obtain⟨rfl,rfl⟩:=e;have ih:=z3v l [] h2 tl2 hl hs;have hsp:Lib.isSp 32=true:=by decide
    cases cur with
    | nil=>rw[Lib.fieldsGo_sp _ _ hsp,ih];simp
    | cons a z=>rw[Lib.fieldsGo_end _ _ _ hsp (by simp),ih];simp
   ·have hsp:Lib.isSp b=false:=by
     cases A:Lib.isSp b with
     | false=>rfl
     | true=>exact absurd (hb b (by simp) A) h32
    rw[q4y h32 hs]at e;simp only[List.cons.injEq]at e;obtain⟨rfl,rfl⟩:=e;rw[Lib.fieldsGo_more _ _ _ hsp,z3v l (cur++[b]) h2 tl2 hl hs];simp
theorem z1n{l:Wd}(h:∀b∈l,Lib.isSp b=true->b=32):Lib.fields l=(q5l l).filter neW:=by
 cases A:q5l l with
 | nil=>exact absurd A (q9n l)
 | cons a tl=>exact z3v l [] a tl h A
theorem k0s{l:Wd}(h:∀b∈l,Lib.isSp b=true->b=32):∀w∈Lib.fields l,w≠[]:=by
 intro w A;rw[z1n h]at A
 have:=(List.mem_filter.1 A).2
 rintro rfl;simp at this
theorem k9y{l:Wd}(h:∀b∈l,Lib.isSp b=true->b=32):ntx (q0f l)=jb (Lib.fields l):=by
 have e:(q0f l).filter neW=Lib.fields l:=by
  rw[z1n h];unfold q0f
  split
  ·rename_i h0;subst h0;rfl
  ·rfl
 rw[<-y5p (k0s h),<-e,ntx,ntx,k3t]
theorem j4t:∀(a b:List Wd),a≠[]->b≠[]->jb (a++b)=jb a++32::jb b
 | [w],b,_,hb=>by
  cases b with
  | nil=>exact absurd rfl hb
  | cons x y=>simp[jb]
 | w::u::r,b,_,hb=>by
  have ih:=j4t (u::r) b (by simp) hb;rw[List.cons_append]at ih;simp only[List.cons_append,jb]at ih⊢;rw[ih];simp
theorem v8f{a:List Wd}(h:∀w∈a,w≠[]):jb a=[]↔a=[]:=by
 cases a with
 | nil=>simp[jb]
 | cons w r=>
  have:=h w (by simp)
  constructor
  ·intro e;have A:w++(match r with|[]=>[]|_::_=>32::jb r)=[]:=e;exact absurd (List.append_eq_nil_iff.1 A).1 this
  ·intro e;cases e
theorem v9x{a b:List Wd}(ha:∀w∈a,w≠[])(hb:∀w∈b,w≠[]):q6n (jb a) (jb b)=jb (a++b):=by
 by_cases A:a=[]
 ·subst A
  have:jb ([]:List Wd)=[]:=rfl
  rw[this,q6n,if_neg (by simp)];rfl
 ·by_cases B:b=[]
  ·subst B
   have:jb ([]:List Wd)=[]:=rfl
   rw[this,q6n,if_neg (by simp)];simp
  ·have C:jb a≠[]:=fun e=>A ((v8f ha).1 e)
   have D:jb b≠[]:=fun e=>B ((v8f hb).1 e)
   rw[q6n,if_pos ⟨D,C⟩,j4t a b A B];simp
theorem j4u:∀ws:List Wd,Lib.join ws [32]=jb ws
 | []=>rfl
 | [w]=>by rw[Lib.join_one];simp[jb]
 | w::u::r=>by
  have ih:=j4u (u::r);rw[Lib.join_cons]at ih⊢;rw[jb,<-ih];simp[Lib.joinTail]
def q9r(w:Wd):List Wd:=Lib.fields (w.drop 1)
def v8d(w:Wd):Prop:=w.headD 0=35/\∀b∈w,prB b=true
theorem y5z{b:UInt8}(h:prB b=true)(hs:Lib.isSp b=true):b=32:=by
 simp only[prB,Bool.and_eq_true,decide_eq_true_eq]at h;simp only[Lib.isSp,Bool.or_eq_true,beq_iff_eq]at hs;have A:=h.1;rcases hs with(((((e|e)|e)|e)|e)|e)<;>subst e<;>first|rfl|(exfalso;revert A;decide)
theorem y5n{w:Wd}(h:v8d w):∀b∈w.drop 1,Lib.isSp b=true->b=32:=fun b hb hs=>y5z (h.2 b (List.mem_of_mem_drop hb)) hs
theorem y5o{w:Wd}(h:v8d w):q0y w=jb (q9r w):=k9y (y5n h)
theorem j4i{w:Wd}(h:v8d w):∀x∈q9r w,x≠[]:=k0s (y5n h)
theorem j1x(A:List (List Td))(X t:Wd):k0d true (A++[[ntT X]]) t=A++[[ntT (q6n X t)]]:=by
 have e:q5m (A++[[ntT X]])=X:=by
  simp only[q5m,List.getLast?_append,List.getLast?_singleton];rfl
 rw[k0d,if_pos rfl,e,List.dropLast_concat]
theorem j8w:∀(nts:List Wd)(acc:List (List Td))(W:List Wd)(ts:List Wd)(r:Rp),(∀w∈nts,v8d w)->(∀x∈W,x≠[])->PG true (acc++[[ntT (jb (W++nts.flatMap q9r))]]) ts r->PG true (acc++[[ntT (jb W)]]) (nts++ts) r
 | [],acc,W,ts,r,_,_,h=>by simpa using h
 | w::z,acc,W,ts,r,hn,hW,h=>by
  have hw:=hn w (by simp);refine .note hw.1 ?_;rw[j1x,y5o hw,v9x hW (j4i hw)];refine j8w z acc (W++q9r w) ts r (fun x hx=>hn x (by simp[hx])) ?_ ?_
  ·intro x hx;rcases List.mem_append.1 hx with hx|hx
   ·exact hW x hx
   ·exact j4i hw x hx
  ·rw[List.flatMap_cons,<-List.append_assoc]at h;exact h
theorem v5j{A:List Wd}{B:List (List Td)}{ts:List Wd}{r:Rp}(h0:A≠[])(hn:∀w∈A,v8d w)(h:PG true (B++[[ntT (jb (A.flatMap q9r))]]) ts r):PG false B (A++ts) r:=by
 cases A with
 | nil=>exact absurd rfl h0
 | cons w z=>
  have C:=hn w (by simp);refine .note C.1 ?_;rw[k0d,if_neg (by simp),y5o C];refine j8w z B (q9r w) ts r (fun x hx=>hn x (by simp[hx])) (j4i C) ?_;rw[List.flatMap_cons]at h;exact h
theorem v0h{p:UInt8->Bool}{c:UInt8}{r:List UInt8}(hc:p c=true)(hl:(r.takeWhile p).length+1=(c::r).length):∀b∈c::r,p b=true:=by
 have B:r.takeWhile p=r:=by
  have G:=z5a (p:=p) r;rw[show(r.takeWhile p).length=r.length by simp only[List.length_cons]at hl;omega,List.take_length]at G;exact G.symm
 have E:∀(l:List UInt8)x,x∈l.takeWhile p->p x=true:=by
  intro l
  induction l with
  | nil=>intro x A;cases A
  | cons a l ih=>
   intro x A;rw[List.takeWhile_cons]at A;by_cases D:p a=true
   ·rw[if_pos D]at A;rcases List.mem_cons.1 A with rfl|A
    ·exact D
    ·exact ih x A
   ·rw[if_neg D]at A;cases A
 intro b C;rcases List.mem_cons.1 C with rfl|C
 ·exact hc
 ·rw[<-B]at C;exact E r b C
theorem v9j{w:Wd}(h:q3a w):w≠[]:=by
 obtain⟨c,r,rfl,_⟩:=h;simp
theorem v6p{w:Wd}(h:q3a w):nmW w=(decide (w≠z1u)&&q2j (w.headD 0)):=by
 obtain⟨c,r,rfl,_,I,D,_⟩:=h;have C:btL (wbS (c::r))=c::r:=rfl;have B:(wbS (c::r)).size=(c::r).length:=by rw[<-q0b,C]
 unfold nmW q0p;rw[C,B];show _=(decide ((c::r)≠z1u)&&q2j c);cases A:q2j c with
 | false=>simp[A]
 | true=>
  simp only[q6o,A,if_true,decide_eq_true_eq]at I;simp only[q1d,A,if_true]at D;have E:=v0h A D;have G:(c::r).all q2j=true:=List.all_eq_true.2 E;rw[G];have H:(c::r).length<=8:=by omega
  simp only[List.length_cons]at H⊢;simp;omega
theorem y3f{w:Wd}(h:q3a w)(hn:z0g w=true):(∀b∈w,q2a b=true)/\w.length<=6:=by
 obtain⟨c,r,rfl,_,D,C,_⟩:=h;have B:q2a c=true:=hn;have A:q2j c=false:=k3p B;simp only[q6o,A,B,if_true,Bool.false_eq_true,if_false,Bool.and_eq_true,decide_eq_true_eq]at D;simp only[q1d,A,B,if_true,Bool.false_eq_true,if_false]at C;exact⟨v0h B C,by omega⟩
theorem y6r{w:Wd}(h:q3a w)(hn:w.headD 0=35):v8d w:=by
 obtain⟨c,r,rfl,_,C,I,_⟩:=h;have J:c=35:=hn;subst J;have D:q2j 35=false:=by decide
 have E:q2a 35=false:=by decide
 have G:((35:UInt8)==35)=true:=by decide
 simp only[q6o,D,E,G,if_true,Bool.false_eq_true,if_false]at C;simp only[q1d,D,E,G,if_true,Bool.false_eq_true,if_false]at I
 have A:r.takeWhile nlB=r:=by
  have H:=z5a (p:=nlB) r;rw[show(r.takeWhile nlB).length=r.length by simp only[List.length_cons]at I;omega,List.take_length]at H;exact H.symm
 rw[A,List.all_eq_true]at C;refine⟨rfl,fun b B=>?_⟩;rcases List.mem_cons.1 B with rfl|B
 ·decide
 ·exact C b B
end Go.Proofs.YthcpdohdppkmkaaGreatDoor
