import Derived.Test.YtfdppahhbpfnoaaGreatDoorPb17
import Derived.Test.YtfdppahhbpfnoaaGreatDoorPb11
open Go.Proofs.Tryz
namespace Go.Proofs.YtfdppahhbpfnoaaGreatDoor
open Go Go.RowKit
set_option maxRecDepth 100000
set_option maxHeartbeats 8000000
theorem q3l(s:ByteArray)(w:World):Calls prog 100 #[.string s] w fun e w'=>e=.returned (.bool (q0o s))/\w=w':=by
 by_cases O:(s.size:Int)<1
 ·have A:Hid (q0o s=false):=z4i (by omega);go_in;go_wp2;go_ret;exact⟨by rw[A.o];rfl,rfl⟩
 by_cases P:8<(s.size:Int)
 ·have A:Hid (q0o s=false):=z6n (by omega);go_in;go_wp2;go_ret;exact⟨by rw[A.o];rfl,rfl⟩
 by_cases D:s=⟨#[108,101,116]⟩
 ·subst D;go_in;go_wp2;go_ret;exact⟨by rfl,rfl⟩
 have L:Hid (¬s=⟨#[108,101,116]⟩):=D
 have J:¬s.toList=[108,101,116]:=by
  rw[ByteArray.toList_eq];intro e;exact D (j5y.1 e)
 have N:(s.toList==[108,101,116])=false:=beq_false_of_ne J;clear D;go_in;go_wp2_with fail
 go_loopw [18] (fun i wr=>wr=w/\∃k:Nat,k<=s.size/\i=.int .i64 k/\∀j(h:j<s.size),j<k->q2f s[j]=true) (fun i _=>s.size-(intOf i).toNat)
 case atStart=>exact⟨rfl,0,Nat.zero_le _,rfl,fun j _ hj=>by omega⟩
 case round=>
  obtain⟨rfl,k,Q,rfl,B⟩:=hrel;have K:Hid (∀j(h:j<s.size),j<k->q2f s[j]=true):=B;clear B;by_cases I:k<s.size
  ·cases C:q2f s[k]with
   | false=>
    have A:Hid (q0o s=false):=k2p I C;by_cases G:(s[k].toNat:Int)<97
    ·clear C;go_wp2;go_ret;exact⟨by rw[A.o];rfl,rfl⟩
    ·have M:(122:Int)<(s[k].toNat:Int):=by
      simp[q2f]at C;omega
     clear C;go_wp2;go_ret;exact⟨by rw[A.o];rfl,rfl⟩
   | true=>
    have E:Hid (∀j(h:j<s.size),j<k+1->q2f s[j]=true):=fun j h hj=>by
     by_cases H:j=k
     ·subst H;exact C
     ·exact K.o j h (by omega)
    have G:¬(s[k].toNat:Int)<97/\¬(122:Int)<(s[k].toNat:Int):=by
     simp[q2f]at C;omega
    obtain⟨G,M⟩:=G;clear C;go_wp2
    go_roundw
    case rel=>exact⟨by trivial,k+1,by omega,by go_num,E.o⟩
    case measure=>simp[intOf];omega
  ·have A:Hid (q0o s=true):=k2o (by omega) (by omega) L.o fun j h=>K.o j h (by omega)
   go_wp2;go_ret;exact⟨by rw[A.o];rfl,rfl⟩
def grM(op:Int):Int:=if op=1 then 999999 else if op=3\/op=4 then 6 else 0
def grH(op:Int):Bool:=decide (op=1\/op=3\/op=4)
theorem q0f(op M:Int)(H:Bool)(hM:grM op=M)(hH:grH op=H)(w:World):Calls prog 96 #[.int .i64 op] w fun e w'=>e=.returned (.tuple #[.int .i64 M,.bool H])/\w=w':=by
 subst hM hH;by_cases A:op=1
 ·subst A;go_in;go_wp2;go_ret2;exact⟨rfl,rfl⟩
 by_cases B:op=3
 ·subst B;go_in;go_wp2;go_ret2;exact⟨rfl,rfl⟩
 by_cases C:op=4
 ·subst C;go_in;go_wp2;go_ret2;exact⟨rfl,rfl⟩
 have E:Hid (grM op=0):=by show grM op=0;simp[grM,A,B,C]
 have D:Hid (grH op=false):=by show grH op=false;simp[grH,A,B,C]
 have G:(op==1)=false:=by simp[A]
 have I:(op==3)=false:=by simp[B]
 have J:(op==4)=false:=by simp[C]
 clear A B C;go_in;go_wp2;go_ret2;exact⟨by rw[E.o,D.o];rfl,rfl⟩
def y9g(op:Int):Bool:=op==2||op==3||op==7
theorem q0i(op:Int)(H:Bool)(hH:y9g op=H)(w:World):Calls prog 99 #[.int .i64 op] w fun e w'=>e=.returned (.bool H)/\w=w':=by
 subst hH;by_cases A:op=2
 ·subst A;go_in;go_wp2;go_ret;exact⟨rfl,rfl⟩
 by_cases B:op=3
 ·subst B;go_in;go_wp2;go_ret;exact⟨rfl,rfl⟩
 by_cases C:op=7
 ·subst C;go_in;go_wp2;go_ret;exact⟨rfl,rfl⟩
 have D:Hid (y9g op=false):=by show y9g op=false;simp[y9g,A,B,C]
 have E:(op==2)=false:=by simp[A]
 have G:(op==3)=false:=by simp[B]
 have I:(op==7)=false:=by simp[C]
 clear A B C;go_in;go_wp2;go_ret;exact⟨by rw[D.o];rfl,rfl⟩
def exB(op:Int):Bool:=decide (1<=op)&&decide (op<=6)
theorem z0n(op:Int)(w:World):Calls prog 101 #[.int .i64 op] w fun e w'=>e=.returned (.bool (exB op))/\w=w':=by
 by_cases B:1<=op
 ·by_cases C:op<=6
  ·have A:Hid (exB op=true):=by show exB op=true;simp[exB,B,C]
   go_in;go_wp2;go_ret;exact⟨by rw[A.o];rfl,rfl⟩
  ·have A:Hid (exB op=false):=by show exB op=false;simp[exB,C]
   go_in;go_wp2;go_ret;exact⟨by rw[A.o];rfl,rfl⟩
 ·have A:Hid (exB op=false):=by show exB op=false;simp[exB,B]
  go_in;go_wp2;go_ret;exact⟨by rw[A.o];rfl,rfl⟩
theorem k3h(x:Td)(w:World)(hs:x.tx.size<=140737488351232):Calls prog 66 #[tdV x] w fun e w'=>e=.returned (q1m (q0m x))/\Below w w w':=by
 obtain⟨H,tx,n⟩:=x;have hs:tx.size<=140737488351232:=hs;have G:∀O:Obj,Below w w (w.alloc O):=fun O=>(Below.refl _ w).alloc Zl O
 by_cases B:H<1
 ·have D:Hid (q0m ⟨H,tx,n⟩=1):=v8m B;have M:grM H=0:=by unfold grM;rw[if_neg (by omega),if_neg (by omega)]
  have N:grH H=false:=decide_eq_false (by omega);go_in;go_wp2_with fail;refine(q0f H 0 false M N _).mono ?_;rintro e C⟨rfl,rfl⟩;go_wp2;go_ret;exact⟨by rw[D.o];rfl,G _⟩
 by_cases E:9<H
 ·have D:Hid (q0m ⟨H,tx,n⟩=1):=v8n B E;have M:grM H=0:=by unfold grM;rw[if_neg (by omega),if_neg (by omega)]
  have N:grH H=false:=decide_eq_false (by omega);go_in;go_wp2_with fail;refine(q0f H 0 false M N _).mono ?_;rintro e C⟨rfl,rfl⟩;go_wp2;go_ret;exact⟨by rw[D.o];rfl,G _⟩
 have S:H=1\/H=2\/H=3\/H=4\/H=5\/H=6\/H=7\/H=8\/H=9:=by omega
 clear B E;rcases S with rfl|rfl|rfl|rfl|rfl|rfl|rfl|rfl|rfl
 ·by_cases B:n<0
  ·have D:Hid (q0m ⟨1,tx,n⟩=1):=v8o B;go_in;go_wp2_with fail;refine(q0f 1 999999 true rfl rfl _).mono ?_;rintro e C⟨rfl,rfl⟩;go_wp2;go_ret;exact⟨by rw[D.o];rfl,G _⟩
  ·by_cases E:999999<n
   ·have D:Hid (q0m ⟨1,tx,n⟩=1):=v8p B E;go_in;go_wp2_with fail;refine(q0f 1 999999 true rfl rfl _).mono ?_;rintro e C⟨rfl,rfl⟩;go_wp2;go_ret;exact⟨by rw[D.o];rfl,G _⟩
   ·by_cases I:0<(tx.size:Int)
    ·have D:Hid (q0m ⟨1,tx,n⟩=2):=v8q B E I;have L:=q8j I;have R:(tx.toList != [])=true:=by simp[bne,L]
     go_in;go_wp2_with fail;refine(q0f 1 999999 true rfl rfl _).mono ?_;rintro e C⟨rfl,rfl⟩;go_wp2_with fail;refine(q0i 1 false rfl _).mono ?_;rintro e C⟨rfl,rfl⟩;go_wp2;go_ret;exact⟨by rw[D.o];rfl,G _⟩
    ·have D:Hid (q0m ⟨1,tx,n⟩=0):=v8r B E I;have K:=q5s I;subst K;go_in;go_wp2_with fail;refine(q0f 1 999999 true rfl rfl _).mono ?_;rintro e C⟨rfl,rfl⟩;go_wp2_with fail;refine(q0i 1 false rfl _).mono ?_;rintro e C⟨rfl,rfl⟩;go_wp2_with fail;refine(q0i 1 false rfl _).mono ?_;rintro e C⟨rfl,rfl⟩;go_wp2;go_ret;exact⟨by rw[D.o];rfl,G _⟩
 ·by_cases B:n=0
  ·cases E:q0o tx with
   | true=>
    have D:Hid (q0m ⟨2,tx,n⟩=0):=v8t B E;subst B;have J:Hid (q0o tx=true):=E;clear E;go_in;go_wp2_with fail;refine(q0f 2 0 false rfl rfl _).mono ?_;rintro e C⟨rfl,rfl⟩;go_wp2_with fail;refine(q0i 2 true rfl _).mono ?_;rintro e C⟨rfl,rfl⟩;go_wp2_with fail;refine(q0i 2 true rfl _).mono ?_;rintro e C⟨rfl,rfl⟩;go_wp2_with fail;refine(q3l tx _).mono ?_;rintro e C⟨rfl,rfl⟩;rw[J.o];go_wp2;go_ret;exact⟨by rw[D.o];rfl,G _⟩
   | false=>
    have D:Hid (q0m ⟨2,tx,n⟩=5):=v8u B E;subst B;have J:Hid (q0o tx=false):=E;clear E;go_in;go_wp2_with fail;refine(q0f 2 0 false rfl rfl _).mono ?_;rintro e C⟨rfl,rfl⟩;go_wp2_with fail;refine(q0i 2 true rfl _).mono ?_;rintro e C⟨rfl,rfl⟩;go_wp2_with fail;refine(q0i 2 true rfl _).mono ?_;rintro e C⟨rfl,rfl⟩;go_wp2_with fail;refine(q3l tx _).mono ?_;rintro e C⟨rfl,rfl⟩;rw[J.o];go_wp2;go_ret;exact⟨by rw[D.o];rfl,G _⟩
  ·have D:Hid (q0m ⟨2,tx,n⟩=2):=v8s B;have P:(n==0)=false:=by simp[B]
   have Q:(n != 0)=true:=by simp[B]
   go_in;go_wp2_with fail;refine(q0f 2 0 false rfl rfl _).mono ?_;rintro e C⟨rfl,rfl⟩;go_wp2;go_ret;exact⟨by rw[D.o];rfl,G _⟩
 ·by_cases B:n<0
  ·have D:Hid (q0m ⟨3,tx,n⟩=1):=v8v B;go_in;go_wp2_with fail;refine(q0f 3 6 true rfl rfl _).mono ?_;rintro e C⟨rfl,rfl⟩;go_wp2;go_ret;exact⟨by rw[D.o];rfl,G _⟩
  ·by_cases E:6<n
   ·have D:Hid (q0m ⟨3,tx,n⟩=1):=j6w B E;go_in;go_wp2_with fail;refine(q0f 3 6 true rfl rfl _).mono ?_;rintro e C⟨rfl,rfl⟩;go_wp2;go_ret;exact⟨by rw[D.o];rfl,G _⟩
   ·cases I:q0o tx with
    | true=>
     have D:Hid (q0m ⟨3,tx,n⟩=0):=j6x B E I;have J:Hid (q0o tx=true):=I;clear I;go_in;go_wp2_with fail;refine(q0f 3 6 true rfl rfl _).mono ?_;rintro e C⟨rfl,rfl⟩;go_wp2_with fail;refine(q0i 3 true rfl _).mono ?_;rintro e C⟨rfl,rfl⟩;go_wp2_with fail;refine(q0i 3 true rfl _).mono ?_;rintro e C⟨rfl,rfl⟩;go_wp2_with fail;refine(q3l tx _).mono ?_;rintro e C⟨rfl,rfl⟩;rw[J.o];go_wp2;go_ret;exact⟨by rw[D.o];rfl,G _⟩
    | false=>
     have D:Hid (q0m ⟨3,tx,n⟩=5):=j6y B E I;have J:Hid (q0o tx=false):=I;clear I;go_in;go_wp2_with fail;refine(q0f 3 6 true rfl rfl _).mono ?_;rintro e C⟨rfl,rfl⟩;go_wp2_with fail;refine(q0i 3 true rfl _).mono ?_;rintro e C⟨rfl,rfl⟩;go_wp2_with fail;refine(q0i 3 true rfl _).mono ?_;rintro e C⟨rfl,rfl⟩;go_wp2_with fail;refine(q3l tx _).mono ?_;rintro e C⟨rfl,rfl⟩;rw[J.o];go_wp2;go_ret;exact⟨by rw[D.o];rfl,G _⟩
 ·by_cases B:n<0
  ·have D:Hid (q0m ⟨4,tx,n⟩=1):=j6z B;go_in;go_wp2_with fail;refine(q0f 4 6 true rfl rfl _).mono ?_;rintro e C⟨rfl,rfl⟩;go_wp2;go_ret;exact⟨by rw[D.o];rfl,G _⟩
  ·by_cases E:6<n
   ·have D:Hid (q0m ⟨4,tx,n⟩=1):=j7a B E;go_in;go_wp2_with fail;refine(q0f 4 6 true rfl rfl _).mono ?_;rintro e C⟨rfl,rfl⟩;go_wp2;go_ret;exact⟨by rw[D.o];rfl,G _⟩
   ·by_cases I:0<(tx.size:Int)
    ·have D:Hid (q0m ⟨4,tx,n⟩=2):=j7b B E I;have L:=q8j I;have R:(tx.toList != [])=true:=by simp[bne,L]
     go_in;go_wp2_with fail;refine(q0f 4 6 true rfl rfl _).mono ?_;rintro e C⟨rfl,rfl⟩;go_wp2_with fail;refine(q0i 4 false rfl _).mono ?_;rintro e C⟨rfl,rfl⟩;go_wp2;go_ret;exact⟨by rw[D.o];rfl,G _⟩
    ·have D:Hid (q0m ⟨4,tx,n⟩=0):=j7c B E I;have K:=q5s I;subst K;go_in;go_wp2_with fail;refine(q0f 4 6 true rfl rfl _).mono ?_;rintro e C⟨rfl,rfl⟩;go_wp2_with fail;refine(q0i 4 false rfl _).mono ?_;rintro e C⟨rfl,rfl⟩;go_wp2_with fail;refine(q0i 4 false rfl _).mono ?_;rintro e C⟨rfl,rfl⟩;go_wp2;go_ret;exact⟨by rw[D.o];rfl,G _⟩
 ·by_cases B:n=0
  ·by_cases E:0<(tx.size:Int)
   ·have D:Hid (q0m ⟨5,tx,n⟩=2):=j7e B E;subst B;have L:=q8j E;have R:(tx.toList != [])=true:=by simp[bne,L]
    go_in;go_wp2_with fail;refine(q0f 5 0 false rfl rfl _).mono ?_;rintro e C⟨rfl,rfl⟩;go_wp2_with fail;refine(q0i 5 false rfl _).mono ?_;rintro e C⟨rfl,rfl⟩;go_wp2;go_ret;exact⟨by rw[D.o];rfl,G _⟩
   ·have D:Hid (q0m ⟨5,tx,n⟩=0):=j7f B E;subst B;have K:=q5s E;subst K;go_in;go_wp2_with fail;refine(q0f 5 0 false rfl rfl _).mono ?_;rintro e C⟨rfl,rfl⟩;go_wp2_with fail;refine(q0i 5 false rfl _).mono ?_;rintro e C⟨rfl,rfl⟩;go_wp2_with fail;refine(q0i 5 false rfl _).mono ?_;rintro e C⟨rfl,rfl⟩;go_wp2;go_ret;exact⟨by rw[D.o];rfl,G _⟩
  ·have D:Hid (q0m ⟨5,tx,n⟩=2):=j7d B;have P:(n==0)=false:=by simp[B]
   have Q:(n != 0)=true:=by simp[B]
   go_in;go_wp2_with fail;refine(q0f 5 0 false rfl rfl _).mono ?_;rintro e C⟨rfl,rfl⟩;go_wp2;go_ret;exact⟨by rw[D.o];rfl,G _⟩
 ·by_cases B:n=0
  ·by_cases E:0<(tx.size:Int)
   ·have D:Hid (q0m ⟨6,tx,n⟩=2):=j7h B E;subst B;have L:=q8j E;have R:(tx.toList != [])=true:=by simp[bne,L]
    go_in;go_wp2_with fail;refine(q0f 6 0 false rfl rfl _).mono ?_;rintro e C⟨rfl,rfl⟩;go_wp2_with fail;refine(q0i 6 false rfl _).mono ?_;rintro e C⟨rfl,rfl⟩;go_wp2;go_ret;exact⟨by rw[D.o];rfl,G _⟩
   ·have D:Hid (q0m ⟨6,tx,n⟩=0):=j7i B E;subst B;have K:=q5s E;subst K;go_in;go_wp2_with fail;refine(q0f 6 0 false rfl rfl _).mono ?_;rintro e C⟨rfl,rfl⟩;go_wp2_with fail;refine(q0i 6 false rfl _).mono ?_;rintro e C⟨rfl,rfl⟩;go_wp2_with fail;refine(q0i 6 false rfl _).mono ?_;rintro e C⟨rfl,rfl⟩;go_wp2;go_ret;exact⟨by rw[D.o];rfl,G _⟩
  ·have D:Hid (q0m ⟨6,tx,n⟩=2):=j7g B;have P:(n==0)=false:=by simp[B]
   have Q:(n != 0)=true:=by simp[B]
   go_in;go_wp2_with fail;refine(q0f 6 0 false rfl rfl _).mono ?_;rintro e C⟨rfl,rfl⟩;go_wp2;go_ret;exact⟨by rw[D.o];rfl,G _⟩
 ·by_cases B:n=0
  ·cases E:q0o tx with
   | true=>
    have D:Hid (q0m ⟨7,tx,n⟩=0):=j7k B E;subst B;have J:Hid (q0o tx=true):=E;clear E;go_in;go_wp2_with fail;refine(q0f 7 0 false rfl rfl _).mono ?_;rintro e C⟨rfl,rfl⟩;go_wp2_with fail;refine(q0i 7 true rfl _).mono ?_;rintro e C⟨rfl,rfl⟩;go_wp2_with fail;refine(q0i 7 true rfl _).mono ?_;rintro e C⟨rfl,rfl⟩;go_wp2_with fail;refine(q3l tx _).mono ?_;rintro e C⟨rfl,rfl⟩;rw[J.o];go_wp2;go_ret;exact⟨by rw[D.o];rfl,G _⟩
   | false=>
    have D:Hid (q0m ⟨7,tx,n⟩=5):=j7l B E;subst B;have J:Hid (q0o tx=false):=E;clear E;go_in;go_wp2_with fail;refine(q0f 7 0 false rfl rfl _).mono ?_;rintro e C⟨rfl,rfl⟩;go_wp2_with fail;refine(q0i 7 true rfl _).mono ?_;rintro e C⟨rfl,rfl⟩;go_wp2_with fail;refine(q0i 7 true rfl _).mono ?_;rintro e C⟨rfl,rfl⟩;go_wp2_with fail;refine(q3l tx _).mono ?_;rintro e C⟨rfl,rfl⟩;rw[J.o];go_wp2;go_ret;exact⟨by rw[D.o];rfl,G _⟩
  ·have D:Hid (q0m ⟨7,tx,n⟩=2):=j7j B;have P:(n==0)=false:=by simp[B]
   have Q:(n != 0)=true:=by simp[B]
   go_in;go_wp2_with fail;refine(q0f 7 0 false rfl rfl _).mono ?_;rintro e C⟨rfl,rfl⟩;go_wp2;go_ret;exact⟨by rw[D.o];rfl,G _⟩
 ·by_cases B:n=0
  ·by_cases E:0<(tx.size:Int)
   ·have D:Hid (q0m ⟨8,tx,n⟩=2):=j7n B E;subst B;have L:=q8j E;have R:(tx.toList != [])=true:=by simp[bne,L]
    go_in;go_wp2_with fail;refine(q0f 8 0 false rfl rfl _).mono ?_;rintro e C⟨rfl,rfl⟩;go_wp2_with fail;refine(q0i 8 false rfl _).mono ?_;rintro e C⟨rfl,rfl⟩;go_wp2;go_ret;exact⟨by rw[D.o];rfl,G _⟩
   ·have D:Hid (q0m ⟨8,tx,n⟩=0):=j7o B E;subst B;have K:=q5s E;subst K;go_in;go_wp2_with fail;refine(q0f 8 0 false rfl rfl _).mono ?_;rintro e C⟨rfl,rfl⟩;go_wp2_with fail;refine(q0i 8 false rfl _).mono ?_;rintro e C⟨rfl,rfl⟩;go_wp2_with fail;refine(q0i 8 false rfl _).mono ?_;rintro e C⟨rfl,rfl⟩;go_wp2;go_ret;exact⟨by rw[D.o];rfl,G _⟩
  ·have D:Hid (q0m ⟨8,tx,n⟩=2):=j7m B;have P:(n==0)=false:=by simp[B]
   have Q:(n != 0)=true:=by simp[B]
   go_in;go_wp2_with fail;refine(q0f 8 0 false rfl rfl _).mono ?_;rintro e C⟨rfl,rfl⟩;go_wp2;go_ret;exact⟨by rw[D.o];rfl,G _⟩
 ·by_cases B:n=0
  ·have D:Hid (q0m ⟨9,tx,n⟩=q1x tx):=by
    show _=_;by_cases h:q1x tx=0
    ·rw[j7q B h,h]
    ·exact j7r B h
   subst B;go_in;go_wp2_with fail;refine(q0f 9 0 false rfl rfl _).mono ?_;rintro e C⟨rfl,rfl⟩;go_wp2_with fail;refine(j1v tx _ hs).mono ?_;rintro e C⟨A,Y,c,rfl,X,W,U⟩;have V:Below w w C:=k0t Zb Zl U;clear U;go_wp2_with fail;refine(q5v Y A c _ X).mono ?_;rintro e Z⟨rfl,rfl⟩;rw[W,<-D.o];go_wp2;go_ret;exact⟨rfl,V⟩
  ·have D:Hid (q0m ⟨9,tx,n⟩=2):=j7p B;have P:(n==0)=false:=by simp[B]
   have Q:(n != 0)=true:=by simp[B]
   go_in;go_wp2_with fail;refine(q0f 9 0 false rfl rfl _).mono ?_;rintro e C⟨rfl,rfl⟩;go_wp2;go_ret;exact⟨by rw[D.o];rfl,G _⟩
def DcH(ds:List Td)(a:Option Addr)(cap:Nat)(F:Fo)(D:Tr):Prop:=∀i r,ds.drop i=F.N++r->∀W:World,Tds W a ds->v9q ds a cap i D W
def DcA(ds:List Td)(a:Option Addr)(cap:Nat):Fo->Prop
 | .nil=>True
 | .cons x k n=>DcH ds a cap (.cons x k n) (q0g x k.D)/\DcA ds a cap n
def j2f(w:World)(b:Nat)(o:Int)(t:ByteArray)(n:Int):Prop:=b<w.heap.size/\w.cell? ⟨b,0,none⟩=some (.int .i64 o)/\w.cell? ⟨b,1,none⟩=some (.string t)/\w.cell? ⟨b,2,none⟩=some (.int .i64 n)
theorem j2f.W{w w':World}{b:Nat}{o:Int}{t:ByteArray}{n:Int}(h:j2f w b o t n)(hb:Below w w w'):j2f w' b o t n:=by
 obtain⟨A,B,C,D⟩:=h
 have:=hb.size
 exact⟨by omega,((q1o hb).1 _ _ A).trans B,((q1o hb).1 _ _ A).trans C,((q1o hb).1 _ _ A).trans D⟩
theorem j2f.new(w:World)(o:Int)(t:ByteArray)(n:Int)(ty:TypeId):j2f (w.alloc (.cells #[.int .i64 o,.string t,.int .i64 n] ty)) w.heap.size o t n:=by
 have A:(w.alloc (.cells #[.int .i64 o,.string t,.int .i64 n] ty)).heap[w.heap.size]?=some (.cells #[.int .i64 o,.string t,.int .i64 n] ty (0,0)):=by
  show(w.heap.push _)[w.heap.size]?=_
  simp
 have B:∀k,(w.alloc (.cells #[.int .i64 o,.string t,.int .i64 n] ty)).cell? ⟨w,k,none⟩=(match (w.alloc (.cells #[.int .i64 o,.string t,.int .i64 n] ty)).heap[w.heap.size]? with
  | some (.cells c _ _)=>c[k]?
  | _=>none):=fun _=>rfl
 exact⟨by rw[World.size_alloc];omega,by rw[B,A];rfl,by rw[B,A];rfl,by rw[B,A];rfl⟩
structure q0w(W:World)(x:Td)(w:World):Prop where
 b:Below W W w
 n:j2f w W.heap.size x.op x.tx x.n
 bl:NdV w (.slice (some ⟨W.heap.size+1,0,none⟩) 1 1) [⟨2,⟨#[]⟩,0⟩]
 sf:NdV w (.slice (some ⟨W.heap.size+1+1,0,none⟩) 1 1) [⟨3,⟨#[]⟩,0⟩]
 gr:j2f w (W.heap.size+1+1+1) 8 ⟨#[]⟩ 0
 dp:j2f w (W.heap.size+1+1+1+1) 7 ⟨#[]⟩ 2
theorem q0w.W{W:World}{x:Td}{w w':World}(h:q0w W x w)(hb:Below w w w'):q0w W x w':=
 ⟨q0d h.b Zl hb,h.n.W hb,h.bl.W hb,h.sf.W hb,h.gr.W hb,h.dp.W hb⟩
abbrev dcW(W:World)(o:Int)(t:ByteArray)(n:Int):World:=((((W.alloc (.cells #[.int .i64 o,.string t,.int .i64 n] 47)).alloc (.cells #[.int .i64 2,.string ⟨#[]⟩,.int .i64 0] 107)).alloc (.cells #[.int .i64 3,.string ⟨#[]⟩,.int .i64 0] 107)).alloc (.cells #[.int .i64 8,.string ⟨#[]⟩,.int .i64 0] 107)).alloc (.cells #[.int .i64 7,.string ⟨#[]⟩,.int .i64 2] 107)
theorem k1b(W:World)(x:Td):q0w W x (dcW W x.op x.tx x.n):=by
 have s:∀(w:World)(O:Obj),Below w w (w.alloc O):=fun w O=>(Below.refl _ w).alloc Zl O
 have G:=((((j2f.new W x.op x.tx x.n 47).W (s _ (.cells #[.int .i64 2,.string ⟨#[]⟩,.int .i64 0] 107))).W (s _ (.cells #[.int .i64 3,.string ⟨#[]⟩,.int .i64 0] 107))).W (s _ (.cells #[.int .i64 8,.string ⟨#[]⟩,.int .i64 0] 107))).W (s _ (.cells #[.int .i64 7,.string ⟨#[]⟩,.int .i64 2] 107));generalize M:Obj.cells #[.int .i64 x.op,.string x.tx,.int .i64 x.n] 47=O at G;have I:(W.alloc O).heap.size=W.heap.size+1:=World.size_alloc _ _;have C:=(q5j.one (W.alloc O) ⟨2,⟨#[]⟩,0⟩).val;have J:((W.alloc O).alloc (.cells #[.int .i64 2,.string ⟨#[]⟩,.int .i64 0] 107)).heap.size=W.heap.size+1+1:=by rw[World.size_alloc,I]
 rw[I]at C;have A:=((C.W (s _ (.cells #[.int .i64 3,.string ⟨#[]⟩,.int .i64 0] 107))).W (s _ (.cells #[.int .i64 8,.string ⟨#[]⟩,.int .i64 0] 107))).W (s _ (.cells #[.int .i64 7,.string ⟨#[]⟩,.int .i64 2] 107));have H:=(q5j.one ((W.alloc O).alloc (.cells #[.int .i64 2,.string ⟨#[]⟩,.int .i64 0] 107)) ⟨3,⟨#[]⟩,0⟩).val;rw[J]at H;have K:(((W.alloc O).alloc (.cells #[.int .i64 2,.string ⟨#[]⟩,.int .i64 0] 107)).alloc (.cells #[.int .i64 3,.string ⟨#[]⟩,.int .i64 0] 107)).heap.size=W.heap.size+1+1+1:=by rw[World.size_alloc,J]
 have B:=(H.W (s _ (.cells #[.int .i64 8,.string ⟨#[]⟩,.int .i64 0] 107))).W (s _ (.cells #[.int .i64 7,.string ⟨#[]⟩,.int .i64 2] 107));have E:=j2f.new (((W.alloc O).alloc (.cells #[.int .i64 2,.string ⟨#[]⟩,.int .i64 0] 107)).alloc (.cells #[.int .i64 3,.string ⟨#[]⟩,.int .i64 0] 107)) 8 ⟨#[]⟩ 0 107;rw[K]at E;have N:((((W.alloc O).alloc (.cells #[.int .i64 2,.string ⟨#[]⟩,.int .i64 0] 107)).alloc (.cells #[.int .i64 3,.string ⟨#[]⟩,.int .i64 0] 107)).alloc (.cells #[.int .i64 8,.string ⟨#[]⟩,.int .i64 0] 107)).heap.size=W.heap.size+1+1+1+1:=by rw[World.size_alloc,K]
 have D:=j2f.new ((((W.alloc O).alloc (.cells #[.int .i64 2,.string ⟨#[]⟩,.int .i64 0] 107)).alloc (.cells #[.int .i64 3,.string ⟨#[]⟩,.int .i64 0] 107)).alloc (.cells #[.int .i64 8,.string ⟨#[]⟩,.int .i64 0] 107)) 7 ⟨#[]⟩ 2 107;rw[N]at D
 have L:Below W W (dcW W x.op x.tx x.n):=by
  refine(((((Below.refl _ W).alloc Zl _).alloc ?_ _).alloc ?_ _).alloc ?_ _).alloc ?_ _<;>simp only[World.size_alloc]<;>omega
 subst M;exact⟨L,G,A,B,E.W (s _ _),D⟩
theorem k7o{ds:List Td}{a:Option Addr}{cap:Nat}(hs:v9z ds){x:Td}{k n:Fo}(E:(Fo.cons x k n).ok)(hx:exN x)(h2:x.op=1\/x.op=2):DcH ds a cap (.cons x k n) (q0g x k.D):=by
 intro i r O W N;obtain⟨c,M,_,_,_⟩:=j0o O E;obtain⟨b,o,rfl,f,U,V,X⟩:=N i c;have g:=hs.l;have Z:(i:Int)<(ds.length:Int):=by omega
 rw[M]at U V X;have B:Hid (q0w W x (dcW W x.op x.tx x.n)):=k1b W x;obtain⟨j,J,Y⟩:=x;simp only at U V X B h2;rcases q1l hx with⟨A,Q,G,H,_⟩|⟨A,_,I,_⟩|⟨A,_⟩|⟨A,_⟩|⟨A,_⟩|⟨A,_⟩
 ·simp only at A G H;subst A;obtain⟨m,rfl⟩:∃m:Nat,Y=(m:Int):=⟨Y.toNat,by omega⟩;have L:Hid (q0g ⟨1,J,(m:Int)⟩ k.D=wdD (q2n m)):=by show _=_;simp[q0g]
  have P:m<=999999:=by omega
  clear M O E hx h2 Q G H N;unfold v9q;rw[L.o];have S:Hid (∀W:World,Calls prog 58 #[.int .i64 (m:Int)] W fun e w'=>e=.returned (.string (wbS (q2n m)))/\W=w'):=fun W=>v5i m P W
  show Calls _ _ _ _ fun e w'=>NdR W [⟨1,wbS (q2n m),0⟩] e w'
  generalize wbS (q2n m)=T at S⊢;go_in;go_wp2_with fail;refine(S.o _).mono ?_;rintro e h⟨rfl,rfl⟩;go_wp2_with fail;refine(q1f _ _).mono ?_;rintro e R C;have K:Hid (NdR W [⟨1,T,0⟩] e R):=C.from B.o.b;obtain⟨d,rfl,_,_⟩:=C.val;clear C;go_wp2;go_ret;exact K.o
 ·simp only at A I;subst A I;have L:Hid (q0g ⟨2,J,0⟩ k.D=wdD (btL J)):=by show _=_;simp[q0g]
  clear M O E hx h2 N;unfold v9q;rw[L.o];show Calls _ _ _ _ fun e w'=>NdR W [⟨1,J,0⟩] e w'
  go_in;go_wp2_with fail;refine(q1f _ _).mono ?_;rintro e R C;have K:Hid (NdR W [⟨1,J,0⟩] e R):=C.from B.o.b;obtain⟨d,rfl,_,_⟩:=C.val;clear C;go_wp2;go_ret;exact K.o
 ·simp only at A;omega
 ·simp only at A;omega
 ·simp only at A;omega
 ·simp only at A;omega
theorem v3k(ds:List Nd)(a:Option Addr)(cap:Nat)(w:World)(hN:q2e w a ds)(h:q2x ds≠0):
  Calls prog 188 #[.slice a ds.length cap] w fun e w'=>e=.returned (.tuple #[.string ⟨#[]⟩,.bool false,q1m (q2x ds)])/\Below w w w':=by
 have A:Hid (q2e w a ds):=hN;have H:Hid (q2x ds≠0):=h;rw[q0k h];clear hN h;go_in;go_wp2_with fail;refine(q2u ds a cap _ A.o).mono ?_;rintro e C⟨rfl,B⟩;rw[q0k H.o];go_wp2;go_ret3;exact⟨rfl,B⟩
theorem j4u(ds:List Nd)(t:Tr)(hd:ds=t.N)(ht:t.Wf)(hl:ds.length<=400)(a:Option Addr)(cap:Nat)(hc:ds.length<=cap)(w:World)(hN:q2e w a ds):
  Calls prog 188 #[.slice a ds.length cap] w fun e w'=>e=.returned (.tuple #[.string t.line,.bool t.isFlat,.nilIface])/\Below w w w':=by
 have Q:Hid (q2e w a ds):=hN;have H:Hid (q2x ds=0):=(show q2x ds=0 by rw[hd];exact z0q ht (by rw[<-hd];exact hl));have V:Hid (ds=t.N):=hd;have U:Hid (ds≠[]):=(show ds≠[] by have:=t.pos;rw[<-hd]at this;exact List.length_pos_iff.1 this);clear hN hd;cases E:t.brk
 case' true=>obtain⟨M,O⟩:=j5t E
 case' false=>obtain⟨M,O⟩:=j5s E
 all_goals
  rw[M,O];have X:=(show Hid (t.brk=_)from E);clear E M O;go_in;go_wp2_with fail;refine(q2u ds a cap _ Q.o).mono ?_;rintro e A⟨rfl,J⟩;rw[H.o,q0n];have G:Hid (Below w w A):=J;obtain⟨s,S,D⟩:=(Q.o.W J).s U.o;have Y:Hid (q0z s A a ds):=D;clear J D;go_wp2_with fail;refine(q4l t ht A.heap.size A.heap.size s ds [] a cap [] false _ (by rw[V.o];simp) (Y.o.kept (Below.heap_alloc _ _ _ S)) S (by omega) hc (IsX.fresh 285 A [.bool false]) (by simp) (by simp;omega)).mono ?_;rintro e P⟨⟨b,R,rfl,_,_⟩,B,K,_⟩;have C:Below w w P:=G.o.trans ((((Below.refl _ A).alloc Zl _).trans (K.W Zl)).mono G.o.size);rw[Bool.false_or,List.nil_append]at B;have I:Hid (Ln A.heap.size A.heap.size t.laid t.brk P):=B;have Z:=B.cell;rw[X.o]at Z;clear B
 ·go_wp2_with fail;refine(k0h 285 A.heap.size A.heap.size t.laid [.bool t.brk] P I.o).mono ?_;rintro e c⟨rfl,L⟩;go_wp2;go_ret3;exact⟨rfl,C.trans (L.mono G.o.size)⟩
 ·go_wp2;go_ret3;exact⟨rfl,C⟩
theorem v3j(ds:List Nd)(a:Option Addr)(cap:Nat)(hc:ds.length<=cap)(w:World)(hN:q2e w a ds):
  Calls prog 188 #[.slice a ds.length cap] w fun e w'=>e=.returned (.tuple #[.string (flS ds),.bool (flB ds),q1m (q2x ds)])/\Below w w w':=by
 by_cases h:q2x ds=0
 ·obtain⟨C,_,_⟩:=q5l h;obtain⟨D,A,B⟩:=j4t (z1g h) (q4e h) C;rw[A,B,h,q0n];exact j4u ds _ (q4e h) (z1g h) C a cap hc w hN
 ·obtain⟨A,B⟩:=y5x h;rw[A,B];exact v3k ds a cap w hN h
theorem y8b:(prog.info? 22).map (fun i=>(i.zero,i.size,i.bytes))=some (some (.slice none 0 0),1,24):=by kernel_rfl
def z2a(B:Nat)(v:Value)(ps:List (List Td))(w:World):Prop:=
 ∃hs:List Value,w.ownsRow B 22 1 v ps.length hs/\∀i(h:i<ps.length),∃g c,hs[i]?=some (.slice (some ⟨g,0,none⟩) ps[i].length c)/\q1s B (.slice (some ⟨g,0,none⟩) ps[i].length c) ps[i] w
theorem z2a.nil(B:Nat)(w:World):z2a B (.slice Option.none 0 0) [] w:=⟨[],⟨rfl,.inl ⟨rfl,rfl⟩⟩,fun i h=>by simp at h⟩
theorem z6x{B:Nat}{w:World}{g n c:Nat}{xs:List Td}(h:q1s B (.slice (some ⟨g,0,none⟩) n c) xs w):B<=g/\n<=c/\∃cur,w.heap[g]?=some (.cells cur 47 (0,0)):=by
 rcases h.2 with⟨A,_⟩|⟨H,G,cur,A,C,E,D,_⟩
 ·cases A
 ·simp only[Value.slice.injEq,Option.some.injEq,Addr.mk.injEq,and_true]at A;obtain⟨rfl,rfl,rfl⟩:=A;exact⟨C,D,cur,E⟩
theorem v6d{B:Nat}{w w':World}{g n c:Nat}{xs:List Td}(h:q1s B (.slice (some ⟨g,0,none⟩) n c) xs w)(hk:w'.heap[g]?=w.heap[g]?):q1s B (.slice (some ⟨g,0,none⟩) n c) xs w':=by
 refine⟨h.1,?_⟩;rcases h.2 with⟨C,_⟩|⟨I,E,D,C,G,H,A⟩
 ·cases C
 ·have e:=C;simp only[Value.slice.injEq,Option.some.injEq,Addr.mk.injEq,and_true]at e;obtain⟨rfl,_,_⟩:=e;exact .inr ⟨g,E,D,C,G,hk.trans H,A⟩
theorem z2a.kept{B:Nat}{v:Value}{ps:List (List Td)}{w w':World}(h:z2a B v ps w)(hk:∀g,B<=g->g<w.heap.size->w'.heap[g]?=w.heap[g]?):z2a B v ps w':=by
 obtain⟨L,D,K⟩:=h;refine⟨L,⟨D.1,?_⟩,fun i hi=>?_⟩
 ·rcases D.2 with J|⟨g,c,C,M,E,G,A⟩
  ·exact .inl J
  ·exact .inr ⟨g,c,C,M,E,(hk g E (Array.getElem?_eq_some_iff.1 G).1).trans G,A⟩
 ·obtain⟨g,c,H,I⟩:=K i hi;exact⟨g,c,H,I.kept hk⟩
theorem z2a.but{B b:Nat}{v:Value}{ps:List (List Td)}{w w':World}(h:z2a B v ps w)(hb:But w b w w')(hB:b<B):z2a B v ps w':=h.kept fun g h1 h2=>hb.block g h2 (by omega)
theorem z2a.cell{B:Nat}{A:Option Addr}{n c:Nat}{ps:List (List Td)}{w:World}(h:z2a B (.slice A n c) ps w):n=ps.length/\n<=c/\(A=none->n=0/\c=0)/\∀i(h:i<ps.length),∃go g c',A=some ⟨go,0,none⟩/\B<=go/\k0j w go c/\w.cell? ⟨go,i,none⟩=some (.slice (some ⟨g,0,none⟩) ps[i].length c')/\q1s B (.slice (some ⟨g,0,none⟩) ps[i].length c') ps[i] w:=by
 obtain⟨Q,L,M⟩:=h;rcases L.2 with⟨D,K⟩|⟨go,P,E,D,N,I,G,_,O,C⟩
 ·simp only[Value.slice.injEq]at D;obtain⟨rfl,rfl,rfl⟩:=D;exact⟨K.symm,Nat.le_refl _,fun _=>⟨rfl,rfl⟩,fun i hi=>by omega⟩
 ·simp only[Value.slice.injEq]at D;obtain⟨rfl,rfl,rfl⟩:=D;refine⟨rfl,G,(fun e=>by cases e),fun i hi=>?_⟩;obtain⟨g,c',H,J⟩:=M i hi;refine⟨go,g,c',rfl,N,⟨E,_,I,by omega⟩,?_,J⟩;rw[<-C,List.getElem?_take_of_lt (by omega)]at H;simp only[World.cell?,I];simpa using H
theorem z2a.prg{B:Nat}{A:Option Addr}{n c:Nat}{ps:List (List Td)}{w:World}(h:z2a B (.slice A n c) ps w):Prg w A ps:=by
 intro i H;obtain⟨E,g,D,e,_,I,G,C⟩:=h.cell.2.2.2 i H;exact⟨E,0,_,D,e,I.lt,by rw[Nat.zero_add];exact G,(z6x C).2.1,C.tds⟩
theorem v5a{B:Nat}{w:World}{v:Value}{n:Nat}{hs:List Value}(h:w.ownsRow B 22 1 v n hs){k:Nat}(hk:v.ownBlock=some k):∃cur,w.heap[k]?=some (.cells cur 22 (0,0)):=by
 rcases h.2 with⟨rfl,_⟩|⟨g,c,cur,rfl,_,A,_⟩
 ·cases hk
 ·have:g=k:=by simpa[Value.ownBlock]using hk
  subst this;exact⟨cur,A⟩
theorem z2a.own_le{B:Nat}{v:Value}{ps:List (List Td)}{w:World}(h:z2a B v ps w){k:Nat}(hk:v.ownBlock=some k):B<=k:=by
 obtain⟨E,C,_⟩:=h;rcases C.2 with⟨rfl,_⟩|⟨g,c,A,rfl,D,_⟩
 ·cases hk
 ·have:g=k:=by simpa[Value.ownBlock]using hk
  omega
theorem j9i{B:Nat}{v:Value}{ps:List (List Td)}{w:World}(h:z2a B v ps w){g n c:Nat}{t:List Td}(hT:q1s B (.slice (some ⟨g,0,none⟩) n c) t w):
  z2a B v ps (w.alloc (.cells #[.slice (some ⟨g,0,none⟩) n c] 22))/\q1s B (.slice (some ⟨g,0,none⟩) n c) t (w.alloc (.cells #[.slice (some ⟨g,0,none⟩) n c] 22))/\
  (w.alloc (.cells #[.slice (some ⟨g,0,none⟩) n c] 22)).cell? ⟨w,0,none⟩=some (.slice (some ⟨g,0,none⟩) n c):=by
 have A:Below w w (w.alloc (.cells #[.slice (some ⟨g,0,none⟩) n c] 22)):= Zb.alloc Zl _;exact⟨h.kept fun g _ h2=>A.block g h2,hT.kept fun g _ h2=>A.block g h2,cell_one_new w (.slice (some ⟨g,0,none⟩) n c) 22 0 _ rfl⟩
theorem k3k{B:Nat}{w:World}{A:Option Addr}{n c:Nat}{x:Td}{xs:List Td}(h:q1s B (.slice A n c) (x::xs) w):∃g,A=some ⟨g,0,none⟩:=by
 rcases h.2 with⟨_,E⟩|⟨g,G,D,C,_⟩
 ·simp at E
 ·simp only[Value.slice.injEq]at C;exact⟨g,C.1⟩
end Go.Proofs.YtfdppahhbpfnoaaGreatDoor
