import Derived.Test.YtchdplceopegoaaGreatDoorPi05
import Derived.Laws.AppendOwn
import Derived.Laws.AppendOwnNone
import Derived.Laws.Strings2
open Go.Proofs.Tryz
open List (getElem_mem length_append)
namespace Go.Proofs.YtchdplceopegoaaGreatDoor
open Go Go.RowKit
set_option maxRecDepth 100000
set_option maxHeartbeats 8000000
theorem q4b(s:ByteArray)(w:World):Cw 114 #[.string s] w (.bool (q0o s)):=by
 unfold Cw;by_cases O:(s.size:Int)<1
 ·have A:Hid (q0o s=false):=z5g (by omega);go_in;go_wp2;go_ret;exact⟨by rw[A.o];rfl,rfl⟩
 by_cases P:8<(s.size:Int)
 ·have A:Hid (q0o s=false):=z7o (by omega);go_in;go_wp2;go_ret;exact⟨by rw[A.o];rfl,rfl⟩
 by_cases E:s=⟨#[108,101,116]⟩
 ·subst E;go_in;go_wp2;go_ret;exact⟨by rfl,rfl⟩
 have L:Hid (¬s=⟨#[108,101,116]⟩):=E
 have J:¬s.toList=[108,101,116]:=by
  rw[ByteArray.toList_eq];intro e;exact E (j8e.1 e)
 have N:(s.toList==[108,101,116])=false:=beq_false_of_ne J;go_in;go_wp2_with fail
 go_loopw [18] (fun i wr=>wr=w/\∃k:Nat,k<=s.size/\i=.int .i64 k/\∀j(h:j<s.size),j<k->q2a s[j]=true) (fun i _=>s.size-(intOf i).toNat)
 case atStart=>exact⟨rfl,0,Nat.zero_le _,rfl,fun j _ hj=>by omega⟩
 case round=>
  obtain⟨rfl,k,Q,rfl,B⟩:=hrel;have K:Hid (∀j(h:j<s.size),j<k->q2a s[j]=true):=B;by_cases I:k<s.size
  ·cases C:q2a s[k]with
   | false=>
    have A:Hid (q0o s=false):=k3k I C;by_cases G:(s[k].toNat:Int)<97
    ·clear C;go_wp2;go_ret;exact⟨by rw[A.o];rfl,rfl⟩
    ·have M:(122:Int)<(s[k].toNat:Int):=by
      simp[q2a]at C;omega
     go_wp2;go_ret;exact⟨by rw[A.o];rfl,rfl⟩
   | true=>
    have D:Hid (∀j(h:j<s.size),j<k+1->q2a s[j]=true):=fun j h hj=>by
     by_cases H:j=k
     ·subst H;exact C
     ·exact K.o j h (by omega)
    have G:¬(s[k].toNat:Int)<97/\¬(122:Int)<(s[k].toNat:Int):=by
     simp[q2a]at C;omega
    obtain⟨G,M⟩:=G;go_wp2
    go_roundw
    case rel=>exact⟨by trivial,k+1,by omega,by go_num,D.o⟩
    case measure=>simp[intOf];omega
  ·have A:Hid (q0o s=true):=k3j (by omega) (by omega) L.o fun j h=>K.o j h (by omega)
   go_wp2;go_ret;exact⟨by rw[A.o];rfl,rfl⟩
def grM(op:Int):Int:=if op=1 then 999999 else if op=3\/op=4 then 6 else 0
def grH(op:Int):Bool:=decide (op=1\/op=3\/op=4)
theorem q0g(op M:Int)(H:Bool)(hM:grM op=M)(hH:grH op=H)(w:World):Cw 110 #[op] w (.tuple #[M,.bool H]):=by
 unfold Cw;subst hM hH;by_cases A:op=1
 ·subst A;go_in;go_wp2;go_ret2;exact⟨rfl,rfl⟩
 by_cases B:op=3
 ·subst B;go_in;go_wp2;go_ret2;exact⟨rfl,rfl⟩
 by_cases C:op=4
 ·subst C;go_in;go_wp2;go_ret2;exact⟨rfl,rfl⟩
 have E:Hid (grM op=0):=by show grM op=0;simp[grM,A,B,C]
 have D:Hid (grH op=false):=by show grH op=false;simp[grH,A,B,C]
 have G:(op==1)=false:=by simp[A]
 have I:(op==3)=false:=by simp[B]
 have J:(op==4)=false:=by simp[C]
 clear A B C;go_in;go_wp2;go_ret2;exact⟨by rw[E.o,D.o];rfl,rfl⟩
def g1a(op:Int):Bool:=op==2||op==3||op==7
theorem q0i(op:Int)(H:Bool)(hH:g1a op=H)(w:World):Cw 113 #[op] w (.bool H):=by
 unfold Cw;subst hH;by_cases A:op=2
 ·subst A;go_in;go_wp2;go_ret;exact⟨rfl,rfl⟩
 by_cases B:op=3
 ·subst B;go_in;go_wp2;go_ret;exact⟨rfl,rfl⟩
 by_cases C:op=7
 ·subst C;go_in;go_wp2;go_ret;exact⟨rfl,rfl⟩
 have D:Hid (g1a op=false):=by show g1a op=false;simp[g1a,A,B,C]
 have E:(op==2)=false:=by simp[A]
 have G:(op==3)=false:=by simp[B]
 have I:(op==7)=false:=by simp[C]
 clear A B C;go_in;go_wp2;go_ret;exact⟨by rw[D.o];rfl,rfl⟩
def exB(op:Int):Bool:=decide (1<=op)&&decide (op<=6)
theorem z1n(op:Int)(w:World):Cw 115 #[op] w (.bool (exB op)):=by
 unfold Cw;by_cases B:1<=op
 ·by_cases C:op<=6
  ·have A:Hid (exB op=true):=by show exB op=true;simp[exB,B,C]
   go_in;go_wp2;go_ret;exact⟨by rw[A.o];rfl,rfl⟩
  ·have A:Hid (exB op=false):=by show exB op=false;simp[exB,C]
   go_in;go_wp2;go_ret;exact⟨by rw[A.o];rfl,rfl⟩
 ·have A:Hid (exB op=false):=by show exB op=false;simp[exB,B]
  go_in;go_wp2;go_ret;exact⟨by rw[A.o];rfl,rfl⟩
theorem k4k(x:Td)(w:World)(hs:x.tx.size<=140737488351232):Cb 82 #[tdV x] w (q2m (q0t x)):=by
 unfold Cb;obtain⟨H,tx,n⟩:=x;have hs:tx.size<=140737488351232:=hs;have G:∀O:Obj,Below w w (w.alloc O):=fun O=>(Below.refl _ w).alloc Zl O
 by_cases C:H<1
 ·have D:Hid (q0t ⟨H,tx,n⟩=1):=y0v C;have M:grM H=0:=by unfold grM;rw[if_neg (by omega),if_neg (by omega)]
  have N:grH H=false:=decide_eq_false (by omega);go_in;go_wp2_with fail;refine(q0g H 0 false M N _).mono ?_;rintro e B⟨rfl,rfl⟩;go_wp2;go_ret;exact⟨by rw[D.o];rfl,G _⟩
 by_cases E:9<H
 ·have D:Hid (q0t ⟨H,tx,n⟩=1):=y0w C E;have M:grM H=0:=by unfold grM;rw[if_neg (by omega),if_neg (by omega)]
  have N:grH H=false:=decide_eq_false (by omega);go_in;go_wp2_with fail;refine(q0g H 0 false M N _).mono ?_;rintro e B⟨rfl,rfl⟩;go_wp2;go_ret;exact⟨by rw[D.o];rfl,G _⟩
 have S:H=1\/H=2\/H=3\/H=4\/H=5\/H=6\/H=7\/H=8\/H=9:=by omega
 rcases S with rfl|rfl|rfl|rfl|rfl|rfl|rfl|rfl|rfl
 ·by_cases C:n<0
  ·have D:Hid (q0t ⟨1,tx,n⟩=1):=y0x C;go_in;go_wp2_with fail;refine(q0g 1 999999 true rfl rfl _).mono ?_;rintro e B⟨rfl,rfl⟩;go_wp2;go_ret;exact⟨by rw[D.o];rfl,G _⟩
  ·by_cases E:999999<n
   ·have D:Hid (q0t ⟨1,tx,n⟩=1):=y0y C E;go_in;go_wp2_with fail;refine(q0g 1 999999 true rfl rfl _).mono ?_;rintro e B⟨rfl,rfl⟩;go_wp2;go_ret;exact⟨by rw[D.o];rfl,G _⟩
   ·by_cases I:0<(tx.size:Int)
    ·have D:Hid (q0t ⟨1,tx,n⟩=2):=y0z C E I;have L:=q9e I;have R:(tx.toList != [])=true:=by simp[bne,L]
     go_in;go_wp2_with fail;refine(q0g 1 999999 true rfl rfl _).mono ?_;rintro e B⟨rfl,rfl⟩;go_wp2_with fail;refine(q0i 1 false rfl _).mono ?_;rintro e B⟨rfl,rfl⟩;go_wp2;go_ret;exact⟨by rw[D.o];rfl,G _⟩
    ·have D:Hid (q0t ⟨1,tx,n⟩=0):=y1a C E I;have K:=q6q I;subst K;go_in;go_wp2_with fail;refine(q0g 1 999999 true rfl rfl _).mono ?_;rintro e B⟨rfl,rfl⟩;go_wp2_with fail;refine(q0i 1 false rfl _).mono ?_;rintro e B⟨rfl,rfl⟩;go_wp2_with fail;refine(q0i 1 false rfl _).mono ?_;rintro e B⟨rfl,rfl⟩;go_wp2;go_ret;exact⟨by rw[D.o];rfl,G _⟩
 ·by_cases C:n=0
  ·cases E:q0o tx with
   | true=>
    have D:Hid (q0t ⟨2,tx,n⟩=0):=y1c C E;subst C;have J:Hid (q0o tx=true):=E;go_in;go_wp2_with fail;refine(q0g 2 0 false rfl rfl _).mono ?_;rintro e B⟨rfl,rfl⟩;go_wp2_with fail;refine(q0i 2 true rfl _).mono ?_;rintro e B⟨rfl,rfl⟩;go_wp2_with fail;refine(q0i 2 true rfl _).mono ?_;rintro e B⟨rfl,rfl⟩;go_wp2_with fail;refine(q4b tx _).mono ?_;rintro e B⟨rfl,rfl⟩;rw[J.o];go_wp2;go_ret;exact⟨by rw[D.o];rfl,G _⟩
   | false=>
    have D:Hid (q0t ⟨2,tx,n⟩=5):=y1d C E;subst C;have J:Hid (q0o tx=false):=E;go_in;go_wp2_with fail;refine(q0g 2 0 false rfl rfl _).mono ?_;rintro e B⟨rfl,rfl⟩;go_wp2_with fail;refine(q0i 2 true rfl _).mono ?_;rintro e B⟨rfl,rfl⟩;go_wp2_with fail;refine(q0i 2 true rfl _).mono ?_;rintro e B⟨rfl,rfl⟩;go_wp2_with fail;refine(q4b tx _).mono ?_;rintro e B⟨rfl,rfl⟩;rw[J.o];go_wp2;go_ret;exact⟨by rw[D.o];rfl,G _⟩
  ·have D:Hid (q0t ⟨2,tx,n⟩=2):=y1b C;have P:(n==0)=false:=by simp[C]
   have Q:(n != 0)=true:=by simp[C]
   go_in;go_wp2_with fail;refine(q0g 2 0 false rfl rfl _).mono ?_;rintro e B⟨rfl,rfl⟩;go_wp2;go_ret;exact⟨by rw[D.o];rfl,G _⟩
 ·by_cases C:n<0
  ·have D:Hid (q0t ⟨3,tx,n⟩=1):=y1e C;go_in;go_wp2_with fail;refine(q0g 3 6 true rfl rfl _).mono ?_;rintro e B⟨rfl,rfl⟩;go_wp2;go_ret;exact⟨by rw[D.o];rfl,G _⟩
  ·by_cases E:6<n
   ·have D:Hid (q0t ⟨3,tx,n⟩=1):=j9d C E;go_in;go_wp2_with fail;refine(q0g 3 6 true rfl rfl _).mono ?_;rintro e B⟨rfl,rfl⟩;go_wp2;go_ret;exact⟨by rw[D.o];rfl,G _⟩
   ·cases I:q0o tx with
    | true=>
     have D:Hid (q0t ⟨3,tx,n⟩=0):=j9e C E I;have J:Hid (q0o tx=true):=I;go_in;go_wp2_with fail;refine(q0g 3 6 true rfl rfl _).mono ?_;rintro e B⟨rfl,rfl⟩;go_wp2_with fail;refine(q0i 3 true rfl _).mono ?_;rintro e B⟨rfl,rfl⟩;go_wp2_with fail;refine(q0i 3 true rfl _).mono ?_;rintro e B⟨rfl,rfl⟩;go_wp2_with fail;refine(q4b tx _).mono ?_;rintro e B⟨rfl,rfl⟩;rw[J.o];go_wp2;go_ret;exact⟨by rw[D.o];rfl,G _⟩
    | false=>
     have D:Hid (q0t ⟨3,tx,n⟩=5):=j9f C E I;have J:Hid (q0o tx=false):=I;go_in;go_wp2_with fail;refine(q0g 3 6 true rfl rfl _).mono ?_;rintro e B⟨rfl,rfl⟩;go_wp2_with fail;refine(q0i 3 true rfl _).mono ?_;rintro e B⟨rfl,rfl⟩;go_wp2_with fail;refine(q0i 3 true rfl _).mono ?_;rintro e B⟨rfl,rfl⟩;go_wp2_with fail;refine(q4b tx _).mono ?_;rintro e B⟨rfl,rfl⟩;rw[J.o];go_wp2;go_ret;exact⟨by rw[D.o];rfl,G _⟩
 ·by_cases C:n<0
  ·have D:Hid (q0t ⟨4,tx,n⟩=1):=j9g C;go_in;go_wp2_with fail;refine(q0g 4 6 true rfl rfl _).mono ?_;rintro e B⟨rfl,rfl⟩;go_wp2;go_ret;exact⟨by rw[D.o];rfl,G _⟩
  ·by_cases E:6<n
   ·have D:Hid (q0t ⟨4,tx,n⟩=1):=j9h C E;go_in;go_wp2_with fail;refine(q0g 4 6 true rfl rfl _).mono ?_;rintro e B⟨rfl,rfl⟩;go_wp2;go_ret;exact⟨by rw[D.o];rfl,G _⟩
   ·by_cases I:0<(tx.size:Int)
    ·have D:Hid (q0t ⟨4,tx,n⟩=2):=j9i C E I;have L:=q9e I;have R:(tx.toList != [])=true:=by simp[bne,L]
     go_in;go_wp2_with fail;refine(q0g 4 6 true rfl rfl _).mono ?_;rintro e B⟨rfl,rfl⟩;go_wp2_with fail;refine(q0i 4 false rfl _).mono ?_;rintro e B⟨rfl,rfl⟩;go_wp2;go_ret;exact⟨by rw[D.o];rfl,G _⟩
    ·have D:Hid (q0t ⟨4,tx,n⟩=0):=j9j C E I;have K:=q6q I;subst K;go_in;go_wp2_with fail;refine(q0g 4 6 true rfl rfl _).mono ?_;rintro e B⟨rfl,rfl⟩;go_wp2_with fail;refine(q0i 4 false rfl _).mono ?_;rintro e B⟨rfl,rfl⟩;go_wp2_with fail;refine(q0i 4 false rfl _).mono ?_;rintro e B⟨rfl,rfl⟩;go_wp2;go_ret;exact⟨by rw[D.o];rfl,G _⟩
 ·by_cases C:n=0
  ·by_cases E:0<(tx.size:Int)
   ·have D:Hid (q0t ⟨5,tx,n⟩=2):=j9l C E;subst C;have L:=q9e E;have R:(tx.toList != [])=true:=by simp[bne,L]
    go_in;go_wp2_with fail;refine(q0g 5 0 false rfl rfl _).mono ?_;rintro e B⟨rfl,rfl⟩;go_wp2_with fail;refine(q0i 5 false rfl _).mono ?_;rintro e B⟨rfl,rfl⟩;go_wp2;go_ret;exact⟨by rw[D.o];rfl,G _⟩
   ·have D:Hid (q0t ⟨5,tx,n⟩=0):=j9m C E;subst C;have K:=q6q E;subst K;go_in;go_wp2_with fail;refine(q0g 5 0 false rfl rfl _).mono ?_;rintro e B⟨rfl,rfl⟩;go_wp2_with fail;refine(q0i 5 false rfl _).mono ?_;rintro e B⟨rfl,rfl⟩;go_wp2_with fail;refine(q0i 5 false rfl _).mono ?_;rintro e B⟨rfl,rfl⟩;go_wp2;go_ret;exact⟨by rw[D.o];rfl,G _⟩
  ·have D:Hid (q0t ⟨5,tx,n⟩=2):=j9k C;have P:(n==0)=false:=by simp[C]
   have Q:(n != 0)=true:=by simp[C]
   go_in;go_wp2_with fail;refine(q0g 5 0 false rfl rfl _).mono ?_;rintro e B⟨rfl,rfl⟩;go_wp2;go_ret;exact⟨by rw[D.o];rfl,G _⟩
 ·by_cases C:n=0
  ·by_cases E:0<(tx.size:Int)
   ·have D:Hid (q0t ⟨6,tx,n⟩=2):=j9o C E;subst C;have L:=q9e E;have R:(tx.toList != [])=true:=by simp[bne,L]
    go_in;go_wp2_with fail;refine(q0g 6 0 false rfl rfl _).mono ?_;rintro e B⟨rfl,rfl⟩;go_wp2_with fail;refine(q0i 6 false rfl _).mono ?_;rintro e B⟨rfl,rfl⟩;go_wp2;go_ret;exact⟨by rw[D.o];rfl,G _⟩
   ·have D:Hid (q0t ⟨6,tx,n⟩=0):=j9p C E;subst C;have K:=q6q E;subst K;go_in;go_wp2_with fail;refine(q0g 6 0 false rfl rfl _).mono ?_;rintro e B⟨rfl,rfl⟩;go_wp2_with fail;refine(q0i 6 false rfl _).mono ?_;rintro e B⟨rfl,rfl⟩;go_wp2_with fail;refine(q0i 6 false rfl _).mono ?_;rintro e B⟨rfl,rfl⟩;go_wp2;go_ret;exact⟨by rw[D.o];rfl,G _⟩
  ·have D:Hid (q0t ⟨6,tx,n⟩=2):=j9n C;have P:(n==0)=false:=by simp[C]
   have Q:(n != 0)=true:=by simp[C]
   go_in;go_wp2_with fail;refine(q0g 6 0 false rfl rfl _).mono ?_;rintro e B⟨rfl,rfl⟩;go_wp2;go_ret;exact⟨by rw[D.o];rfl,G _⟩
 ·by_cases C:n=0
  ·cases E:q0o tx with
   | true=>
    have D:Hid (q0t ⟨7,tx,n⟩=0):=j9r C E;subst C;have J:Hid (q0o tx=true):=E;go_in;go_wp2_with fail;refine(q0g 7 0 false rfl rfl _).mono ?_;rintro e B⟨rfl,rfl⟩;go_wp2_with fail;refine(q0i 7 true rfl _).mono ?_;rintro e B⟨rfl,rfl⟩;go_wp2_with fail;refine(q0i 7 true rfl _).mono ?_;rintro e B⟨rfl,rfl⟩;go_wp2_with fail;refine(q4b tx _).mono ?_;rintro e B⟨rfl,rfl⟩;rw[J.o];go_wp2;go_ret;exact⟨by rw[D.o];rfl,G _⟩
   | false=>
    have D:Hid (q0t ⟨7,tx,n⟩=5):=j9s C E;subst C;have J:Hid (q0o tx=false):=E;go_in;go_wp2_with fail;refine(q0g 7 0 false rfl rfl _).mono ?_;rintro e B⟨rfl,rfl⟩;go_wp2_with fail;refine(q0i 7 true rfl _).mono ?_;rintro e B⟨rfl,rfl⟩;go_wp2_with fail;refine(q0i 7 true rfl _).mono ?_;rintro e B⟨rfl,rfl⟩;go_wp2_with fail;refine(q4b tx _).mono ?_;rintro e B⟨rfl,rfl⟩;rw[J.o];go_wp2;go_ret;exact⟨by rw[D.o];rfl,G _⟩
  ·have D:Hid (q0t ⟨7,tx,n⟩=2):=j9q C;have P:(n==0)=false:=by simp[C]
   have Q:(n != 0)=true:=by simp[C]
   go_in;go_wp2_with fail;refine(q0g 7 0 false rfl rfl _).mono ?_;rintro e B⟨rfl,rfl⟩;go_wp2;go_ret;exact⟨by rw[D.o];rfl,G _⟩
 ·by_cases C:n=0
  ·by_cases E:0<(tx.size:Int)
   ·have D:Hid (q0t ⟨8,tx,n⟩=2):=j9u C E;subst C;have L:=q9e E;have R:(tx.toList != [])=true:=by simp[bne,L]
    go_in;go_wp2_with fail;refine(q0g 8 0 false rfl rfl _).mono ?_;rintro e B⟨rfl,rfl⟩;go_wp2_with fail;refine(q0i 8 false rfl _).mono ?_;rintro e B⟨rfl,rfl⟩;go_wp2;go_ret;exact⟨by rw[D.o];rfl,G _⟩
   ·have D:Hid (q0t ⟨8,tx,n⟩=0):=j9v C E;subst C;have K:=q6q E;subst K;go_in;go_wp2_with fail;refine(q0g 8 0 false rfl rfl _).mono ?_;rintro e B⟨rfl,rfl⟩;go_wp2_with fail;refine(q0i 8 false rfl _).mono ?_;rintro e B⟨rfl,rfl⟩;go_wp2_with fail;refine(q0i 8 false rfl _).mono ?_;rintro e B⟨rfl,rfl⟩;go_wp2;go_ret;exact⟨by rw[D.o];rfl,G _⟩
  ·have D:Hid (q0t ⟨8,tx,n⟩=2):=j9t C;have P:(n==0)=false:=by simp[C]
   have Q:(n != 0)=true:=by simp[C]
   go_in;go_wp2_with fail;refine(q0g 8 0 false rfl rfl _).mono ?_;rintro e B⟨rfl,rfl⟩;go_wp2;go_ret;exact⟨by rw[D.o];rfl,G _⟩
 ·by_cases C:n=0
  ·have D:Hid (q0t ⟨9,tx,n⟩=q2t tx):=by
    show _=_;by_cases h:q2t tx=0
    ·rw[j9x C h,h]
    ·exact j9y C h
   subst C;go_in;go_wp2_with fail;refine(q0g 9 0 false rfl rfl _).mono ?_;rintro e B⟨rfl,rfl⟩;go_wp2_with fail;refine(j3l tx _ hs).mono ?_;rintro e B⟨A,Y,c,rfl,X,W,V⟩;have U:Below w w B:=q7x Zb Zl V;go_wp2_with fail;refine(q6r Y A c _ X).mono ?_;rintro e Z⟨rfl,rfl⟩;rw[W,<-D.o];go_wp2;go_ret;exact⟨rfl,U⟩
  ·have D:Hid (q0t ⟨9,tx,n⟩=2):=j9w C;have P:(n==0)=false:=by simp[C]
   have Q:(n != 0)=true:=by simp[C]
   go_in;go_wp2_with fail;refine(q0g 9 0 false rfl rfl _).mono ?_;rintro e B⟨rfl,rfl⟩;go_wp2;go_ret;exact⟨by rw[D.o];rfl,G _⟩
theorem z0l(b o k:Nat):(⟨b,o,none⟩:Addr).add k=⟨b,o+k,none⟩:=by
 unfold Addr.add
 split
 ·rename_i h;subst h;rfl
 ·rfl
theorem z8r{w:World}{E:Array Oper}{rest:List Oper}{o:Oper}{a:Act}{Q:Exit->Act->World->Prop}(I:o.guard=none)(s x:Operand)
  (ho:o.op=.call {callee:=.builtin .append,args:=#[s,x],argTypes:=#[51,51]})
  (B:Nat) (v:Value) (xs:List ByteArray) (hs:a.eval s=v) (C:q2i B v xs w)
  (wa:Option Addr) (n:Nat) (ws:List ByteArray) (hn:ws.length=n) (wc:Nat) (hx:a.eval x=.slice wa n wc) (hW:Wds w wa ws) (K:wa=none->n=0/\wc=0)
  (m:Nat) (hm:xs.length+n=m) (hb:m<=1000000) (D:B<=w.heap.size)
  (h:∀A c w',q2i B (.slice A m c) (xs++ws) w'->w.grownBy w' v.ownBlock->wpList prog E Q rest (a.put o.dst (.slice A m c)) w'):wpList prog E Q (o::rest) a w:=by
 subst hn hm;obtain⟨W,V,P,R,S⟩:=info_parts z1l
 have U:∀G w',q2i B G (xs++ws) w'->w.grownBy w' v.ownBlock->wpList prog E Q rest (a.put o.dst G) w':=by
  intro G w' H N
  obtain⟨A,c,rfl⟩:∃A c,G=.slice A (xs.length+ws.length) c:=by
   rcases H.2 with⟨M,L⟩|⟨g,c,X,M,_⟩
   ·rw[length_append]at L;exact⟨none,0,by rw[M,L]⟩
   ·rw[length_append]at M;exact⟨_,c,M⟩
  exact h A c w' H N
 cases wa with
 | none=>
  obtain⟨L,rfl⟩:=K rfl;obtain rfl:ws=[]:=List.eq_nil_of_length_eq_zero L;refine wpList_append_own_none I s x 51 ho B 9 W 1 Tryz.underlying51 V v xs.length (strCells xs) hs C hx ?_;refine U v w ?_ ⟨rfl,rfl,rfl,Nat.le_refl _,fun _ _ _=>rfl⟩;rw[List.append_nil];exact C
 | some ad=>
  refine wpList_append_own w I s x 51 ho B 9 W _ 1 16 Tryz.underlying51 V P R S rfl (by decide) v xs.length (strCells xs) hs C ad ws.length wc (strCells ws) hx (by simp[strCells]) ?_ ?_ (by unfold maxLen;omega) (by omega) D ?_
  ·intro j u O;have J:j<ws.length:=by have:=(List.getElem?_eq_some_iff.1 O).1;simpa[strCells]using this
   obtain⟨b,o,e,_,c⟩:=hW j J;simp only[Option.some.injEq]at e;subst e;rw[z0l]
   have:u=.string ws[j]:=by simp[strCells,J]at O;exact O.symm
   rw[this];exact c
  ·intro u Y;obtain⟨x,_,rfl⟩:=List.mem_map.1 Y;rfl
  ·intro G w' H N _;rw[<-q2f]at H;refine U G w' ?_ N;show w'.ownsRow _ _ _ _ _ _;rw[length_append];exact H
def q4k(ks:List Int):List Value:=ks.map fun k=>.int .i64 k
theorem z3c(a b:List Int):q4k (a++b)=q4k a++q4k b:=by simp[q4k]
def k5b(B:Nat)(v:Value)(ks:List Int)(w:World):Prop:=w.ownsRow B 3 1 v ks.length (q4k ks)
theorem v4j{w:World}{E:Array Oper}{rest:List Oper}{o:Oper}{a:Act}{Q:Exit->Act->World->Prop}(I:o.guard=none)(s x:Operand)
  (ho:o.op=.call {callee:=.builtin .append,args:=#[s,x],argTypes:=#[63,63]})
  (B:Nat) (v:Value) (xs:List Int) (hs:a.eval s=v) (C:k5b B v xs w)
  (wa:Option Addr) (n:Nat) (ws:List Int) (hn:ws.length=n) (wc:Nat) (hx:a.eval x=.slice wa n wc) (hW:q9s w wa ws) (K:wa=none->n=0/\wc=0)
  (m:Nat) (hm:xs.length+n=m) (hb:m<=1000000) (D:B<=w.heap.size)
  (h:∀A c w',k5b B (.slice A m c) (xs++ws) w'->w.grownBy w' v.ownBlock->wpList prog E Q rest (a.put o.dst (.slice A m c)) w'):wpList prog E Q (o::rest) a w:=by
 subst hn hm;obtain⟨W,V,P,R,S⟩:=info_parts z3f
 have U:∀G w',k5b B G (xs++ws) w'->w.grownBy w' v.ownBlock->wpList prog E Q rest (a.put o.dst G) w':=by
  intro G w' H N
  obtain⟨A,c,rfl⟩:∃A c,G=.slice A (xs.length+ws.length) c:=by
   rcases H.2 with⟨M,L⟩|⟨g,c,X,M,_⟩
   ·rw[length_append]at L;exact⟨none,0,by rw[M,L]⟩
   ·rw[length_append]at M;exact⟨_,c,M⟩
  exact h A c w' H N
 cases wa with
 | none=>
  obtain⟨L,rfl⟩:=K rfl;obtain rfl:ws=[]:=List.eq_nil_of_length_eq_zero L;refine wpList_append_own_none I s x 63 ho B 3 W 1 Tryz.underlying63 V v xs.length (q4k xs) hs C hx ?_;refine U v w ?_ ⟨rfl,rfl,rfl,Nat.le_refl _,fun _ _ _=>rfl⟩;rw[List.append_nil];exact C
 | some ad=>
  refine wpList_append_own w I s x 63 ho B 3 W _ 1 8 Tryz.underlying63 V P R S rfl (by decide) v xs.length (q4k xs) hs C ad ws.length wc (q4k ws) hx (by simp[q4k]) ?_ ?_ (by unfold maxLen;omega) (by omega) D ?_
  ·intro j u O;have J:j<ws.length:=by have:=(List.getElem?_eq_some_iff.1 O).1;simpa[q4k]using this
   obtain⟨b,o,e,_,c⟩:=hW j J;simp only[Option.some.injEq]at e;subst e;rw[z0l]
   have:u=.int .i64 ws[j]:=by simp[q4k,J]at O;exact O.symm
   rw[this];exact c
  ·intro u Y;obtain⟨x,_,rfl⟩:=List.mem_map.1 Y;rfl
  ·intro G w' H N _;rw[<-z3c]at H;refine U G w' ?_ N;show w'.ownsRow _ _ _ _ _ _;rw[length_append];exact H
def z8j(ds:List Td):Prop:=∀x∈ds,x.tx.size<=140737488351232
theorem v2f(x:Td)(w:World):Cb 152 #[tdV x] w (kdZ x):=by
 unfold Cb;obtain⟨A,J,n⟩:=x;have B:∀O:Obj,Below w w (w.alloc O):=fun O=>(Below.refl _ w).alloc Zl O
 by_cases C:A=3
 ·subst C;go_in;go_wp2;go_ret;exact⟨by simp[kdZ],B _⟩
 by_cases D:A=4
 ·subst D;go_in;go_wp2;go_ret;exact⟨by simp[kdZ],B _⟩
 by_cases E:A=5
 ·subst E;go_in;go_wp2;go_ret;exact⟨by simp[kdZ,kdT],B _⟩
 by_cases G:A=6
 ·subst G;go_in;go_wp2;go_ret;exact⟨by simp[kdZ,kdT],B _⟩
 by_cases H:A=7
 ·subst H;go_in;go_wp2;go_ret;exact⟨by simp[kdZ,kdT],B _⟩
 by_cases I:A=8
 ·subst I;go_in;go_wp2;go_ret;exact⟨by simp[kdZ,kdT],B _⟩
 have K:Hid (kdZ ⟨A,J,n⟩=0):=by show kdZ ⟨A,J,n⟩=0;simp[kdZ,kdT,C,D,E,G,H,I]
 have L:(A==3)=false:=by simp[C]
 have M:(A==4)=false:=by simp[D]
 have N:(A==5)=false:=by simp[E]
 have P:(A==6)=false:=by simp[G]
 have Q:(A==7)=false:=by simp[H]
 have R:(A==8)=false:=by simp[I]
 clear C D E G H I;go_in;go_wp2;go_ret;exact⟨by rw[K.o];rfl,B _⟩
theorem v8n(x:Td)(h:q0t x=0)(w:World):Cb 152 #[.agg #[x.op,.string x.tx,x.n]] w (kdT x:Int):=by
 unfold Cb;have:=v2f x w
 rw[y0o h]at this;exact this
def y2c(o:Option Nat)(j:Nat)(b:Bool):Prop:=o=if b=true then some j else none
def y6t(ds:List Td)(i:Nat)(e:Ending):Prop:=∃(j:Nat)(b:Bool),e=.returned (.tuple #[.int .i64 (j:Int),.bool b])/\y2c (q3u ds i 1) j b
theorem y2c.yes{o:Option Nat}{j:Nat}(h:o=some j):y2c o j true:=h
theorem y2c.no{o:Option Nat}{j:Nat}(h:o=none):y2c o j false:=h
theorem j3k(ds:List Td)(a:Option Addr)(cap:Nat)(hl:ds.length<=40)(hk:∀x∈ds,q0t x=0)(i:Nat)(hi:i<=ds.length)(w:World)(hN:Tds w a ds):
  Calls prog 116 #[.slice a ds.length cap,.int .i64 i] w fun e w'=>y6t ds i e/\Below w w w':=by
 have V:=hid hN;have N:=hid hk;clear hN hk;go_in;go_wp2
 go_loopw [1,6] (fun z m wr=>Below w w wr/\∃k q:Nat,k<=ds.length/\q<=1+6*k/\z=(k:Int)/\m=(q:Int)/\q3u ds i 1=q3u ds k q) (fun z _ _=>ds.length-(intOf z).toNat)
 case atStart=>exact⟨Below.refl _ _,i,1,hi,by omega,rfl,rfl,rfl⟩
 case round=>
  obtain⟨E,k,q,Y,f,rfl,rfl,U⟩:=hrel;have H:=hid U;have A:=hid E;clear U E;by_cases J:q=0
  ·subst J
   have I:Hid (q3u ds i 1=some k):=by
    show _=_;rw[H.o,k2c]
   go_wp2;go_ret2;exact⟨⟨k,true,rfl,y2c.yes I.o⟩,A.o⟩
  ·obtain⟨p,rfl⟩:∃p,q=p+1:=⟨q-1,by omega⟩;have C:((p+1:Nat):Int)=(p:Int)+1:=by omega
   have Z:(0:Int)<(p:Int)+1:=by omega
   have M:=beq_false_of_ne (by omega);by_cases B:k<ds.length
   ·have L:(k:Int)<(ds.length:Int):=by omega
    obtain⟨b,o,X,c,Q,R,S⟩:=(V.o.W A.o) k B;subst X;have K:=y0n (N.o _ (getElem_mem B));have D:Hid (∀W:World,Cb 152 #[.agg #[ds[k].op,.string ds[k].tx,ds[k].n]] W (kdT ds[k]:Int)):=fun W=>v8n _ (N.o _ (getElem_mem B)) W
    have O:Hid (q3u ds i 1=q3u ds (k+1) (kdT ds[k]+p)):=by
     show _=_;rw[H.o,z4s ds k p B]
    generalize kdT ds[k]=d at K D O;generalize ds[k].op=xo at Q D;generalize ds[k].tx=xt at R D;generalize ds[k].n=xn at S D;rw[C];clear J M C;go_wp2_with fail;refine(D.o _).mono ?_;rintro e g⟨rfl,P⟩;have G:=hid (q0e A.o Zl P);clear P Q R S;go_wp2
    go_roundw
    case rel=>exact⟨G.o,k+1,d+p,by omega,by omega,by go_num,by go_num,O.o⟩
    case measure=>simp[intOf];omega
   ·have L:¬(k:Int)<(ds.length:Int):=by omega
    have I:Hid (q3u ds i 1=none):=by
     show _=_;rw[H.o,q8v ds k p (by omega)]
    rw[C];clear J C;go_wp2;go_ret2;exact⟨⟨k,false,rfl,y2c.no I.o⟩,A.o⟩
theorem v8s{w:World}{a:Option Addr}{c:Nat}{x:Td}{r:List Td}(h:Tds w a (x::r))(hc:r.length+1<=c):
  ∃A,(∀W:World,(Instr.slice 59 (.slice a (r.length+1) c) (some (.int .i64 1)) none none).run prog W=.ok (.slice A r.length (c-1)) W)/\Tds w A r:=by
 obtain⟨b,o,rfl,J,_,_,_⟩:=h 0 (by simp);refine⟨if c=1 then some ↑(b,o)else some ↑(b,o+3),fun W=>?_,?_⟩
 ·have H:=run_slice_l (P:=prog) W 59 (some ↑(b,o)) (r.length+1) c Tryz.underlying59 .i64 1 (by omega) (by omega);rw[H];have L:(sizeOf (prog.elem 59)).run prog W=.ok 3 W:=by kernel_rfl
  rw[L];have I:((b,o):Addr).add 3=(b,o+3):=rfl;simp[Result.andThen,sliced,I]
 ·by_cases e:c=1
  ·have:r=[]:=List.eq_nil_of_length_eq_zero (by omega)
   subst this;exact fun i E=>by simp at E
  ·rw[if_neg e];intro i E;obtain⟨M,N,G,K,B,C,D⟩:=h (i+1) (by simp;omega);cases G;rw[show o+(i+1)*3=o+3+i*3 by omega]at B C D;exact⟨b,o+3,rfl,J,B,C,D⟩
theorem y8u{x:Td}(h:q0t x=0):1<=x.op/\x.op<=9:=by
 unfold q0t at h
 split at h
 ·cases h
 ·omega
def q9k(ds:List Td):Bool:=decide (q3u ds 0 1=some ds.length)&&k7i ds
theorem v1z:q9k []=false:=by
 have:q3u [] 0 1=none:=q8v _ _ _ Zl
 simp[q9k,this]
theorem j3p{ds:List Td}(hl:ds.length<=40)(ha:∀x∈ds,q0t x=0):q0b ds=if q9k ds=true then 0 else 2:=by
 rw[z1r hl ha];simp only[q9k,Bool.and_eq_true,decide_eq_true_eq]
theorem v2g(ds:List Td)(a:Option Addr)(cap:Nat)(hl:ds.length<=40)(hk:∀x∈ds,q0t x=0)(w:World)(hc:ds.length<=cap)(hN:Tds w a ds):
  Cb 83 #[.slice a ds.length cap] w (.bool (q9k ds)):=by
 unfold Cb;cases ds with
 | nil=>
  rw[v1z];clear hk hN hl hc;go_in;go_wp2;go_ret;exact⟨rfl,Below.refl _ _⟩
 | cons x r=>
  have l:=hid hN;have h:=hid hk;obtain⟨b,o,ea,hb,m,_,_⟩:=hN 0 (by simp);have hx:=y8u (hk x (by simp));have R:(x::r).length=r.length+1:=rfl;rw[R]at hl hc⊢;have hp:¬(r.length:Int)+1=0:=by omega
  have Ad:=beq_false_of_ne hp;have Ac:(0:Int)<(r.length:Int)+1:=by omega
  have Q:w.cell? (b,o)=some ↑x.op:=by simpa using m
  clear m hN;subst ea;by_cases h7:7<=x.op
  ·have M:Hid (exB x.op=false):=by show exB x.op=false;simp[exB];omega
   obtain⟨A,f,t⟩:=v8s l.o hc;have u:=hid t;clear t;generalize Ae:x.op=xo at Q M;go_in;go_wp2_with fail;refine(z1n xo _).mono ?_;rintro e V⟨rfl,rfl⟩;rw[M.o];go_wp2_with fail
   go_loopw [20] (fun i wr=>Below w w wr/\∃k:Nat,k<=r.length/\i=(k:Int)/\∀y∈r.take k,y.op<7) (fun i _=>r.length-(intOf i).toNat)
   case atStart=>exact⟨Below.refl _ _,0,Nat.zero_le _,rfl,by simp⟩
   case round=>
    obtain⟨E,k,Ab,rfl,H⟩:=hrel;have I:=hid E;have K:Hid (∀O:Obj,Below w w (wr.alloc O)):=fun O=>E.alloc E.size O
    clear E;have g:=hid H;clear H f;by_cases J:k<r.length
    ·have d:(k:Int)<(r.length:Int):=by omega
     obtain⟨b1,o1,z,Aa,p,q,s⟩:=(u.o.W I.o) k J;subst z;have U:=y8u (h.o r[k] (by simp));by_cases G:r[k].op<7
     ·have N:Hid (exB r[k].op=true):=by show exB r[k].op=true;simp[exB];omega
      have X:Hid (∀y∈r.take (k+1),y.op<7):=by
       intro y B;rw[List.take_succ_eq_append_getElem J]at B;rcases List.mem_append.1 B with B|B
       ·exact g.o y B
       ·simp at B;subst B;exact G
      clear G U;generalize r[k].op=yo at p N;generalize r[k].tx=yt at q;generalize r[k].n=yn at s;go_wp2_with fail;refine(z1n yo _).mono ?_;rintro e V⟨rfl,rfl⟩;rw[N.o];go_wp2
      go_roundw
      case rel=>exact⟨K.o _,k+1,by omega,by go_num,X.o⟩
      case measure=>simp[intOf];omega
     ·have N:Hid (exB r[k].op=false):=by show exB r[k].op=false;simp[exB];omega
      have D:Hid (q9k (x::r)=false):=by
       show _=_
       have:k7i (x::r)=false:=by
        simp only[k7i,Bool.and_eq_false_iff,List.all_eq_false];exact .inr ⟨r[k],getElem_mem J,by simp[G]⟩
       simp[q9k,this]
      clear G U;generalize r[k].op=yo at p N;generalize r[k].tx=yt at q;generalize r[k].n=yn at s;go_wp2_with fail;refine(z1n yo _).mono ?_;rintro e V⟨rfl,rfl⟩;rw[N.o];go_wp2;go_ret;exact⟨by rw[D.o];rfl,K.o _⟩
    ·have d:¬(k:Int)<(r.length:Int):=by omega
     have L:Hid (k7i (x::r)=true):=by
      show _=_;simp only[k7i,Bool.and_eq_true,decide_eq_true_eq,List.all_eq_true];refine⟨by omega,fun y U=>g.o y ?_⟩;rw[List.take_of_length_le (by omega)];exact U
     have Y:=hid (j3k (x::r) _ cap hl h.o 0 (Nat.zero_le _) wr (l.o.W I.o));go_wp2_with fail;refine Y.o.mono ?_;rintro e V⟨⟨j,v,rfl,C⟩,P⟩;have Z:=q0e I.o Zl P;clear P;cases v with
     | false=>
      have C:q3u (x::r) 0 1=none:=C
      have D:Hid (q9k (x::r)=false):=by
       show _=_;simp[q9k,C]
      clear C;go_wp2;go_ret;exact⟨by rw[D.o];rfl,Z⟩
     | true=>
      have C:q3u (x::r) 0 1=some j:=C;by_cases S:(j:Int)=(r.length:Int)+1
      ·have D:Hid (q9k (x::r)=true):=by
        show _=_
        have:j=r.length+1:=by omega
        simp[q9k,C,this,L.o]
       have c:=beq_iff_eq.2 S;clear C S;go_wp2;go_ret;exact⟨by rw[D.o];rfl,Z⟩
      ·have D:Hid (q9k (x::r)=false):=by
        show _=_
        have:¬j=r.length+1:=by omega
        simp[q9k,C,this]
       have c:=beq_false_of_ne S;clear C S;go_wp2;go_ret;exact⟨by rw[D.o];rfl,Z⟩
  ·have M:Hid (exB x.op=true):=by show exB x.op=true;simp[exB];omega
   have D:Hid (q9k (x::r)=false):=by
    show _=_
    have:k7i (x::r)=false:=by simp[k7i,h7]
    simp[q9k,this]
   generalize x.op=xo at Q M;go_in;go_wp2_with fail;refine(z1n xo _).mono ?_;rintro e V⟨rfl,rfl⟩;rw[M.o];go_wp2;go_ret;exact⟨by rw[D.o];rfl,Below.refl _ _⟩
theorem q7k(ds:List Td)(a:Option Addr)(cap:Nat)(w:World)(hc:ds.length<=cap)(hN:Tds w a ds)(M:z8j ds):Cb 51 #[.slice a ds.length cap] w (q2m (q0b ds)):=by
 unfold Cb;have U:=hid hN;have K:=hid M;by_cases d:40<(ds.length:Int)
 ·rw[z7z (by omega),k8l];go_in;go_wp2;go_ret;exact⟨rfl,Below.refl _ _⟩
 ·have L:ds.length<=40:=by omega
  go_in;go_wp2
  go_loopw [12] (fun i wr=>Below w w wr/\∃k:Nat,k<=ds.length/\i=.int .i64 k/\∀x∈ds.take k,q0t x=0) (fun i _=>ds.length-(intOf i).toNat)
  case atStart=>exact⟨Below.refl _ _,0,Nat.zero_le _,rfl,by simp⟩
  case round=>
   obtain⟨H,k,g,rfl,E⟩:=hrel;have I:=hid E;have P:=hid (U.o.W H);by_cases A:k<ds.length
   ·obtain⟨b,o,X,f,Y,Z,c⟩:=P.o k A;have G:=K.o _ (getElem_mem A);subst X;by_cases R:q0t ds[k]=0
    ·have D:=hid R;go_wp2_with fail;refine(k4k ds[k] _ G).mono ?_;rintro e S⟨rfl,C⟩;rw[D.o,q1n];have B:=q7x H Zl C;go_wp2
     go_roundw
     case rel=>exact⟨B,k+1,by omega,by go_num,z7x A I.o D.o⟩
     case measure=>simp[intOf];omega
    ·have D:=hid R;go_wp2_with fail;refine(k4k ds[k] _ G).mono ?_;rintro e S⟨rfl,C⟩;rw[q0q D.o];have B:=q7x H Zl C;go_wp2;go_ret;refine⟨?_,B⟩;rw[z8a L A I.o D.o,q0q D.o];rfl
   ·have O:Hid (∀x∈ds,q0t x=0):=by
     have:=I.o
     rw[List.take_of_length_le (by omega)]at this;exact this
    have J:=hid (j3p L O.o);have Q:=hid (v2g ds a cap L O.o wr hc P.o);generalize q9k ds=sb at J Q;go_wp2_with fail;refine Q.o.mono ?_;rintro e S⟨rfl,V⟩;have N:=q0e H Zl V;cases sb with
    | true=>
     go_wp2;go_ret;exact⟨by rw[J.o];rfl,N⟩
    | false=>
     go_wp2;go_ret;exact⟨by rw[J.o];rfl,N⟩
abbrev g3g:Prop:=∀(t:List Td)(a:Option Addr)(cap:Nat)(wd:Int)(w:World),t.length<=cap->Tds w a t->z8j t->z2c w->
 Calls prog 32 #[.slice a t.length cap,.int .i64 wd] w fun e w'=>e=.returned (.tuple #[.string (v7g t wd),q2m (k9n t wd)])/\Below w w w'
theorem k6u{t:List Td}{wd:Int}(h:k9n t wd≠0):v7g t wd=⟨#[]⟩:=by rw[v7g,if_neg h]
theorem v0p{t:List Td}{n:Nat}(h:k9n t (n:Int)=0):v7g t (n:Int)=wbS (q7c n t):=by rw[v7g,if_pos h];rfl
theorem k9i{n:Nat}(h1:10<=n)(h2:n<=100):¬((n:Int)<10\/100<(n:Int)):=by omega
theorem y5i{t:List Td}{a:Option Addr}{cap:Nat}{w:World}(hc:t.length<=cap)(hN:Tds w a t):Prg (w.alloc (.cells #[.slice a t.length cap] 59)) (some ⟨w,0,none⟩) [t]:=by
 intro i B;have A:i=0:=by simp at B;exact B
 subst A;refine⟨w.heap.size,0,a,cap,rfl,by rw[World.size_alloc];omega,?_,hc,hN.alloc _⟩
 have C:(w.alloc (.cells #[.slice a t.length cap] 59)).heap[w.heap.size]?=some (.cells #[.slice a t.length cap] 59):=by
  show(w.heap.push _)[w.heap.size]?=_
  simp
 simp only[World.cell?,Option.isSome_none,Bool.false_eq_true,if_false,C,Nat.zero_add];rfl
theorem q6p(c:UInt8)(w:World):Cw 41 #[.int .u8 (c.toNat:Int)] w (.bool (q2a c)):=by
 unfold Cw;by_cases B:(97:Int)<=(c.toNat:Int)
 ·by_cases C:(c.toNat:Int)<=122
  ·have A:Hid (q2a c=true):=by show q2a c=true;simp[q2a];omega
   go_in;go_wp2;go_ret;exact⟨by rw[A.o];rfl,rfl⟩
  ·have A:Hid (q2a c=false):=by show q2a c=false;simp[q2a];omega
   go_in;go_wp2;go_ret;exact⟨by rw[A.o];rfl,rfl⟩
 ·have A:Hid (q2a c=false):=by show q2a c=false;simp[q2a];omega
  go_in;go_wp2;go_ret;exact⟨by rw[A.o];rfl,rfl⟩
theorem j2s(x:Td)(w:World):Cb 74 #[tdV x] w (.int .i64 (kdZ x)):=by
 unfold Cb;obtain⟨A,J,n⟩:=x;have B:∀O:Obj,Below w w (w.alloc O):=fun O=>(Below.refl _ w).alloc Zl O
 by_cases C:A=3
 ·subst C;go_in;go_wp2;go_ret;exact⟨by simp[kdZ],B _⟩
 by_cases D:A=4
 ·subst D;go_in;go_wp2;go_ret;exact⟨by simp[kdZ],B _⟩
 by_cases E:A=5
 ·subst E;go_in;go_wp2;go_ret;exact⟨by simp[kdZ,kdT],B _⟩
 by_cases G:A=6
 ·subst G;go_in;go_wp2;go_ret;exact⟨by simp[kdZ,kdT],B _⟩
 by_cases H:A=7
 ·subst H;go_in;go_wp2;go_ret;exact⟨by simp[kdZ,kdT],B _⟩
 by_cases I:A=8
 ·subst I;go_in;go_wp2;go_ret;exact⟨by simp[kdZ,kdT],B _⟩
 have K:Hid (kdZ ⟨A,J,n⟩=0):=by show kdZ ⟨A,J,n⟩=0;simp[kdZ,kdT,C,D,E,G,H,I]
 have L:(A==3)=false:=by simp[C]
 have M:(A==4)=false:=by simp[D]
 have N:(A==5)=false:=by simp[E]
 have P:(A==6)=false:=by simp[G]
 have Q:(A==7)=false:=by simp[H]
 have R:(A==8)=false:=by simp[I]
 go_in;go_wp2;go_ret;exact⟨by rw[K.o];rfl,B _⟩
theorem z5l(ds:List Td)(a:Option Addr)(cap:Nat)(hl:ds.length<=400)(hk:∀x∈ds,q0t x=0):∀(f i:Nat)(w:World),Tds w a ds->ds.length-i<f->i<=1000->
  Cb 47 #[.slice a ds.length cap,.int .i64 i] w (.int .i64 (z9g (q3u ds i 1))):=by
 unfold Cb;have R:Hid (∀x∈ds,q0t x=0):=hk;intro f
 induction f with
 | zero=>intro i w _ h;omega
 | succ f ih=>
  intro i w r hf hi;have S:Hid (Tds w a ds):=r
  have Y:Hid (∀(i:Nat)(w:World),Tds w a ds->ds.length-i<f->i<=1000->
   Calls prog 47 #[.slice a ds.length cap,.int .i64 i] w fun e w'=>e=.returned (.int .i64 (z9g (q3u ds i 1)))/\Below w w w'):=ih
  by_cases B:i<ds.length
  ·obtain⟨b,o,n,hb,d,g,l⟩:=S.o i B;have K:Hid (q3u ds i 1=q3u ds (i+1) (kdT ds[i])):=z4s _ _ 0 B;have P:=y0n (R.o _ (getElem_mem B));have J:Hid (kdZ ds[i]=(kdT ds[i]:Int)):=y0o (R.o _ (getElem_mem B));have s:(i:Int)<(ds.length:Int):=by omega
   have N:¬(ds.length:Int)<=(i:Int):=by omega
   subst n;generalize ds[i]=x at d g l K P J;generalize y:kdT x=p at K P J;obtain⟨V,X,U⟩:=x
   have I:Hid (∀W:World,Cb 74 #[.agg #[.int .i64 V,.string X,.int .i64 U]] W (.int .i64 (p:Int))):=fun W=>by
    have:=j2s ⟨V,X,U⟩ W
    rw[J.o]at this;exact this
   go_in;go_wp2_with fail;refine(I.o _).mono ?_;rintro e w1⟨rfl,Z⟩;go_wp2_with fail
   go_loopw [1,5] (fun z m wr=>Below w w wr/\∃q:Nat,q<=6/\m=.int .i64 q/\((∃k:Nat,i<k/\k<=ds.length/\z=.int .i64 k/\q3u ds i 1=q3u ds k q)\/(z=.int .i64 (-1)/\q3u ds i 1=none))) (fun _ m _=>(intOf m).toNat)
   case atStart=>exact⟨Z,p,P,rfl,.inl ⟨i+1,by omega,by omega,by go_num,K.o⟩⟩
   case round=>
    obtain⟨D,q,hq,rfl,⟨k,u,v,rfl,M⟩|⟨rfl,M⟩⟩:=hrel
    ·have C:Hid (q3u ds i 1=q3u ds k q):=M;have A:Hid (Below w w wr):=D;by_cases L:q=0
     ·subst L;have H:Hid (q3u ds i 1=some k):=C.o.trans (k2c _ _);go_wp2;go_ret;exact⟨by rw[H.o];rfl,A.o⟩
     ·obtain⟨E,rfl⟩:∃E,q=E+1:=⟨q-1,by omega⟩;have Q:Hid (q3u ds i 1=(q3u ds k 1).bind fun j=>q3u ds j E):=C.o.trans (by rw[Nat.add_comm E 1,v5g]);go_wp2_with fail;refine(Y.o k _ (S.o.W A.o) (by omega) (by omega)).mono ?_;rintro e w2⟨rfl,c⟩;have G:Hid (Below w w w2):=q0e A.o Zl c;go_wp2
      go_roundw
      case rel=>
       refine⟨G.o,E,by omega,by go_num,?_⟩;cases O:q3u ds k 1 with
       | none=>exact .inr ⟨rfl,by rw[Q.o,O];rfl⟩
       | some j=>
        have t:=y3n O;exact .inl ⟨j,by omega,by omega,rfl,by rw[Q.o,O];rfl⟩
      case measure=>simp[intOf]
    ·have C:Hid (q3u ds i 1=none):=M;have A:Hid (Below w w wr):=D;by_cases L:q=0
     ·subst L;go_wp2;go_ret;exact⟨by rw[C.o];rfl,A.o⟩
     ·go_wp2;go_ret;exact⟨by rw[C.o];rfl,A.o⟩
  ·have C:Hid (q3u ds i 1=none):=q8v _ _ _ (by omega);have N:(ds.length:Int)<=(i:Int):=by omega
   go_in;go_wp2;go_ret;exact⟨by rw[C.o];rfl,Below.refl _ _⟩
theorem y0b(d:Nat)(h:d<=9)(W:World):(Instr.slice 9 (.string ⟨#[48,49,50,51,52,53,54,55,56,57]⟩) (some (.int .i64 (d:Int))) (some (.int .i64 ((d:Int)+1))) none).run prog W=.ok (.string (wbS [UInt8.ofNat (48+d)])) W:=by
 rw[run_slice_string (P:=prog) (w:=W) 9 _ .i64 .i64 (d:Int) ((d:Int)+1) Tryz.underlying9 (by omega) (by omega) (by show(d:Int)+1<=10;omega)];have e:((d:Int)+1).toNat=d+1:=by omega
 rw[e,Int.toNat_natCast]
 match d,h with
 | 0,_=>rfl
 | 1,_=>rfl
 | 2,_=>rfl
 | 3,_=>rfl
 | 4,_=>rfl
 | 5,_=>rfl
 | 6,_=>rfl
 | 7,_=>rfl
 | 8,_=>rfl
 | 9,_=>rfl
theorem q0l(a b:List UInt8):wbS a++wbS b=wbS (a++b):=by
 apply ByteArray.ext;simp[wbS]
theorem j1j{n:Nat}(h:n<=9):q3o n=[UInt8.ofNat (48+n)]:=by rw[q3o,dif_pos h]
theorem v5c{n:Nat}(h:¬n<=9):q3o n=q3o (n / 10)++[UInt8.ofNat (48+n % 10)]:=by rw[q3o,dif_neg h]
theorem q1m(l:List UInt8):(wbS l).size=l.length:=by
 rw[<-q0c];rfl
theorem k9w(n:Nat)(hn:n<=999999)(w:World):Cw 45 #[.int .i64 (n:Int)] w (.string (wbS (q3o n))):=by
 unfold Cw;have H:=z0s 5 n (by omega);go_in;go_wp2_with fail
 go_loopw [0,3] (fun x s wr=>wr=w/\∃(m:Nat)(t:List UInt8),x=.int .i64 (m:Int)/\s=.string (wbS t)/\m<=n/\q3o n=q3o m++t) (fun x _ _=>(intOf x).toNat)
 case atStart=>exact⟨rfl,n,[],rfl,rfl,Nat.le_refl _,by simp⟩
 case round=>
  obtain⟨rfl,m,t,rfl,rfl,P,I⟩:=hrel;have K:Hid (q3o n=q3o m++t):=I
  have C:(wbS t).size<=100:=by
   have:=congrArg List.length I
   rw[length_append]at this;rw[q1m];omega
  clear I H;by_cases E:m<=9
  ·have G:¬(9:Int)<(m:Int):=by omega
   have D:=y0b m E;have B:(wbS [UInt8.ofNat (48+m)]).size<=1:=by rw[q1m];exact Nat.le_refl _
   have A:Hid (wbS [UInt8.ofNat (48+m)]++wbS t=wbS (q3o n)):=by
    show _=_;rw[K.o,j1j E,q0l]
   generalize wbS [UInt8.ofNat (48+m)]=dg at D B A;generalize wbS t=ts at C A;go_wp2;go_ret;exact⟨by rw[<-A.o];rfl,rfl⟩
  ·have G:(9:Int)<(m:Int):=by omega
   have D:=y0b (m % 10) (by omega);have L:((m % 10:Nat):Int)=(m:Int) % 10:=by omega
   have M:((m / 10:Nat):Int)=(m:Int) / 10:=by omega
   rw[L]at D;have B:(wbS [UInt8.ofNat (48+m % 10)]).size<=1:=by rw[q1m];exact Nat.le_refl _
   have A:Hid (wbS [UInt8.ofNat (48+m % 10)]++wbS t=wbS ([UInt8.ofNat (48+m % 10)]++t)):=q0l _ _
   have N:Hid (q3o n=q3o (m / 10)++([UInt8.ofNat (48+m % 10)]++t)):=by
    show _=_;rw[K.o,v5c E,List.append_assoc]
   have O:Hid (((m / 10:Nat):Int)=(m:Int) / 10):=M;generalize wbS [UInt8.ofNat (48+m % 10)]=dg at D B A;generalize J:wbS t=ts at C A;clear L M J;go_wp2;exact⟨⟨by trivial,m / 10,_,by rw[O.o],by rw[A.o],by omega,N.o⟩,by simp[intOf];omega⟩
def y7i(p k:Int)(s:Bool):Bool:=(decide (p=6)&&decide (k=5))||(s&&(decide (p=5)||decide (p=6))&&decide (k=p))
theorem j5k(p x:Td)(s:Bool)(h:p.op=5\/p.op=6):y7i p.op x.op s=decide (prc x<(if p.op=5 then(if s then 1 else 0)else(if s then 2 else 1))):=by
 unfold y7i prc;rcases h with h|h<;>rw[h]<;>cases s<;>by_cases A:x.op=5<;>by_cases B:x.op=6<;>simp_all
theorem z7t(p x:Td)(s:Bool)(w:World):Cb 73 #[tdV p,tdV x,.bool s] w (.bool (y7i p.op x.op s)):=by
 unfold Cb;obtain⟨B,K,J⟩:=p;obtain⟨C,M,L⟩:=x;unfold tdV;simp only;go_in;have A:Hid (∀o1 o2:Obj,Below w w ((w.alloc o1).alloc o2)):=fun o1 o2=>(Zb.alloc Zl _).alloc (by rw[World.size_alloc];omega) _
 go_wp2
 all_goals go_ret
 all_goals refine⟨?_,?_⟩
 all_goals first|exact A.o _ _|(simp_all[y7i];done)|(by_cases D:C=5<;>by_cases E:C=6<;>by_cases H:B=5<;>by_cases I:B=6<;>by_cases G:C=B<;>simp_all[y7i])
theorem y1n{t:List Td}(h:q0b t=0):q0z [t]=(0,0):=by
 rw[q0z,if_neg (by simp),q7u,if_neg (by simp[h]),if_neg (by simp)];rfl
end Go.Proofs.YtchdplceopegoaaGreatDoor
