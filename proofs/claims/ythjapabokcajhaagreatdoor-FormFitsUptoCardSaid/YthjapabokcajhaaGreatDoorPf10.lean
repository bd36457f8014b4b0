/- Texts as one: TreU, TreY, AppO, TreK. -/
import Derived.Test.YthjapabokcajhaaGreatDoorPf00
import Derived.Test.YthjapabokcajhaaGreatDoorPf09
import Derived.Test.YthjapabokcajhaaGreatDoorPf05
import Derived.Test.YthjapabokcajhaaGreatDoorPf06
import Derived.Laws.AppendOwn
import Derived.Laws.AppendOwnNone
import Derived.Test.YthjapabokcajhaaGreatDoorPf07
namespace Go.Proofs.YthjapabokcajhaaGreatDoor
open Go
theorem j3g{op:Int}{tx:ByteArray}{n:Int}(_h0:op<1):q0l ⟨op,tx,n⟩=1:=by
 unfold q0l
 (repeat' split)<;>first|rfl|(exfalso;omega)|(exfalso;simp_all;done)|(exfalso;simp_all<;>omega)|(simp_all;done)
theorem j3h{op:Int}{tx:ByteArray}{n:Int}(_h0:¬op<1)(_h1:9<op):q0l ⟨op,tx,n⟩=1:=by
 unfold q0l
 (repeat' split)<;>first|rfl|(exfalso;omega)|(exfalso;simp_all;done)|(exfalso;simp_all<;>omega)|(simp_all;done)
theorem j3i{tx:ByteArray}{n:Int}(_h0:n<0):q0l ⟨1,tx,n⟩=1:=by
 have ht:q1r 1=false:=rfl;unfold q0l
 (repeat' split)<;>first|rfl|(exfalso;omega)|(exfalso;simp_all;done)|(exfalso;simp_all<;>omega)|(simp_all;done)
theorem j3j{tx:ByteArray}{n:Int}(_h0:¬n<0)(_h1:999999<n):q0l ⟨1,tx,n⟩=1:=by
 have ht:q1r 1=false:=rfl;unfold q0l
 (repeat' split)<;>first|rfl|(exfalso;omega)|(exfalso;simp_all;done)|(exfalso;simp_all<;>omega)|(simp_all;done)
theorem j3k{tx:ByteArray}{n:Int}(_h0:¬n<0)(_h1:¬999999<n)(_h2:0<(tx.size:Int)):q0l ⟨1,tx,n⟩=2:=by
 have ht:q1r 1=false:=rfl;unfold q0l
 (repeat' split)<;>first|rfl|(exfalso;omega)|(exfalso;simp_all;done)|(exfalso;simp_all<;>omega)|(simp_all;done)
theorem j3l{tx:ByteArray}{n:Int}(_h0:¬n<0)(_h1:¬999999<n)(_h2:¬0<(tx.size:Int)):q0l ⟨1,tx,n⟩=0:=by
 have ht:q1r 1=false:=rfl;unfold q0l
 (repeat' split)<;>first|rfl|(exfalso;omega)|(exfalso;simp_all;done)|(exfalso;simp_all<;>omega)|(simp_all;done)
theorem j3m{tx:ByteArray}{n:Int}(_h0:¬n=0):q0l ⟨2,tx,n⟩=2:=by
 have ht:q1r 2=true:=rfl;unfold q0l
 (repeat' split)<;>first|rfl|(exfalso;omega)|(exfalso;simp_all;done)|(exfalso;simp_all<;>omega)|(simp_all;done)
theorem j3n{tx:ByteArray}{n:Int}(_h0:n=0)(_h1:q0r tx=true):q0l ⟨2,tx,n⟩=0:=by
 have ht:q1r 2=true:=rfl;unfold q0l
 (repeat' split)<;>first|rfl|(exfalso;omega)|(exfalso;simp_all;done)|(exfalso;simp_all<;>omega)|(simp_all;done)
theorem j3o{tx:ByteArray}{n:Int}(_h0:n=0)(_h1:q0r tx=false):q0l ⟨2,tx,n⟩=5:=by
 have ht:q1r 2=true:=rfl;unfold q0l
 (repeat' split)<;>first|rfl|(exfalso;omega)|(exfalso;simp_all;done)|(exfalso;simp_all<;>omega)|(simp_all;done)
theorem j3p{tx:ByteArray}{n:Int}(_h0:n<0):q0l ⟨3,tx,n⟩=1:=by
 have ht:q1r 3=true:=rfl;unfold q0l
 (repeat' split)<;>first|rfl|(exfalso;omega)|(exfalso;simp_all;done)|(exfalso;simp_all<;>omega)|(simp_all;done)
theorem k5c{tx:ByteArray}{n:Int}(_h0:¬n<0)(_h1:6<n):q0l ⟨3,tx,n⟩=1:=by
 have ht:q1r 3=true:=rfl;unfold q0l
 (repeat' split)<;>first|rfl|(exfalso;omega)|(exfalso;simp_all;done)|(exfalso;simp_all<;>omega)|(simp_all;done)
theorem k5d{tx:ByteArray}{n:Int}(_h0:¬n<0)(_h1:¬6<n)(_h2:q0r tx=true):q0l ⟨3,tx,n⟩=0:=by
 have ht:q1r 3=true:=rfl;unfold q0l
 (repeat' split)<;>first|rfl|(exfalso;omega)|(exfalso;simp_all;done)|(exfalso;simp_all<;>omega)|(simp_all;done)
theorem k5e{tx:ByteArray}{n:Int}(_h0:¬n<0)(_h1:¬6<n)(_h2:q0r tx=false):q0l ⟨3,tx,n⟩=5:=by
 have ht:q1r 3=true:=rfl;unfold q0l
 (repeat' split)<;>first|rfl|(exfalso;omega)|(exfalso;simp_all;done)|(exfalso;simp_all<;>omega)|(simp_all;done)
theorem k5f{tx:ByteArray}{n:Int}(_h0:n<0):q0l ⟨4,tx,n⟩=1:=by
 have ht:q1r 4=false:=rfl;unfold q0l
 (repeat' split)<;>first|rfl|(exfalso;omega)|(exfalso;simp_all;done)|(exfalso;simp_all<;>omega)|(simp_all;done)
theorem k5g{tx:ByteArray}{n:Int}(_h0:¬n<0)(_h1:6<n):q0l ⟨4,tx,n⟩=1:=by
 have ht:q1r 4=false:=rfl;unfold q0l
 (repeat' split)<;>first|rfl|(exfalso;omega)|(exfalso;simp_all;done)|(exfalso;simp_all<;>omega)|(simp_all;done)
theorem k5h{tx:ByteArray}{n:Int}(_h0:¬n<0)(_h1:¬6<n)(_h2:0<(tx.size:Int)):q0l ⟨4,tx,n⟩=2:=by
 have ht:q1r 4=false:=rfl;unfold q0l
 (repeat' split)<;>first|rfl|(exfalso;omega)|(exfalso;simp_all;done)|(exfalso;simp_all<;>omega)|(simp_all;done)
theorem k5i{tx:ByteArray}{n:Int}(_h0:¬n<0)(_h1:¬6<n)(_h2:¬0<(tx.size:Int)):q0l ⟨4,tx,n⟩=0:=by
 have ht:q1r 4=false:=rfl;unfold q0l
 (repeat' split)<;>first|rfl|(exfalso;omega)|(exfalso;simp_all;done)|(exfalso;simp_all<;>omega)|(simp_all;done)
theorem k5j{tx:ByteArray}{n:Int}(_h0:¬n=0):q0l ⟨5,tx,n⟩=2:=by
 have ht:q1r 5=false:=rfl;unfold q0l
 (repeat' split)<;>first|rfl|(exfalso;omega)|(exfalso;simp_all;done)|(exfalso;simp_all<;>omega)|(simp_all;done)
theorem k5k{tx:ByteArray}{n:Int}(_h0:n=0)(_h1:0<(tx.size:Int)):q0l ⟨5,tx,n⟩=2:=by
 have ht:q1r 5=false:=rfl;unfold q0l
 (repeat' split)<;>first|rfl|(exfalso;omega)|(exfalso;simp_all;done)|(exfalso;simp_all<;>omega)|(simp_all;done)
theorem k5l{tx:ByteArray}{n:Int}(_h0:n=0)(_h1:¬0<(tx.size:Int)):q0l ⟨5,tx,n⟩=0:=by
 have ht:q1r 5=false:=rfl;unfold q0l
 (repeat' split)<;>first|rfl|(exfalso;omega)|(exfalso;simp_all;done)|(exfalso;simp_all<;>omega)|(simp_all;done)
theorem k5m{tx:ByteArray}{n:Int}(_h0:¬n=0):q0l ⟨6,tx,n⟩=2:=by
 have ht:q1r 6=false:=rfl;unfold q0l
 (repeat' split)<;>first|rfl|(exfalso;omega)|(exfalso;simp_all;done)|(exfalso;simp_all<;>omega)|(simp_all;done)
theorem k5n{tx:ByteArray}{n:Int}(_h0:n=0)(_h1:0<(tx.size:Int)):q0l ⟨6,tx,n⟩=2:=by
 have ht:q1r 6=false:=rfl;unfold q0l
 (repeat' split)<;>first|rfl|(exfalso;omega)|(exfalso;simp_all;done)|(exfalso;simp_all<;>omega)|(simp_all;done)
theorem k5o{tx:ByteArray}{n:Int}(_h0:n=0)(_h1:¬0<(tx.size:Int)):q0l ⟨6,tx,n⟩=0:=by
 have ht:q1r 6=false:=rfl;unfold q0l
 (repeat' split)<;>first|rfl|(exfalso;omega)|(exfalso;simp_all;done)|(exfalso;simp_all<;>omega)|(simp_all;done)
theorem k5p{tx:ByteArray}{n:Int}(_h0:¬n=0):q0l ⟨7,tx,n⟩=2:=by
 have ht:q1r 7=true:=rfl;unfold q0l
 (repeat' split)<;>first|rfl|(exfalso;omega)|(exfalso;simp_all;done)|(exfalso;simp_all<;>omega)|(simp_all;done)
theorem k5q{tx:ByteArray}{n:Int}(_h0:n=0)(_h1:q0r tx=true):q0l ⟨7,tx,n⟩=0:=by
 have ht:q1r 7=true:=rfl;unfold q0l
 (repeat' split)<;>first|rfl|(exfalso;omega)|(exfalso;simp_all;done)|(exfalso;simp_all<;>omega)|(simp_all;done)
theorem k5r{tx:ByteArray}{n:Int}(_h0:n=0)(_h1:q0r tx=false):q0l ⟨7,tx,n⟩=5:=by
 have ht:q1r 7=true:=rfl;unfold q0l
 (repeat' split)<;>first|rfl|(exfalso;omega)|(exfalso;simp_all;done)|(exfalso;simp_all<;>omega)|(simp_all;done)
theorem k5s{tx:ByteArray}{n:Int}(_h0:¬n=0):q0l ⟨8,tx,n⟩=2:=by
 have ht:q1r 8=false:=rfl;unfold q0l
 (repeat' split)<;>first|rfl|(exfalso;omega)|(exfalso;simp_all;done)|(exfalso;simp_all<;>omega)|(simp_all;done)
theorem k5t{tx:ByteArray}{n:Int}(_h0:n=0)(_h1:0<(tx.size:Int)):q0l ⟨8,tx,n⟩=2:=by
 have ht:q1r 8=false:=rfl;unfold q0l
 (repeat' split)<;>first|rfl|(exfalso;omega)|(exfalso;simp_all;done)|(exfalso;simp_all<;>omega)|(simp_all;done)
theorem k5u{tx:ByteArray}{n:Int}(_h0:n=0)(_h1:¬0<(tx.size:Int)):q0l ⟨8,tx,n⟩=0:=by
 have ht:q1r 8=false:=rfl;unfold q0l
 (repeat' split)<;>first|rfl|(exfalso;omega)|(exfalso;simp_all;done)|(exfalso;simp_all<;>omega)|(simp_all;done)
theorem k5v{tx:ByteArray}{n:Int}(_h0:¬n=0):q0l ⟨9,tx,n⟩=2:=by
 have ht:q1r 9=true:=rfl;unfold q0l
 (repeat' split)<;>first|rfl|(exfalso;omega)|(exfalso;simp_all;done)|(exfalso;simp_all<;>omega)|(simp_all;done)
theorem k5w{tx:ByteArray}{n:Int}(_h0:n=0)(_h1:q1s tx=0):q0l ⟨9,tx,n⟩=0:=by
 have ht:q1r 9=true:=rfl;unfold q0l
 (repeat' split)<;>first|rfl|(exfalso;omega)|(exfalso;simp_all;done)|(exfalso;simp_all<;>omega)|(simp_all;done)
theorem k5x{tx:ByteArray}{n:Int}(_h0:n=0)(_h1:¬q1s tx=0):q0l ⟨9,tx,n⟩=q1s tx:=by
 have ht:q1r 9=true:=rfl;unfold q0l
 (repeat' split)<;>first|rfl|(exfalso;omega)|(exfalso;simp_all;done)|(exfalso;simp_all<;>omega)|(simp_all;done)
theorem z1m{ds:List Td}(h:40<ds.length):q0b ds=3:=by rw[q0b,if_pos h]
theorem z1n{ds:List Td}{k:Nat}(hl:ds.length<=40)(hk:k<ds.length)(ha:∀x∈ds.take k,q0l x=0)(h:q0l ds[k]≠0):q0b ds=q0l ds[k]:=by
 have e:=k3z ds k hk ha h;rw[q0b,if_neg (by omega),if_pos (by rw[e];exact h),e]
theorem q7h{ds:List Td}(hl:ds.length<=40)(ha:∀x∈ds,q0l x=0):q0b ds=if q2h ds 0 1=some ds.length/\z7h ds=true then 0 else 2:=by
 rw[q0b,if_neg (by omega),if_neg (by rw[z8e ds ha];simp)]
theorem z1l{ds:List Td}{k:Nat}(h:k<ds.length)(ha:∀x∈ds.take k,q0l x=0)(h0:q0l ds[k]=0):∀x∈ds.take (k+1),q0l x=0:=by
 intro x hx;rw[List.take_succ_eq_append_getElem h]at hx;rcases List.mem_append.1 hx with hx|hx
 ·exact ha x hx
 ·simp at hx;subst hx;exact h0
theorem z9m{ds:List Td}:z7h ds=true↔∀k(h:k<ds.length),decide (7<=ds[k].op)=decide (k=0):=by
 cases ds with
 | nil=>simp[z7h]
 | cons x r=>
  simp only[z7h,Bool.and_eq_true,decide_eq_true_eq,List.all_eq_true];constructor
  ·rintro⟨h1,h2⟩k hk;cases k with
   | zero=>simpa using h1
   | succ k=>
    have:=h2 (r[k]'(by simpa using hk)) (List.getElem_mem _)
    simp only[List.getElem_cons_succ,Nat.add_eq_zero_iff,Nat.one_ne_zero,and_false,decide_false,decide_eq_false_iff_not];omega
  ·intro h;have h0:=h 0 (by simp);simp only[List.getElem_cons_zero,decide_true,decide_eq_true_eq]at h0;refine⟨h0,fun y hy=>?_⟩;obtain⟨k,hk,rfl⟩:=List.getElem_of_mem hy
   have:=h (k+1) (by simpa using hk)
   simp at this;omega
end Go.Proofs.YthjapabokcajhaaGreatDoor
namespace Go.Proofs.YthjapabokcajhaaGreatDoor
open Go Go.RowKit
set_option maxRecDepth 100000
set_option maxHeartbeats 8000000
theorem q2j(s:ByteArray)(w:World):Calls Tryz.prog 100 #[.string s] w fun e w'=>e=.returned (.bool (q0r s))/\w=w':=by
 by_cases h1:(s.size:Int)<1
 ·have HE:Hid (q0r s=false):=q9p (by omega);go_in;go_wp2;go_ret;exact⟨by rw[HE.out];rfl,rfl⟩
 by_cases h2:8<(s.size:Int)
 ·have HE:Hid (q0r s=false):=z1f (by omega);go_in;go_wp2;go_ret;exact⟨by rw[HE.out];rfl,rfl⟩
 by_cases h3:s=⟨#[108,101,116]⟩
 ·subst h3;go_in;go_wp2;go_ret;exact⟨by rfl,rfl⟩
 have HL:Hid (¬s=⟨#[108,101,116]⟩):=h3
 have hnb:¬s.toList=[108,101,116]:=by
  rw[ByteArray.toList_eq];intro e;exact h3 (k4n.1 e)
 have hnc:(s.toList==[108,101,116])=false:=beq_false_of_ne hnb;clear h3;go_in;go_wp2_with fail
 go_loopw [18] (fun i wr=>wr=w/\∃k:Nat,k<=s.size/\i=.int .i64 k/\∀j(h:j<s.size),j<k->q7n s[j]=true) (fun i _=>s.size-(intOf i).toNat)
 case atStart=>exact⟨rfl,0,Nat.zero_le _,rfl,fun j _ hj=>by omega⟩
 case round=>
  obtain⟨rfl,k,hk,rfl,hall⟩:=hrel;have HA:Hid (∀j(h:j<s.size),j<k->q7n s[j]=true):=hall;clear hall;by_cases hlt:k<s.size
  ·cases hb:q7n s[k]with
   | false=>
    have HE:Hid (q0r s=false):=z4v hlt hb;by_cases hc:(s[k].toNat:Int)<97
    ·clear hb;go_wp2;go_ret;exact⟨by rw[HE.out];rfl,rfl⟩
    ·have hd:(122:Int)<(s[k].toNat:Int):=by
      simp[q7n]at hb;omega
     clear hb;go_wp2;go_ret;exact⟨by rw[HE.out];rfl,rfl⟩
   | true=>
    have HA':Hid (∀j(h:j<s.size),j<k+1->q7n s[j]=true):=fun j h hj=>by
     by_cases hjk:j=k
     ·subst hjk;exact hb
     ·exact HA.out j h (by omega)
    have hc:¬(s[k].toNat:Int)<97/\¬(122:Int)<(s[k].toNat:Int):=by
     simp[q7n]at hb;omega
    obtain⟨hc,hd⟩:=hc;clear hb;go_wp2
    go_roundw
    case rel=>exact⟨by trivial,k+1,by omega,by go_num,HA'.out⟩
    case measure=>simp[intOf];omega
  ·have HE:Hid (q0r s=true):=z4u (by omega) (by omega) HL.out fun j h=>HA.out j h (by omega)
   go_wp2;go_ret;exact⟨by rw[HE.out];rfl,rfl⟩
def grM(op:Int):Int:=if op=1 then 999999 else if op=3\/op=4 then 6 else 0
def grH(op:Int):Bool:=decide (op=1\/op=3\/op=4)
theorem q0c(op M:Int)(H:Bool)(hM:grM op=M)(hH:grH op=H)(w:World):Calls Tryz.prog 96 #[.int .i64 op] w fun e w'=>e=.returned (.tuple #[.int .i64 M,.bool H])/\w=w':=by
 subst hM hH;by_cases h1:op=1
 ·subst h1;go_in;go_wp2;go_ret2;exact⟨rfl,rfl⟩
 by_cases h3:op=3
 ·subst h3;go_in;go_wp2;go_ret2;exact⟨rfl,rfl⟩
 by_cases h4:op=4
 ·subst h4;go_in;go_wp2;go_ret2;exact⟨rfl,rfl⟩
 have HM:Hid (grM op=0):=by show grM op=0;simp[grM,h1,h3,h4]
 have HH:Hid (grH op=false):=by show grH op=false;simp[grH,h1,h3,h4]
 have g1:(op==1)=false:=by simp[h1]
 have g3:(op==3)=false:=by simp[h3]
 have g4:(op==4)=false:=by simp[h4]
 clear h1 h3 h4;go_in;go_wp2;go_ret2;exact⟨by rw[HM.out,HH.out];rfl,rfl⟩
def v1j(op:Int):Bool:=op==2||op==3||op==7
theorem q0e(op:Int)(H:Bool)(hH:v1j op=H)(w:World):Calls Tryz.prog 99 #[.int .i64 op] w fun e w'=>e=.returned (.bool H)/\w=w':=by
 subst hH;by_cases h2:op=2
 ·subst h2;go_in;go_wp2;go_ret;exact⟨rfl,rfl⟩
 by_cases h3:op=3
 ·subst h3;go_in;go_wp2;go_ret;exact⟨rfl,rfl⟩
 by_cases h7:op=7
 ·subst h7;go_in;go_wp2;go_ret;exact⟨rfl,rfl⟩
 have HH:Hid (v1j op=false):=by show v1j op=false;simp[v1j,h2,h3,h7]
 have g1:(op==2)=false:=by simp[h2]
 have g3:(op==3)=false:=by simp[h3]
 have g4:(op==7)=false:=by simp[h7]
 clear h2 h3 h7;go_in;go_wp2;go_ret;exact⟨by rw[HH.out];rfl,rfl⟩
def exB(op:Int):Bool:=decide (1<=op)&&decide (op<=6)
theorem q7g(op:Int)(w:World):Calls Tryz.prog 101 #[.int .i64 op] w fun e w'=>e=.returned (.bool (exB op))/\w=w':=by
 by_cases h1:1<=op
 ·by_cases h6:op<=6
  ·have HH:Hid (exB op=true):=by show exB op=true;simp[exB,h1,h6]
   go_in;go_wp2;go_ret;exact⟨by rw[HH.out];rfl,rfl⟩
  ·have HH:Hid (exB op=false):=by show exB op=false;simp[exB,h6]
   go_in;go_wp2;go_ret;exact⟨by rw[HH.out];rfl,rfl⟩
 ·have HH:Hid (exB op=false):=by show exB op=false;simp[exB,h1]
  go_in;go_wp2;go_ret;exact⟨by rw[HH.out];rfl,rfl⟩
theorem z5j(x:Td)(w:World)(hs:x.tx.size<=140737488351232):Calls Tryz.prog 66 #[tdV x] w fun e w'=>e=.returned (q1p (q0l x))/\Below w.heap.size w w':=by
 obtain⟨op,tx,n⟩:=x;have hs:tx.size<=140737488351232:=hs;have hb:∀O:Obj,Below w.heap.size w (w.alloc O):=fun O=>(Below.refl _ w).alloc (Nat.le_refl _) O
 by_cases h0:op<1
 ·have HE:Hid (q0l ⟨op,tx,n⟩=1):=j3g h0;have hg1:grM op=0:=by unfold grM;rw[if_neg (by omega),if_neg (by omega)]
  have hg2:grH op=false:=decide_eq_false (by omega);go_in;go_wp2_with fail;refine(q0c op 0 false hg1 hg2 _).mono ?_;rintro e w2⟨rfl,rfl⟩;go_wp2;go_ret;exact⟨by rw[HE.out];rfl,hb _⟩
 by_cases h1:9<op
 ·have HE:Hid (q0l ⟨op,tx,n⟩=1):=j3h h0 h1;have hg1:grM op=0:=by unfold grM;rw[if_neg (by omega),if_neg (by omega)]
  have hg2:grH op=false:=decide_eq_false (by omega);go_in;go_wp2_with fail;refine(q0c op 0 false hg1 hg2 _).mono ?_;rintro e w2⟨rfl,rfl⟩;go_wp2;go_ret;exact⟨by rw[HE.out];rfl,hb _⟩
 have hop:op=1\/op=2\/op=3\/op=4\/op=5\/op=6\/op=7\/op=8\/op=9:=by omega
 clear h0 h1;rcases hop with rfl|rfl|rfl|rfl|rfl|rfl|rfl|rfl|rfl
 ·by_cases h0:n<0
  ·have HE:Hid (q0l ⟨1,tx,n⟩=1):=j3i h0;go_in;go_wp2_with fail;refine(q0c 1 999999 true rfl rfl _).mono ?_;rintro e w2⟨rfl,rfl⟩;go_wp2;go_ret;exact⟨by rw[HE.out];rfl,hb _⟩
  ·by_cases h1:999999<n
   ·have HE:Hid (q0l ⟨1,tx,n⟩=1):=j3j h0 h1;go_in;go_wp2_with fail;refine(q0c 1 999999 true rfl rfl _).mono ?_;rintro e w2⟨rfl,rfl⟩;go_wp2;go_ret;exact⟨by rw[HE.out];rfl,hb _⟩
   ·by_cases h2:0<(tx.size:Int)
    ·have HE:Hid (q0l ⟨1,tx,n⟩=2):=j3k h0 h1 h2;have q1:=q5l h2;have q2:(tx.toList != [])=true:=by simp[bne,q1]
     go_in;go_wp2_with fail;refine(q0c 1 999999 true rfl rfl _).mono ?_;rintro e w2⟨rfl,rfl⟩;go_wp2_with fail;refine(q0e 1 false rfl _).mono ?_;rintro e w2⟨rfl,rfl⟩;go_wp2;go_ret;exact⟨by rw[HE.out];rfl,hb _⟩
    ·have HE:Hid (q0l ⟨1,tx,n⟩=0):=j3l h0 h1 h2;have e0:=q3v h2;subst e0;go_in;go_wp2_with fail;refine(q0c 1 999999 true rfl rfl _).mono ?_;rintro e w2⟨rfl,rfl⟩;go_wp2_with fail;refine(q0e 1 false rfl _).mono ?_;rintro e w2⟨rfl,rfl⟩;go_wp2_with fail;refine(q0e 1 false rfl _).mono ?_;rintro e w2⟨rfl,rfl⟩;go_wp2;go_ret;exact⟨by rw[HE.out];rfl,hb _⟩
 ·by_cases h0:n=0
  ·cases h1:q0r tx with
   | true=>
    have HE:Hid (q0l ⟨2,tx,n⟩=0):=j3n h0 h1;subst h0;have HM:Hid (q0r tx=true):=h1;clear h1;go_in;go_wp2_with fail;refine(q0c 2 0 false rfl rfl _).mono ?_;rintro e w2⟨rfl,rfl⟩;go_wp2_with fail;refine(q0e 2 true rfl _).mono ?_;rintro e w2⟨rfl,rfl⟩;go_wp2_with fail;refine(q0e 2 true rfl _).mono ?_;rintro e w2⟨rfl,rfl⟩;go_wp2_with fail;refine(q2j tx _).mono ?_;rintro e w2⟨rfl,rfl⟩;rw[HM.out];go_wp2;go_ret;exact⟨by rw[HE.out];rfl,hb _⟩
   | false=>
    have HE:Hid (q0l ⟨2,tx,n⟩=5):=j3o h0 h1;subst h0;have HM:Hid (q0r tx=false):=h1;clear h1;go_in;go_wp2_with fail;refine(q0c 2 0 false rfl rfl _).mono ?_;rintro e w2⟨rfl,rfl⟩;go_wp2_with fail;refine(q0e 2 true rfl _).mono ?_;rintro e w2⟨rfl,rfl⟩;go_wp2_with fail;refine(q0e 2 true rfl _).mono ?_;rintro e w2⟨rfl,rfl⟩;go_wp2_with fail;refine(q2j tx _).mono ?_;rintro e w2⟨rfl,rfl⟩;rw[HM.out];go_wp2;go_ret;exact⟨by rw[HE.out];rfl,hb _⟩
  ·have HE:Hid (q0l ⟨2,tx,n⟩=2):=j3m h0;have q3:(n==0)=false:=by simp[h0]
   have q4:(n != 0)=true:=by simp[h0]
   go_in;go_wp2_with fail;refine(q0c 2 0 false rfl rfl _).mono ?_;rintro e w2⟨rfl,rfl⟩;go_wp2;go_ret;exact⟨by rw[HE.out];rfl,hb _⟩
 ·by_cases h0:n<0
  ·have HE:Hid (q0l ⟨3,tx,n⟩=1):=j3p h0;go_in;go_wp2_with fail;refine(q0c 3 6 true rfl rfl _).mono ?_;rintro e w2⟨rfl,rfl⟩;go_wp2;go_ret;exact⟨by rw[HE.out];rfl,hb _⟩
  ·by_cases h1:6<n
   ·have HE:Hid (q0l ⟨3,tx,n⟩=1):=k5c h0 h1;go_in;go_wp2_with fail;refine(q0c 3 6 true rfl rfl _).mono ?_;rintro e w2⟨rfl,rfl⟩;go_wp2;go_ret;exact⟨by rw[HE.out];rfl,hb _⟩
   ·cases h2:q0r tx with
    | true=>
     have HE:Hid (q0l ⟨3,tx,n⟩=0):=k5d h0 h1 h2;have HM:Hid (q0r tx=true):=h2;clear h2;go_in;go_wp2_with fail;refine(q0c 3 6 true rfl rfl _).mono ?_;rintro e w2⟨rfl,rfl⟩;go_wp2_with fail;refine(q0e 3 true rfl _).mono ?_;rintro e w2⟨rfl,rfl⟩;go_wp2_with fail;refine(q0e 3 true rfl _).mono ?_;rintro e w2⟨rfl,rfl⟩;go_wp2_with fail;refine(q2j tx _).mono ?_;rintro e w2⟨rfl,rfl⟩;rw[HM.out];go_wp2;go_ret;exact⟨by rw[HE.out];rfl,hb _⟩
    | false=>
     have HE:Hid (q0l ⟨3,tx,n⟩=5):=k5e h0 h1 h2;have HM:Hid (q0r tx=false):=h2;clear h2;go_in;go_wp2_with fail;refine(q0c 3 6 true rfl rfl _).mono ?_;rintro e w2⟨rfl,rfl⟩;go_wp2_with fail;refine(q0e 3 true rfl _).mono ?_;rintro e w2⟨rfl,rfl⟩;go_wp2_with fail;refine(q0e 3 true rfl _).mono ?_;rintro e w2⟨rfl,rfl⟩;go_wp2_with fail;refine(q2j tx _).mono ?_;rintro e w2⟨rfl,rfl⟩;rw[HM.out];go_wp2;go_ret;exact⟨by rw[HE.out];rfl,hb _⟩
 ·by_cases h0:n<0
  ·have HE:Hid (q0l ⟨4,tx,n⟩=1):=k5f h0;go_in;go_wp2_with fail;refine(q0c 4 6 true rfl rfl _).mono ?_;rintro e w2⟨rfl,rfl⟩;go_wp2;go_ret;exact⟨by rw[HE.out];rfl,hb _⟩
  ·by_cases h1:6<n
   ·have HE:Hid (q0l ⟨4,tx,n⟩=1):=k5g h0 h1;go_in;go_wp2_with fail;refine(q0c 4 6 true rfl rfl _).mono ?_;rintro e w2⟨rfl,rfl⟩;go_wp2;go_ret;exact⟨by rw[HE.out];rfl,hb _⟩
   ·by_cases h2:0<(tx.size:Int)
    ·have HE:Hid (q0l ⟨4,tx,n⟩=2):=k5h h0 h1 h2;have q1:=q5l h2;have q2:(tx.toList != [])=true:=by simp[bne,q1]
     go_in;go_wp2_with fail;refine(q0c 4 6 true rfl rfl _).mono ?_;rintro e w2⟨rfl,rfl⟩;go_wp2_with fail;refine(q0e 4 false rfl _).mono ?_;rintro e w2⟨rfl,rfl⟩;go_wp2;go_ret;exact⟨by rw[HE.out];rfl,hb _⟩
    ·have HE:Hid (q0l ⟨4,tx,n⟩=0):=k5i h0 h1 h2;have e0:=q3v h2;subst e0;go_in;go_wp2_with fail;refine(q0c 4 6 true rfl rfl _).mono ?_;rintro e w2⟨rfl,rfl⟩;go_wp2_with fail;refine(q0e 4 false rfl _).mono ?_;rintro e w2⟨rfl,rfl⟩;go_wp2_with fail;refine(q0e 4 false rfl _).mono ?_;rintro e w2⟨rfl,rfl⟩;go_wp2;go_ret;exact⟨by rw[HE.out];rfl,hb _⟩
 ·by_cases h0:n=0
  ·by_cases h1:0<(tx.size:Int)
   ·have HE:Hid (q0l ⟨5,tx,n⟩=2):=k5k h0 h1;subst h0;have q1:=q5l h1;have q2:(tx.toList != [])=true:=by simp[bne,q1]
    go_in;go_wp2_with fail;refine(q0c 5 0 false rfl rfl _).mono ?_;rintro e w2⟨rfl,rfl⟩;go_wp2_with fail;refine(q0e 5 false rfl _).mono ?_;rintro e w2⟨rfl,rfl⟩;go_wp2;go_ret;exact⟨by rw[HE.out];rfl,hb _⟩
   ·have HE:Hid (q0l ⟨5,tx,n⟩=0):=k5l h0 h1;subst h0;have e0:=q3v h1;subst e0;go_in;go_wp2_with fail;refine(q0c 5 0 false rfl rfl _).mono ?_;rintro e w2⟨rfl,rfl⟩;go_wp2_with fail;refine(q0e 5 false rfl _).mono ?_;rintro e w2⟨rfl,rfl⟩;go_wp2_with fail;refine(q0e 5 false rfl _).mono ?_;rintro e w2⟨rfl,rfl⟩;go_wp2;go_ret;exact⟨by rw[HE.out];rfl,hb _⟩
  ·have HE:Hid (q0l ⟨5,tx,n⟩=2):=k5j h0;have q3:(n==0)=false:=by simp[h0]
   have q4:(n != 0)=true:=by simp[h0]
   go_in;go_wp2_with fail;refine(q0c 5 0 false rfl rfl _).mono ?_;rintro e w2⟨rfl,rfl⟩;go_wp2;go_ret;exact⟨by rw[HE.out];rfl,hb _⟩
 ·by_cases h0:n=0
  ·by_cases h1:0<(tx.size:Int)
   ·have HE:Hid (q0l ⟨6,tx,n⟩=2):=k5n h0 h1;subst h0;have q1:=q5l h1;have q2:(tx.toList != [])=true:=by simp[bne,q1]
    go_in;go_wp2_with fail;refine(q0c 6 0 false rfl rfl _).mono ?_;rintro e w2⟨rfl,rfl⟩;go_wp2_with fail;refine(q0e 6 false rfl _).mono ?_;rintro e w2⟨rfl,rfl⟩;go_wp2;go_ret;exact⟨by rw[HE.out];rfl,hb _⟩
   ·have HE:Hid (q0l ⟨6,tx,n⟩=0):=k5o h0 h1;subst h0;have e0:=q3v h1;subst e0;go_in;go_wp2_with fail;refine(q0c 6 0 false rfl rfl _).mono ?_;rintro e w2⟨rfl,rfl⟩;go_wp2_with fail;refine(q0e 6 false rfl _).mono ?_;rintro e w2⟨rfl,rfl⟩;go_wp2_with fail;refine(q0e 6 false rfl _).mono ?_;rintro e w2⟨rfl,rfl⟩;go_wp2;go_ret;exact⟨by rw[HE.out];rfl,hb _⟩
  ·have HE:Hid (q0l ⟨6,tx,n⟩=2):=k5m h0;have q3:(n==0)=false:=by simp[h0]
   have q4:(n != 0)=true:=by simp[h0]
   go_in;go_wp2_with fail;refine(q0c 6 0 false rfl rfl _).mono ?_;rintro e w2⟨rfl,rfl⟩;go_wp2;go_ret;exact⟨by rw[HE.out];rfl,hb _⟩
 ·by_cases h0:n=0
  ·cases h1:q0r tx with
   | true=>
    have HE:Hid (q0l ⟨7,tx,n⟩=0):=k5q h0 h1;subst h0;have HM:Hid (q0r tx=true):=h1;clear h1;go_in;go_wp2_with fail;refine(q0c 7 0 false rfl rfl _).mono ?_;rintro e w2⟨rfl,rfl⟩;go_wp2_with fail;refine(q0e 7 true rfl _).mono ?_;rintro e w2⟨rfl,rfl⟩;go_wp2_with fail;refine(q0e 7 true rfl _).mono ?_;rintro e w2⟨rfl,rfl⟩;go_wp2_with fail;refine(q2j tx _).mono ?_;rintro e w2⟨rfl,rfl⟩;rw[HM.out];go_wp2;go_ret;exact⟨by rw[HE.out];rfl,hb _⟩
   | false=>
    have HE:Hid (q0l ⟨7,tx,n⟩=5):=k5r h0 h1;subst h0;have HM:Hid (q0r tx=false):=h1;clear h1;go_in;go_wp2_with fail;refine(q0c 7 0 false rfl rfl _).mono ?_;rintro e w2⟨rfl,rfl⟩;go_wp2_with fail;refine(q0e 7 true rfl _).mono ?_;rintro e w2⟨rfl,rfl⟩;go_wp2_with fail;refine(q0e 7 true rfl _).mono ?_;rintro e w2⟨rfl,rfl⟩;go_wp2_with fail;refine(q2j tx _).mono ?_;rintro e w2⟨rfl,rfl⟩;rw[HM.out];go_wp2;go_ret;exact⟨by rw[HE.out];rfl,hb _⟩
  ·have HE:Hid (q0l ⟨7,tx,n⟩=2):=k5p h0;have q3:(n==0)=false:=by simp[h0]
   have q4:(n != 0)=true:=by simp[h0]
   go_in;go_wp2_with fail;refine(q0c 7 0 false rfl rfl _).mono ?_;rintro e w2⟨rfl,rfl⟩;go_wp2;go_ret;exact⟨by rw[HE.out];rfl,hb _⟩
 ·by_cases h0:n=0
  ·by_cases h1:0<(tx.size:Int)
   ·have HE:Hid (q0l ⟨8,tx,n⟩=2):=k5t h0 h1;subst h0;have q1:=q5l h1;have q2:(tx.toList != [])=true:=by simp[bne,q1]
    go_in;go_wp2_with fail;refine(q0c 8 0 false rfl rfl _).mono ?_;rintro e w2⟨rfl,rfl⟩;go_wp2_with fail;refine(q0e 8 false rfl _).mono ?_;rintro e w2⟨rfl,rfl⟩;go_wp2;go_ret;exact⟨by rw[HE.out];rfl,hb _⟩
   ·have HE:Hid (q0l ⟨8,tx,n⟩=0):=k5u h0 h1;subst h0;have e0:=q3v h1;subst e0;go_in;go_wp2_with fail;refine(q0c 8 0 false rfl rfl _).mono ?_;rintro e w2⟨rfl,rfl⟩;go_wp2_with fail;refine(q0e 8 false rfl _).mono ?_;rintro e w2⟨rfl,rfl⟩;go_wp2_with fail;refine(q0e 8 false rfl _).mono ?_;rintro e w2⟨rfl,rfl⟩;go_wp2;go_ret;exact⟨by rw[HE.out];rfl,hb _⟩
  ·have HE:Hid (q0l ⟨8,tx,n⟩=2):=k5s h0;have q3:(n==0)=false:=by simp[h0]
   have q4:(n != 0)=true:=by simp[h0]
   go_in;go_wp2_with fail;refine(q0c 8 0 false rfl rfl _).mono ?_;rintro e w2⟨rfl,rfl⟩;go_wp2;go_ret;exact⟨by rw[HE.out];rfl,hb _⟩
 ·by_cases h0:n=0
  ·have HE:Hid (q0l ⟨9,tx,n⟩=q1s tx):=by
    show _=_;by_cases h:q1s tx=0
    ·rw[k5w h0 h,h]
    ·exact k5x h0 h
   subst h0;go_in;go_wp2_with fail;refine(q0c 9 0 false rfl rfl _).mono ?_;rintro e w2⟨rfl,rfl⟩;go_wp2_with fail;refine(k1i tx _ hs).mono ?_;rintro e w2⟨A,ws,c,rfl,hW,hE,b2⟩;have B2:Below w.heap.size w w2:=z3n (Below.refl _ _) (Nat.le_refl _) b2;clear b2;go_wp2_with fail;refine(q3z ws A c _ hW).mono ?_;rintro e w3⟨rfl,rfl⟩;rw[hE,<-HE.out];go_wp2;go_ret;exact⟨rfl,B2⟩
  ·have HE:Hid (q0l ⟨9,tx,n⟩=2):=k5v h0;have q3:(n==0)=false:=by simp[h0]
   have q4:(n != 0)=true:=by simp[h0]
   go_in;go_wp2_with fail;refine(q0c 9 0 false rfl rfl _).mono ?_;rintro e w2⟨rfl,rfl⟩;go_wp2;go_ret;exact⟨by rw[HE.out];rfl,hb _⟩
end Go.Proofs.YthjapabokcajhaaGreatDoor
namespace Go.Proofs.YthjapabokcajhaaGreatDoor
open Go Go.RowKit
def j4g(ds:List Td):Prop:=∀x∈ds,x.tx.size<=1000000000000
end Go.Proofs.YthjapabokcajhaaGreatDoor
