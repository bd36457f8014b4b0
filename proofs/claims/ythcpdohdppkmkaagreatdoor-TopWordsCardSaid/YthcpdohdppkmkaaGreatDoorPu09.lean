import Derived.Test.YthcpdohdppkmkaaGreatDoorPu08
open Go.Proofs.Tryz
namespace Go.Proofs.YthcpdohdppkmkaaGreatDoor
open Go Go.RowKit
theorem g1p{op:Int}{tx:ByteArray}{n:Int}(_h0:op<1):q0r ⟨op,tx,n⟩=1:=by
 unfold q0r
 (repeat' split)<;>first|rfl|(exfalso;omega)|(exfalso;simp_all;done)|(exfalso;simp_all<;>omega)|(simp_all;done)
theorem g1q{op:Int}{tx:ByteArray}{n:Int}(_h0:¬op<1)(_h1:9<op):q0r ⟨op,tx,n⟩=1:=by
 unfold q0r
 (repeat' split)<;>first|rfl|(exfalso;omega)|(exfalso;simp_all;done)|(exfalso;simp_all<;>omega)|(simp_all;done)
theorem g1r{tx:ByteArray}{n:Int}(_h0:n<0):q0r ⟨1,tx,n⟩=1:=by
 have ht:q2q 1=false:=rfl;unfold q0r
 (repeat' split)<;>first|rfl|(exfalso;omega)|(exfalso;simp_all;done)|(exfalso;simp_all<;>omega)|(simp_all;done)
theorem g1s{tx:ByteArray}{n:Int}(_h0:¬n<0)(_h1:999999<n):q0r ⟨1,tx,n⟩=1:=by
 have ht:q2q 1=false:=rfl;unfold q0r
 (repeat' split)<;>first|rfl|(exfalso;omega)|(exfalso;simp_all;done)|(exfalso;simp_all<;>omega)|(simp_all;done)
theorem g1t{tx:ByteArray}{n:Int}(_h0:¬n<0)(_h1:¬999999<n)(_h2:0<(tx.size:Int)):q0r ⟨1,tx,n⟩=2:=by
 have ht:q2q 1=false:=rfl;unfold q0r
 (repeat' split)<;>first|rfl|(exfalso;omega)|(exfalso;simp_all;done)|(exfalso;simp_all<;>omega)|(simp_all;done)
theorem g1u{tx:ByteArray}{n:Int}(_h0:¬n<0)(_h1:¬999999<n)(_h2:¬0<(tx.size:Int)):q0r ⟨1,tx,n⟩=0:=by
 have ht:q2q 1=false:=rfl;unfold q0r
 (repeat' split)<;>first|rfl|(exfalso;omega)|(exfalso;simp_all;done)|(exfalso;simp_all<;>omega)|(simp_all;done)
theorem g1v{tx:ByteArray}{n:Int}(_h0:¬n=0):q0r ⟨2,tx,n⟩=2:=by
 have ht:q2q 2=true:=rfl;unfold q0r
 (repeat' split)<;>first|rfl|(exfalso;omega)|(exfalso;simp_all;done)|(exfalso;simp_all<;>omega)|(simp_all;done)
theorem g1w{tx:ByteArray}{n:Int}(_h0:n=0)(_h1:q0z tx=true):q0r ⟨2,tx,n⟩=0:=by
 have ht:q2q 2=true:=rfl;unfold q0r
 (repeat' split)<;>first|rfl|(exfalso;omega)|(exfalso;simp_all;done)|(exfalso;simp_all<;>omega)|(simp_all;done)
theorem g1x{tx:ByteArray}{n:Int}(_h0:n=0)(_h1:q0z tx=false):q0r ⟨2,tx,n⟩=5:=by
 have ht:q2q 2=true:=rfl;unfold q0r
 (repeat' split)<;>first|rfl|(exfalso;omega)|(exfalso;simp_all;done)|(exfalso;simp_all<;>omega)|(simp_all;done)
theorem g1y{tx:ByteArray}{n:Int}(_h0:n<0):q0r ⟨3,tx,n⟩=1:=by
 have ht:q2q 3=true:=rfl;unfold q0r
 (repeat' split)<;>first|rfl|(exfalso;omega)|(exfalso;simp_all;done)|(exfalso;simp_all<;>omega)|(simp_all;done)
theorem y6p{tx:ByteArray}{n:Int}(_h0:¬n<0)(_h1:6<n):q0r ⟨3,tx,n⟩=1:=by
 have ht:q2q 3=true:=rfl;unfold q0r
 (repeat' split)<;>first|rfl|(exfalso;omega)|(exfalso;simp_all;done)|(exfalso;simp_all<;>omega)|(simp_all;done)
theorem y6q{tx:ByteArray}{n:Int}(_h0:¬n<0)(_h1:¬6<n)(_h2:q0z tx=true):q0r ⟨3,tx,n⟩=0:=by
 have ht:q2q 3=true:=rfl;unfold q0r
 (repeat' split)<;>first|rfl|(exfalso;omega)|(exfalso;simp_all;done)|(exfalso;simp_all<;>omega)|(simp_all;done)
theorem y6r{tx:ByteArray}{n:Int}(_h0:¬n<0)(_h1:¬6<n)(_h2:q0z tx=false):q0r ⟨3,tx,n⟩=5:=by
 have ht:q2q 3=true:=rfl;unfold q0r
 (repeat' split)<;>first|rfl|(exfalso;omega)|(exfalso;simp_all;done)|(exfalso;simp_all<;>omega)|(simp_all;done)
theorem y6s{tx:ByteArray}{n:Int}(_h0:n<0):q0r ⟨4,tx,n⟩=1:=by
 have ht:q2q 4=false:=rfl;unfold q0r
 (repeat' split)<;>first|rfl|(exfalso;omega)|(exfalso;simp_all;done)|(exfalso;simp_all<;>omega)|(simp_all;done)
theorem y6t{tx:ByteArray}{n:Int}(_h0:¬n<0)(_h1:6<n):q0r ⟨4,tx,n⟩=1:=by
 have ht:q2q 4=false:=rfl;unfold q0r
 (repeat' split)<;>first|rfl|(exfalso;omega)|(exfalso;simp_all;done)|(exfalso;simp_all<;>omega)|(simp_all;done)
theorem y6u{tx:ByteArray}{n:Int}(_h0:¬n<0)(_h1:¬6<n)(_h2:0<(tx.size:Int)):q0r ⟨4,tx,n⟩=2:=by
 have ht:q2q 4=false:=rfl;unfold q0r
 (repeat' split)<;>first|rfl|(exfalso;omega)|(exfalso;simp_all;done)|(exfalso;simp_all<;>omega)|(simp_all;done)
theorem y6v{tx:ByteArray}{n:Int}(_h0:¬n<0)(_h1:¬6<n)(_h2:¬0<(tx.size:Int)):q0r ⟨4,tx,n⟩=0:=by
 have ht:q2q 4=false:=rfl;unfold q0r
 (repeat' split)<;>first|rfl|(exfalso;omega)|(exfalso;simp_all;done)|(exfalso;simp_all<;>omega)|(simp_all;done)
theorem y6w{tx:ByteArray}{n:Int}(_h0:¬n=0):q0r ⟨5,tx,n⟩=2:=by
 have ht:q2q 5=false:=rfl;unfold q0r
 (repeat' split)<;>first|rfl|(exfalso;omega)|(exfalso;simp_all;done)|(exfalso;simp_all<;>omega)|(simp_all;done)
theorem y6x{tx:ByteArray}{n:Int}(_h0:n=0)(_h1:0<(tx.size:Int)):q0r ⟨5,tx,n⟩=2:=by
 have ht:q2q 5=false:=rfl;unfold q0r
 (repeat' split)<;>first|rfl|(exfalso;omega)|(exfalso;simp_all;done)|(exfalso;simp_all<;>omega)|(simp_all;done)
theorem y6y{tx:ByteArray}{n:Int}(_h0:n=0)(_h1:¬0<(tx.size:Int)):q0r ⟨5,tx,n⟩=0:=by
 have ht:q2q 5=false:=rfl;unfold q0r
 (repeat' split)<;>first|rfl|(exfalso;omega)|(exfalso;simp_all;done)|(exfalso;simp_all<;>omega)|(simp_all;done)
theorem y6z{tx:ByteArray}{n:Int}(_h0:¬n=0):q0r ⟨6,tx,n⟩=2:=by
 have ht:q2q 6=false:=rfl;unfold q0r
 (repeat' split)<;>first|rfl|(exfalso;omega)|(exfalso;simp_all;done)|(exfalso;simp_all<;>omega)|(simp_all;done)
theorem y7a{tx:ByteArray}{n:Int}(_h0:n=0)(_h1:0<(tx.size:Int)):q0r ⟨6,tx,n⟩=2:=by
 have ht:q2q 6=false:=rfl;unfold q0r
 (repeat' split)<;>first|rfl|(exfalso;omega)|(exfalso;simp_all;done)|(exfalso;simp_all<;>omega)|(simp_all;done)
theorem y7b{tx:ByteArray}{n:Int}(_h0:n=0)(_h1:¬0<(tx.size:Int)):q0r ⟨6,tx,n⟩=0:=by
 have ht:q2q 6=false:=rfl;unfold q0r
 (repeat' split)<;>first|rfl|(exfalso;omega)|(exfalso;simp_all;done)|(exfalso;simp_all<;>omega)|(simp_all;done)
theorem y7c{tx:ByteArray}{n:Int}(_h0:¬n=0):q0r ⟨7,tx,n⟩=2:=by
 have ht:q2q 7=true:=rfl;unfold q0r
 (repeat' split)<;>first|rfl|(exfalso;omega)|(exfalso;simp_all;done)|(exfalso;simp_all<;>omega)|(simp_all;done)
theorem y7d{tx:ByteArray}{n:Int}(_h0:n=0)(_h1:q0z tx=true):q0r ⟨7,tx,n⟩=0:=by
 have ht:q2q 7=true:=rfl;unfold q0r
 (repeat' split)<;>first|rfl|(exfalso;omega)|(exfalso;simp_all;done)|(exfalso;simp_all<;>omega)|(simp_all;done)
theorem y7e{tx:ByteArray}{n:Int}(_h0:n=0)(_h1:q0z tx=false):q0r ⟨7,tx,n⟩=5:=by
 have ht:q2q 7=true:=rfl;unfold q0r
 (repeat' split)<;>first|rfl|(exfalso;omega)|(exfalso;simp_all;done)|(exfalso;simp_all<;>omega)|(simp_all;done)
theorem y7f{tx:ByteArray}{n:Int}(_h0:¬n=0):q0r ⟨8,tx,n⟩=2:=by
 have ht:q2q 8=false:=rfl;unfold q0r
 (repeat' split)<;>first|rfl|(exfalso;omega)|(exfalso;simp_all;done)|(exfalso;simp_all<;>omega)|(simp_all;done)
theorem y7g{tx:ByteArray}{n:Int}(_h0:n=0)(_h1:0<(tx.size:Int)):q0r ⟨8,tx,n⟩=2:=by
 have ht:q2q 8=false:=rfl;unfold q0r
 (repeat' split)<;>first|rfl|(exfalso;omega)|(exfalso;simp_all;done)|(exfalso;simp_all<;>omega)|(simp_all;done)
theorem y7h{tx:ByteArray}{n:Int}(_h0:n=0)(_h1:¬0<(tx.size:Int)):q0r ⟨8,tx,n⟩=0:=by
 have ht:q2q 8=false:=rfl;unfold q0r
 (repeat' split)<;>first|rfl|(exfalso;omega)|(exfalso;simp_all;done)|(exfalso;simp_all<;>omega)|(simp_all;done)
theorem y7i{tx:ByteArray}{n:Int}(_h0:¬n=0):q0r ⟨9,tx,n⟩=2:=by
 have ht:q2q 9=true:=rfl;unfold q0r
 (repeat' split)<;>first|rfl|(exfalso;omega)|(exfalso;simp_all;done)|(exfalso;simp_all<;>omega)|(simp_all;done)
theorem y7j{tx:ByteArray}{n:Int}(_h0:n=0)(_h1:q3m tx=0):q0r ⟨9,tx,n⟩=0:=by
 have ht:q2q 9=true:=rfl;unfold q0r
 (repeat' split)<;>first|rfl|(exfalso;omega)|(exfalso;simp_all;done)|(exfalso;simp_all<;>omega)|(simp_all;done)
theorem y7k{tx:ByteArray}{n:Int}(_h0:n=0)(_h1:¬q3m tx=0):q0r ⟨9,tx,n⟩=q3m tx:=by
 have ht:q2q 9=true:=rfl;unfold q0r
 (repeat' split)<;>first|rfl|(exfalso;omega)|(exfalso;simp_all;done)|(exfalso;simp_all<;>omega)|(simp_all;done)
theorem j4l{ds:List Td}(h:40<ds.length):q0d ds=3:=by rw[q0d,if_pos h]
theorem j4m{ds:List Td}{k:Nat}(hl:ds.length<=40)(hk:k<ds.length)(ha:∀x∈ds.take k,q0r x=0)(h:q0r ds[k]≠0):q0d ds=q0r ds[k]:=by
 have e:=j8o ds k hk ha h;rw[q0d,if_neg (by omega),if_pos (by rw[e];exact h),e]
theorem v3c{ds:List Td}(hl:ds.length<=40)(ha:∀x∈ds,q0r x=0):q0d ds=if z3l ds 0 1=some ds.length/\v3b ds=true then 0 else 2:=by
 rw[q0d,if_neg (by omega),if_neg (by rw[k9z ds ha];simp)]
theorem j4a{ds:List Td}{k:Nat}(h:k<ds.length)(ha:∀x∈ds.take k,q0r x=0)(h0:q0r ds[k]=0):∀x∈ds.take (k+1),q0r x=0:=by
 intro x hx;rw[List.take_succ_eq_append_getElem h]at hx;rcases List.mem_append.1 hx with hx|hx
 ·exact ha x hx
 ·simp at hx;subst hx;exact h0
set_option maxRecDepth 100000
set_option maxHeartbeats 8000000
theorem q3x(s:ByteArray)(w:World):Calls prog 161 #[.string s] w fun e w'=>e=.returned (.bool (q0z s))/\w=w':=by
 by_cases h1:(s.size:Int)<1
 ·have HE:Hid (q0z s=false):=k6p (by omega);go_in;go_wp2;go_ret;exact⟨by rw[HE.o];rfl,rfl⟩
 by_cases h2:8<(s.size:Int)
 ·have HE:Hid (q0z s=false):=j3e (by omega);go_in;go_wp2;go_ret;exact⟨by rw[HE.o];rfl,rfl⟩
 by_cases h3:s=⟨#[108,101,116]⟩
 ·subst h3;go_in;go_wp2;go_ret;exact⟨by rfl,rfl⟩
 have HL:Hid (¬s=⟨#[108,101,116]⟩):=h3
 have hnb:¬s.toList=[108,101,116]:=by
  rw[ByteArray.toList_eq];intro e;exact h3 (y1x.1 e)
 have hnc:(s.toList==[108,101,116])=false:=beq_false_of_ne hnb;clear h3;go_in;go_wp2_with fail
 go_loopw [18] (fun i wr=>wr=w/\∃k:Nat,k<=s.size/\i=.int .i64 k/\∀j(h:j<s.size),j<k->q3w s[j]=true) (fun i _=>s.size-(intOf i).toNat)
 case atStart=>exact⟨rfl,0,Nat.zero_le _,rfl,fun j _ hj=>by omega⟩
 case round=>
  obtain⟨rfl,k,hk,rfl,hall⟩:=hrel;have HA:Hid (∀j(h:j<s.size),j<k->q3w s[j]=true):=hall;clear hall;by_cases hlt:k<s.size
  ·cases hb:q3w s[k]with
   | false=>
    have HE:Hid (q0z s=false):=v0l hlt hb;by_cases hc:(s[k].toNat:Int)<97
    ·clear hb;go_wp2;go_ret;exact⟨by rw[HE.o];rfl,rfl⟩
    ·have hd:(122:Int)<(s[k].toNat:Int):=by
      simp[q3w]at hb;omega
     clear hb;go_wp2;go_ret;exact⟨by rw[HE.o];rfl,rfl⟩
   | true=>
    have HA':Hid (∀j(h:j<s.size),j<k+1->q3w s[j]=true):=fun j h hj=>by
     by_cases hjk:j=k
     ·subst hjk;exact hb
     ·exact HA.o j h (by omega)
    have hc:¬(s[k].toNat:Int)<97/\¬(122:Int)<(s[k].toNat:Int):=by
     simp[q3w]at hb;omega
    obtain⟨hc,hd⟩:=hc;clear hb;go_wp2
    go_roundw
    case rel=>exact⟨by trivial,k+1,by omega,by go_num,HA'.o⟩
    case measure=>simp[intOf];omega
  ·have HE:Hid (q0z s=true):=v0k (by omega) (by omega) HL.o fun j h=>HA.o j h (by omega)
   go_wp2;go_ret;exact⟨by rw[HE.o];rfl,rfl⟩
def grM(op:Int):Int:=if op=1 then 999999 else if op=3\/op=4 then 6 else 0
def grH(op:Int):Bool:=decide (op=1\/op=3\/op=4)
theorem q0g(op M:Int)(H:Bool)(hM:grM op=M)(hH:grH op=H)(w:World):Calls prog 157 #[.int .i64 op] w fun e w'=>e=.returned (.tuple #[.int .i64 M,.bool H])/\w=w':=by
 subst hM hH;by_cases h1:op=1
 ·subst h1;go_in;go_wp2;go_ret2;exact⟨rfl,rfl⟩
 by_cases h3:op=3
 ·subst h3;go_in;go_wp2;go_ret2;exact⟨rfl,rfl⟩
 by_cases h4:op=4
 ·subst h4;go_in;go_wp2;go_ret2;exact⟨rfl,rfl⟩
 have HM:Hid (grM op=0):=by show grM op=0;simp[grM,h1,h3,h4]
 have HH:Hid (grH op=false):=by show grH op=false;simp[grH,h1,h3,h4]
 have g1:(op==1)=false:=by simp[h1]
 have g3:(op==3)=false:=by simp[h3]
 have g4:(op==4)=false:=by simp[h4]
 clear h1 h3 h4;go_in;go_wp2;go_ret2;exact⟨by rw[HM.o,HH.o];rfl,rfl⟩
def g4h(op:Int):Bool:=op==2||op==3||op==7
theorem q0i(op:Int)(H:Bool)(hH:g4h op=H)(w:World):Calls prog 160 #[.int .i64 op] w fun e w'=>e=.returned (.bool H)/\w=w':=by
 subst hH;by_cases h2:op=2
 ·subst h2;go_in;go_wp2;go_ret;exact⟨rfl,rfl⟩
 by_cases h3:op=3
 ·subst h3;go_in;go_wp2;go_ret;exact⟨rfl,rfl⟩
 by_cases h7:op=7
 ·subst h7;go_in;go_wp2;go_ret;exact⟨rfl,rfl⟩
 have HH:Hid (g4h op=false):=by show g4h op=false;simp[g4h,h2,h3,h7]
 have g1:(op==2)=false:=by simp[h2]
 have g3:(op==3)=false:=by simp[h3]
 have g4:(op==7)=false:=by simp[h7]
 clear h2 h3 h7;go_in;go_wp2;go_ret;exact⟨by rw[HH.o];rfl,rfl⟩
def exB(op:Int):Bool:=decide (1<=op)&&decide (op<=6)
theorem z1i(op:Int)(w:World):Calls prog 162 #[.int .i64 op] w fun e w'=>e=.returned (.bool (exB op))/\w=w':=by
 by_cases h1:1<=op
 ·by_cases h6:op<=6
  ·have HH:Hid (exB op=true):=by show exB op=true;simp[exB,h1,h6]
   go_in;go_wp2;go_ret;exact⟨by rw[HH.o];rfl,rfl⟩
  ·have HH:Hid (exB op=false):=by show exB op=false;simp[exB,h6]
   go_in;go_wp2;go_ret;exact⟨by rw[HH.o];rfl,rfl⟩
 ·have HH:Hid (exB op=false):=by show exB op=false;simp[exB,h1]
  go_in;go_wp2;go_ret;exact⟨by rw[HH.o];rfl,rfl⟩
theorem k4j(x:Td)(w:World)(hs:x.tx.size<=140737488351232):Calls prog 99 #[tdV x] w fun e w'=>e=.returned (q0s (q0r x))/\Below w w w':=by
 obtain⟨op,tx,n⟩:=x;have hs:tx.size<=140737488351232:=hs;have hb:∀O:Obj,Below w w (w.alloc O):=fun O=>(Below.refl _ w).alloc Zl O
 by_cases h0:op<1
 ·have HE:Hid (q0r ⟨op,tx,n⟩=1):=g1p h0;have hg1:grM op=0:=by unfold grM;rw[if_neg (by omega),if_neg (by omega)]
  have hg2:grH op=false:=decide_eq_false (by omega);go_in;go_wp2_with fail;refine(q0g op 0 false hg1 hg2 _).mono ?_;rintro e w2⟨rfl,rfl⟩;go_wp2;go_ret;exact⟨by rw[HE.o];rfl,hb _⟩
 by_cases h1:9<op
 ·have HE:Hid (q0r ⟨op,tx,n⟩=1):=g1q h0 h1;have hg1:grM op=0:=by unfold grM;rw[if_neg (by omega),if_neg (by omega)]
  have hg2:grH op=false:=decide_eq_false (by omega);go_in;go_wp2_with fail;refine(q0g op 0 false hg1 hg2 _).mono ?_;rintro e w2⟨rfl,rfl⟩;go_wp2;go_ret;exact⟨by rw[HE.o];rfl,hb _⟩
 have hop:op=1\/op=2\/op=3\/op=4\/op=5\/op=6\/op=7\/op=8\/op=9:=by omega
 clear h0 h1;rcases hop with rfl|rfl|rfl|rfl|rfl|rfl|rfl|rfl|rfl
 ·by_cases h0:n<0
  ·have HE:Hid (q0r ⟨1,tx,n⟩=1):=g1r h0;go_in;go_wp2_with fail;refine(q0g 1 999999 true rfl rfl _).mono ?_;rintro e w2⟨rfl,rfl⟩;go_wp2;go_ret;exact⟨by rw[HE.o];rfl,hb _⟩
  ·by_cases h1:999999<n
   ·have HE:Hid (q0r ⟨1,tx,n⟩=1):=g1s h0 h1;go_in;go_wp2_with fail;refine(q0g 1 999999 true rfl rfl _).mono ?_;rintro e w2⟨rfl,rfl⟩;go_wp2;go_ret;exact⟨by rw[HE.o];rfl,hb _⟩
   ·by_cases h2:0<(tx.size:Int)
    ·have HE:Hid (q0r ⟨1,tx,n⟩=2):=g1t h0 h1 h2;have q1:=q8u h2;have q2:(tx.toList != [])=true:=by simp[bne,q1]
     go_in;go_wp2_with fail;refine(q0g 1 999999 true rfl rfl _).mono ?_;rintro e w2⟨rfl,rfl⟩;go_wp2_with fail;refine(q0i 1 false rfl _).mono ?_;rintro e w2⟨rfl,rfl⟩;go_wp2;go_ret;exact⟨by rw[HE.o];rfl,hb _⟩
    ·have HE:Hid (q0r ⟨1,tx,n⟩=0):=g1u h0 h1 h2;have e0:=q6d h2;subst e0;go_in;go_wp2_with fail;refine(q0g 1 999999 true rfl rfl _).mono ?_;rintro e w2⟨rfl,rfl⟩;go_wp2_with fail;refine(q0i 1 false rfl _).mono ?_;rintro e w2⟨rfl,rfl⟩;go_wp2_with fail;refine(q0i 1 false rfl _).mono ?_;rintro e w2⟨rfl,rfl⟩;go_wp2;go_ret;exact⟨by rw[HE.o];rfl,hb _⟩
 ·by_cases h0:n=0
  ·cases h1:q0z tx with
   | true=>
    have HE:Hid (q0r ⟨2,tx,n⟩=0):=g1w h0 h1;subst h0;have HM:Hid (q0z tx=true):=h1;clear h1;go_in;go_wp2_with fail;refine(q0g 2 0 false rfl rfl _).mono ?_;rintro e w2⟨rfl,rfl⟩;go_wp2_with fail;refine(q0i 2 true rfl _).mono ?_;rintro e w2⟨rfl,rfl⟩;go_wp2_with fail;refine(q0i 2 true rfl _).mono ?_;rintro e w2⟨rfl,rfl⟩;go_wp2_with fail;refine(q3x tx _).mono ?_;rintro e w2⟨rfl,rfl⟩;rw[HM.o];go_wp2;go_ret;exact⟨by rw[HE.o];rfl,hb _⟩
   | false=>
    have HE:Hid (q0r ⟨2,tx,n⟩=5):=g1x h0 h1;subst h0;have HM:Hid (q0z tx=false):=h1;clear h1;go_in;go_wp2_with fail;refine(q0g 2 0 false rfl rfl _).mono ?_;rintro e w2⟨rfl,rfl⟩;go_wp2_with fail;refine(q0i 2 true rfl _).mono ?_;rintro e w2⟨rfl,rfl⟩;go_wp2_with fail;refine(q0i 2 true rfl _).mono ?_;rintro e w2⟨rfl,rfl⟩;go_wp2_with fail;refine(q3x tx _).mono ?_;rintro e w2⟨rfl,rfl⟩;rw[HM.o];go_wp2;go_ret;exact⟨by rw[HE.o];rfl,hb _⟩
  ·have HE:Hid (q0r ⟨2,tx,n⟩=2):=g1v h0;have q3:(n==0)=false:=by simp[h0]
   have q4:(n != 0)=true:=by simp[h0]
   go_in;go_wp2_with fail;refine(q0g 2 0 false rfl rfl _).mono ?_;rintro e w2⟨rfl,rfl⟩;go_wp2;go_ret;exact⟨by rw[HE.o];rfl,hb _⟩
 ·by_cases h0:n<0
  ·have HE:Hid (q0r ⟨3,tx,n⟩=1):=g1y h0;go_in;go_wp2_with fail;refine(q0g 3 6 true rfl rfl _).mono ?_;rintro e w2⟨rfl,rfl⟩;go_wp2;go_ret;exact⟨by rw[HE.o];rfl,hb _⟩
  ·by_cases h1:6<n
   ·have HE:Hid (q0r ⟨3,tx,n⟩=1):=y6p h0 h1;go_in;go_wp2_with fail;refine(q0g 3 6 true rfl rfl _).mono ?_;rintro e w2⟨rfl,rfl⟩;go_wp2;go_ret;exact⟨by rw[HE.o];rfl,hb _⟩
   ·cases h2:q0z tx with
    | true=>
     have HE:Hid (q0r ⟨3,tx,n⟩=0):=y6q h0 h1 h2;have HM:Hid (q0z tx=true):=h2;clear h2;go_in;go_wp2_with fail;refine(q0g 3 6 true rfl rfl _).mono ?_;rintro e w2⟨rfl,rfl⟩;go_wp2_with fail;refine(q0i 3 true rfl _).mono ?_;rintro e w2⟨rfl,rfl⟩;go_wp2_with fail;refine(q0i 3 true rfl _).mono ?_;rintro e w2⟨rfl,rfl⟩;go_wp2_with fail;refine(q3x tx _).mono ?_;rintro e w2⟨rfl,rfl⟩;rw[HM.o];go_wp2;go_ret;exact⟨by rw[HE.o];rfl,hb _⟩
    | false=>
     have HE:Hid (q0r ⟨3,tx,n⟩=5):=y6r h0 h1 h2;have HM:Hid (q0z tx=false):=h2;clear h2;go_in;go_wp2_with fail;refine(q0g 3 6 true rfl rfl _).mono ?_;rintro e w2⟨rfl,rfl⟩;go_wp2_with fail;refine(q0i 3 true rfl _).mono ?_;rintro e w2⟨rfl,rfl⟩;go_wp2_with fail;refine(q0i 3 true rfl _).mono ?_;rintro e w2⟨rfl,rfl⟩;go_wp2_with fail;refine(q3x tx _).mono ?_;rintro e w2⟨rfl,rfl⟩;rw[HM.o];go_wp2;go_ret;exact⟨by rw[HE.o];rfl,hb _⟩
 ·by_cases h0:n<0
  ·have HE:Hid (q0r ⟨4,tx,n⟩=1):=y6s h0;go_in;go_wp2_with fail;refine(q0g 4 6 true rfl rfl _).mono ?_;rintro e w2⟨rfl,rfl⟩;go_wp2;go_ret;exact⟨by rw[HE.o];rfl,hb _⟩
  ·by_cases h1:6<n
   ·have HE:Hid (q0r ⟨4,tx,n⟩=1):=y6t h0 h1;go_in;go_wp2_with fail;refine(q0g 4 6 true rfl rfl _).mono ?_;rintro e w2⟨rfl,rfl⟩;go_wp2;go_ret;exact⟨by rw[HE.o];rfl,hb _⟩
   ·by_cases h2:0<(tx.size:Int)
    ·have HE:Hid (q0r ⟨4,tx,n⟩=2):=y6u h0 h1 h2;have q1:=q8u h2;have q2:(tx.toList != [])=true:=by simp[bne,q1]
     go_in;go_wp2_with fail;refine(q0g 4 6 true rfl rfl _).mono ?_;rintro e w2⟨rfl,rfl⟩;go_wp2_with fail;refine(q0i 4 false rfl _).mono ?_;rintro e w2⟨rfl,rfl⟩;go_wp2;go_ret;exact⟨by rw[HE.o];rfl,hb _⟩
    ·have HE:Hid (q0r ⟨4,tx,n⟩=0):=y6v h0 h1 h2;have e0:=q6d h2;subst e0;go_in;go_wp2_with fail;refine(q0g 4 6 true rfl rfl _).mono ?_;rintro e w2⟨rfl,rfl⟩;go_wp2_with fail;refine(q0i 4 false rfl _).mono ?_;rintro e w2⟨rfl,rfl⟩;go_wp2_with fail;refine(q0i 4 false rfl _).mono ?_;rintro e w2⟨rfl,rfl⟩;go_wp2;go_ret;exact⟨by rw[HE.o];rfl,hb _⟩
 ·by_cases h0:n=0
  ·by_cases h1:0<(tx.size:Int)
   ·have HE:Hid (q0r ⟨5,tx,n⟩=2):=y6x h0 h1;subst h0;have q1:=q8u h1;have q2:(tx.toList != [])=true:=by simp[bne,q1]
    go_in;go_wp2_with fail;refine(q0g 5 0 false rfl rfl _).mono ?_;rintro e w2⟨rfl,rfl⟩;go_wp2_with fail;refine(q0i 5 false rfl _).mono ?_;rintro e w2⟨rfl,rfl⟩;go_wp2;go_ret;exact⟨by rw[HE.o];rfl,hb _⟩
   ·have HE:Hid (q0r ⟨5,tx,n⟩=0):=y6y h0 h1;subst h0;have e0:=q6d h1;subst e0;go_in;go_wp2_with fail;refine(q0g 5 0 false rfl rfl _).mono ?_;rintro e w2⟨rfl,rfl⟩;go_wp2_with fail;refine(q0i 5 false rfl _).mono ?_;rintro e w2⟨rfl,rfl⟩;go_wp2_with fail;refine(q0i 5 false rfl _).mono ?_;rintro e w2⟨rfl,rfl⟩;go_wp2;go_ret;exact⟨by rw[HE.o];rfl,hb _⟩
  ·have HE:Hid (q0r ⟨5,tx,n⟩=2):=y6w h0;have q3:(n==0)=false:=by simp[h0]
   have q4:(n != 0)=true:=by simp[h0]
   go_in;go_wp2_with fail;refine(q0g 5 0 false rfl rfl _).mono ?_;rintro e w2⟨rfl,rfl⟩;go_wp2;go_ret;exact⟨by rw[HE.o];rfl,hb _⟩
 ·by_cases h0:n=0
  ·by_cases h1:0<(tx.size:Int)
   ·have HE:Hid (q0r ⟨6,tx,n⟩=2):=y7a h0 h1;subst h0;have q1:=q8u h1;have q2:(tx.toList != [])=true:=by simp[bne,q1]
    go_in;go_wp2_with fail;refine(q0g 6 0 false rfl rfl _).mono ?_;rintro e w2⟨rfl,rfl⟩;go_wp2_with fail;refine(q0i 6 false rfl _).mono ?_;rintro e w2⟨rfl,rfl⟩;go_wp2;go_ret;exact⟨by rw[HE.o];rfl,hb _⟩
   ·have HE:Hid (q0r ⟨6,tx,n⟩=0):=y7b h0 h1;subst h0;have e0:=q6d h1;subst e0;go_in;go_wp2_with fail;refine(q0g 6 0 false rfl rfl _).mono ?_;rintro e w2⟨rfl,rfl⟩;go_wp2_with fail;refine(q0i 6 false rfl _).mono ?_;rintro e w2⟨rfl,rfl⟩;go_wp2_with fail;refine(q0i 6 false rfl _).mono ?_;rintro e w2⟨rfl,rfl⟩;go_wp2;go_ret;exact⟨by rw[HE.o];rfl,hb _⟩
  ·have HE:Hid (q0r ⟨6,tx,n⟩=2):=y6z h0;have q3:(n==0)=false:=by simp[h0]
   have q4:(n != 0)=true:=by simp[h0]
   go_in;go_wp2_with fail;refine(q0g 6 0 false rfl rfl _).mono ?_;rintro e w2⟨rfl,rfl⟩;go_wp2;go_ret;exact⟨by rw[HE.o];rfl,hb _⟩
 ·by_cases h0:n=0
  ·cases h1:q0z tx with
   | true=>
    have HE:Hid (q0r ⟨7,tx,n⟩=0):=y7d h0 h1;subst h0;have HM:Hid (q0z tx=true):=h1;clear h1;go_in;go_wp2_with fail;refine(q0g 7 0 false rfl rfl _).mono ?_;rintro e w2⟨rfl,rfl⟩;go_wp2_with fail;refine(q0i 7 true rfl _).mono ?_;rintro e w2⟨rfl,rfl⟩;go_wp2_with fail;refine(q0i 7 true rfl _).mono ?_;rintro e w2⟨rfl,rfl⟩;go_wp2_with fail;refine(q3x tx _).mono ?_;rintro e w2⟨rfl,rfl⟩;rw[HM.o];go_wp2;go_ret;exact⟨by rw[HE.o];rfl,hb _⟩
   | false=>
    have HE:Hid (q0r ⟨7,tx,n⟩=5):=y7e h0 h1;subst h0;have HM:Hid (q0z tx=false):=h1;clear h1;go_in;go_wp2_with fail;refine(q0g 7 0 false rfl rfl _).mono ?_;rintro e w2⟨rfl,rfl⟩;go_wp2_with fail;refine(q0i 7 true rfl _).mono ?_;rintro e w2⟨rfl,rfl⟩;go_wp2_with fail;refine(q0i 7 true rfl _).mono ?_;rintro e w2⟨rfl,rfl⟩;go_wp2_with fail;refine(q3x tx _).mono ?_;rintro e w2⟨rfl,rfl⟩;rw[HM.o];go_wp2;go_ret;exact⟨by rw[HE.o];rfl,hb _⟩
  ·have HE:Hid (q0r ⟨7,tx,n⟩=2):=y7c h0;have q3:(n==0)=false:=by simp[h0]
   have q4:(n != 0)=true:=by simp[h0]
   go_in;go_wp2_with fail;refine(q0g 7 0 false rfl rfl _).mono ?_;rintro e w2⟨rfl,rfl⟩;go_wp2;go_ret;exact⟨by rw[HE.o];rfl,hb _⟩
 ·by_cases h0:n=0
  ·by_cases h1:0<(tx.size:Int)
   ·have HE:Hid (q0r ⟨8,tx,n⟩=2):=y7g h0 h1;subst h0;have q1:=q8u h1;have q2:(tx.toList != [])=true:=by simp[bne,q1]
    go_in;go_wp2_with fail;refine(q0g 8 0 false rfl rfl _).mono ?_;rintro e w2⟨rfl,rfl⟩;go_wp2_with fail;refine(q0i 8 false rfl _).mono ?_;rintro e w2⟨rfl,rfl⟩;go_wp2;go_ret;exact⟨by rw[HE.o];rfl,hb _⟩
   ·have HE:Hid (q0r ⟨8,tx,n⟩=0):=y7h h0 h1;subst h0;have e0:=q6d h1;subst e0;go_in;go_wp2_with fail;refine(q0g 8 0 false rfl rfl _).mono ?_;rintro e w2⟨rfl,rfl⟩;go_wp2_with fail;refine(q0i 8 false rfl _).mono ?_;rintro e w2⟨rfl,rfl⟩;go_wp2_with fail;refine(q0i 8 false rfl _).mono ?_;rintro e w2⟨rfl,rfl⟩;go_wp2;go_ret;exact⟨by rw[HE.o];rfl,hb _⟩
  ·have HE:Hid (q0r ⟨8,tx,n⟩=2):=y7f h0;have q3:(n==0)=false:=by simp[h0]
   have q4:(n != 0)=true:=by simp[h0]
   go_in;go_wp2_with fail;refine(q0g 8 0 false rfl rfl _).mono ?_;rintro e w2⟨rfl,rfl⟩;go_wp2;go_ret;exact⟨by rw[HE.o];rfl,hb _⟩
 ·by_cases h0:n=0
  ·have HE:Hid (q0r ⟨9,tx,n⟩=q3m tx):=by
    show _=_;by_cases h:q3m tx=0
    ·rw[y7j h0 h,h]
    ·exact y7k h0 h
   subst h0;go_in;go_wp2_with fail;refine(q0g 9 0 false rfl rfl _).mono ?_;rintro e w2⟨rfl,rfl⟩;go_wp2_with fail;refine(j3z tx _ hs).mono ?_;rintro e w2⟨A,ws,c,rfl,hW,hE,b2⟩;have B2:Below w w w2:=q7o Zb Zl b2;clear b2;go_wp2_with fail;refine(q6i ws A c _ hW).mono ?_;rintro e w3⟨rfl,rfl⟩;rw[hE,<-HE.o];go_wp2;go_ret;exact⟨rfl,B2⟩
  ·have HE:Hid (q0r ⟨9,tx,n⟩=2):=y7i h0;have q3:(n==0)=false:=by simp[h0]
   have q4:(n != 0)=true:=by simp[h0]
   go_in;go_wp2_with fail;refine(q0g 9 0 false rfl rfl _).mono ?_;rintro e w2⟨rfl,rfl⟩;go_wp2;go_ret;exact⟨by rw[HE.o];rfl,hb _⟩
end Go.Proofs.YthcpdohdppkmkaaGreatDoor
