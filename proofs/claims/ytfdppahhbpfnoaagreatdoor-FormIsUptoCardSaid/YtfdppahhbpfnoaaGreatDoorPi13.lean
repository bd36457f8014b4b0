import Derived.Test.YtfdppahhbpfnoaaGreatDoorPi05
import Derived.Test.YtfdppahhbpfnoaaGreatDoorPi06
import Derived.Laws.Strings2
import Derived.Test.YtfdppahhbpfnoaaGreatDoorPi07
import Derived.Test.YtfdppahhbpfnoaaGreatDoorPi02
import Derived.Laws.AppendOwn
import Derived.Deep.DeepCutAuto
import Derived.BigQuiet
open Go.Proofs.Tryz
namespace Go.Proofs.YtfdppahhbpfnoaaGreatDoor
open Go Go.RowKit
theorem v3c{s:ByteArray}(h1:1<=s.size)(h2:s.size<=20)(h:∀k(h:k<s.size),q6a s[k]=true):isW s=true:=by
 simp only[isW,h1,h2,decide_true,Bool.true_and,List.all_eq_true];intro b A;obtain⟨i,B,rfl⟩:=List.getElem_of_mem A;exact h i (by rw[<-q0x];exact B)
theorem y0h{s:ByteArray}{k:Nat}(h:k<s.size)(hb:q6a s[k]=false):isW s=false:=by
 cases e:isW s with
 | false=>rfl
 | true=>
  simp only[isW,Bool.and_eq_true,List.all_eq_true]at e
  have:=e.2 s[k] (by
   have:k<s.data.toList.length:=by rw[q0x];exact h
   exact List.getElem_mem this)
  rw[hb]at this;cases this
theorem k5j{b:UInt8}(h:q6a b=false):(b.toNat:Int)<32\/(¬(b.toNat:Int)<32/\126<(b.toNat:Int)):=by
 simp[q6a]at h;omega
theorem j1g{b:UInt8}(h:q6a b=true):¬(b.toNat:Int)<32/\¬126<(b.toNat:Int):=by
 simp[q6a]at h;omega
theorem j9a{s:ByteArray}(h:s.size≠0):¬s.toList=[]:=by
 rw[ByteArray.toList_eq];intro e
 have:=q0x s
 rw[e]at this;exact h this.symm
theorem y9g{op:Int}(h1:¬op<1)(h2:¬9<op):op=1\/op=2\/op=3\/op=4\/op=5\/op=6\/op=7\/op=8\/op=9:=by omega
theorem j3n{ds:List Nd}(h:400<ds.length):q3f ds=3:=by rw[q3f,if_pos h]
theorem j3o{ds:List Nd}{k:Nat}(hl:ds.length<=400)(hk:k<ds.length)(ha:∀x∈ds.take k,q1a x=0)(h:q1a ds[k]≠0):q3f ds=q1a ds[k]:=by
 have e:=k0t ds k hk ha h;rw[q3f,if_neg (by omega),if_neg (by rw[e];exact h),e]
theorem v2e{ds:List Nd}(hl:ds.length<=400)(ha:∀x∈ds,q1a x=0):q3f ds=if q0n ds 0 1=some ds.length then 0 else 2:=by
 rw[q3f,if_neg (by omega),if_pos (z1r ds ha)]
theorem v5o{ds:List Nd}{k:Nat}(h:¬k<ds.length)(ha:∀x∈ds.take k,q1a x=0):∀x∈ds,q1a x=0:=by
 rw[List.take_of_length_le (by omega)]at ha;exact ha
theorem j9p{ds:List Nd}{k:Nat}(h:k<ds.length)(ha:∀x∈ds.take k,q1a x=0)(h0:q1a ds[k]=0):∀x∈ds.take (k+1),q1a x=0:=by
 intro x A;rw[List.take_succ_eq_append_getElem h]at A;rcases List.mem_append.1 A with A|A
 ·exact ha x A
 ·simp at A;subst A;exact h0
def v6y(o:Option Nat):Int:=match o with|some j=>j|none=>-1
theorem q0s{ds:List Nd}{i:Nat}{x:Nd}{r:List Nd}(h:ds.drop i=x::r):∃hi:i<ds.length,ds[i]=x/\ds.drop (i+1)=r:=by
 have hi:i<ds.length:=by
  rcases Nat.lt_or_ge i ds.length with A|A
  ·exact A
  ·rw[List.drop_eq_nil_of_le A]at h;cases h
 rw[List.drop_eq_getElem_cons hi]at h;simp only[List.cons.injEq]at h;exact⟨hi,h.1,h.2⟩
theorem q7w{ds A r:List Nd}{i:Nat}(h:ds.drop i=A++r):ds.drop (i+A.length)=r:=by
 rw[<-List.drop_drop,h,List.drop_left]
set_option maxRecDepth 100000
set_option maxHeartbeats 4000000
theorem k8y(op:Int)(w:World):Calls prog 142 #[.int .i64 op] w fun e w'=>e=.returned (.int .i64 (pts op))/\w=w':=by
 by_cases A:op=6
 ·subst A;go_in;go_wp2;go_ret;exact⟨rfl,rfl⟩
 by_cases D:op=9
 ·subst D;go_in;go_wp2;go_ret;exact⟨rfl,rfl⟩
 by_cases B:op=7
 ·subst B;go_in;go_wp2;go_ret;exact⟨rfl,rfl⟩
 by_cases C:op=8
 ·subst C;go_in;go_wp2;go_ret;exact⟨rfl,rfl⟩
 have e:pts op=0:=by simp[pts,A,B,C,D]
 rw[e];have E:(op==6)=false:=by simp[A]
 have G:(op==7)=false:=by simp[B]
 have H:(op==8)=false:=by simp[C]
 have I:(op==9)=false:=by simp[D]
 clear e A B C D;go_in;go_wp2;go_ret;exact⟨rfl,rfl⟩
theorem z6i(s:ByteArray)(w:World):Calls prog 141 #[.string s] w fun e w'=>e=.returned (.bool (isW s))/\w=w':=by
 by_cases L:(s.size:Int)<1
 ·have e:isW s=false:=by simp[isW];omega
  rw[e];clear e;go_in;go_wp2;go_ret;exact⟨rfl,rfl⟩
 by_cases M:20<(s.size:Int)
 ·have e:isW s=false:=by simp[isW];omega
  rw[e];clear e;go_in;go_wp2;go_ret;exact⟨rfl,rfl⟩
 go_in;go_wp2
 go_loopw [14] (fun i wr=>wr=w/\∃k:Nat,k<=s.size/\i=.int .i64 k/\∀j(h:j<s.size),j<k->q6a s[j]=true) (fun i _=>s.size-(intOf i).toNat)
 case atStart=>exact⟨rfl,0,Nat.zero_le _,rfl,fun j _ K=>by omega⟩
 case round=>
  obtain⟨rfl,k,N,rfl,A⟩:=hrel;have H:Hid (∀j(h:j<s.size),j<k->q6a s[j]=true):=A;clear A;by_cases G:k<s.size
  ·cases B:q6a s[k]with
   | false=>
    have C:Hid (isW s=false):=y0h G B;have D:=k5j B;clear B;rcases D with D|⟨D,J⟩
    ·go_wp2;go_ret;exact⟨by rw[C.o];rfl,rfl⟩
    ·go_wp2;go_ret;exact⟨by rw[C.o];rfl,rfl⟩
   | true=>
    have I:Hid (q6a s[k]=true):=B;obtain⟨D,J⟩:=j1g B;clear B;go_wp2
    go_roundw
    case rel=>
     refine⟨by trivial,k+1,by omega,by go_num,?_⟩;intro j h K;by_cases E:j=k
     ·subst E;exact I.o
     ·exact H.o j h (by omega)
    case measure=>simp[intOf];omega
  ·have C:Hid (isW s=true):=v3c (by omega) (by omega) fun j h=>H.o j h (by omega)
   go_wp2;go_ret;exact⟨by rw[C.o];rfl,rfl⟩
theorem q9z(x:Nd)(w:World):Calls prog 87 #[y9e x] w fun e w'=>e=.returned (q1v (q1a x))/\Below w w w':=by
 obtain⟨G,C,n⟩:=x;by_cases D:G<1
 ·have e:q1a ⟨G,C,n⟩=1:=by simp[q1a,D]
  rw[e,z6f];clear e;go_in;go_wp2;go_ret;exact⟨rfl,Zb.alloc Zl _⟩
 by_cases E:9<G
 ·have e:q1a ⟨G,C,n⟩=1:=by simp[q1a,E]
  rw[e,z6f];clear e;go_in;go_wp2;go_ret;exact⟨rfl,Zb.alloc Zl _⟩
 rcases y9g D E with rfl|rfl|rfl|rfl|rfl|rfl|rfl|rfl|rfl
 case inl=>
  clear D E;by_cases B:n=0
  ·subst B;cases K:isW C with
   | false=>
    have e:q1a ⟨1,C,0⟩=5:=by simp[q1a,K]
    rw[e,v6z];clear e;go_in;go_wp2_with(go_at_call 141;refine(z6i _ _).mono ?_;rintro e w'⟨rfl,rfl⟩);go_ret;exact⟨rfl,Zb.alloc Zl _⟩
   | true=>
    have e:q1a ⟨1,C,0⟩=0:=by simp[q1a,K]
    rw[e,q1l];clear e;go_in;go_wp2_with(go_at_call 141;refine(z6i _ _).mono ?_;rintro e w'⟨rfl,rfl⟩);go_ret;exact⟨rfl,Zb.alloc Zl _⟩
  ·have e:q1a ⟨1,C,n⟩=2:=by simp[q1a,B]
   rw[e,k0r];have H:(n != 0)=true:=by simp[B]
   clear e B;go_in;go_wp2;go_ret;exact⟨rfl,Zb.alloc Zl _⟩
 case inr.inr.inr.inr.inr.inr.inl=>
  clear D E;by_cases A:C.size=0
  ·obtain rfl:=k2j A;by_cases B:n<0
   ·have e:q1a ⟨7,⟨#[]⟩,n⟩=1:=by simp[q1a,B,A]
    rw[e,z6f];clear e A;go_in;go_wp2;go_ret;exact⟨rfl,Zb.alloc Zl _⟩
   by_cases J:8<n
   ·have e:q1a ⟨7,⟨#[]⟩,n⟩=1:=by simp[q1a,J,A]
    rw[e,z6f];clear e A;go_in;go_wp2;go_ret;exact⟨rfl,Zb.alloc Zl _⟩
   have e:q1a ⟨7,⟨#[]⟩,n⟩=0:=by simp[q1a,B,J,A]
   rw[e,q1l];clear e A;go_in;go_wp2;go_ret;exact⟨rfl,Zb.alloc Zl _⟩
  ·have e:q1a ⟨7,C,n⟩=2:=by simp[q1a,A]
   rw[e,k0r];have I:=j9a A;clear e A;go_in;go_wp2;go_ret;exact⟨rfl,Zb.alloc Zl _⟩
 all_goals
  clear D E;by_cases A:C.size=0
  ·obtain rfl:=k2j A;by_cases B:n=0
   ·subst B;rw[show ∀k:Int,k=0->q1v k=.nilIface from fun k hk=>by rw[hk];rfl]
    ·clear A;go_in;go_wp2;go_ret;exact⟨rfl,Zb.alloc Zl _⟩
    ·simp[q1a,A]
   ·have H:(n != 0)=true:=by simp[B]
    rw[show ∀k:Int,k=2->q1v k=.iface 23 (.int .i64 2)from fun k hk=>by rw[hk];rfl]
    ·clear A B;go_in;go_wp2;go_ret;exact⟨rfl,Zb.alloc Zl _⟩
    ·simp[q1a,B]
  ·have I:=j9a A;rw[show ∀k:Int,k=2->q1v k=.iface 23 (.int .i64 2)from fun k hk=>by rw[hk];rfl]
   ·clear A;go_in;go_wp2;go_ret;exact⟨rfl,Zb.alloc Zl _⟩
   ·simp[q1a,A]
theorem v6w(d:Nat)(h:d<=9)(W:World):(Instr.slice 9 (.string ⟨#[48,49,50,51,52,53,54,55,56,57]⟩) (some (.int .i64 (d:Int))) (some (.int .i64 ((d:Int)+1))) none).run prog W=.ok (.string (wbS [UInt8.ofNat (48+d)])) W:=by
 rw[run_slice_string (P:=prog) (w:=W) 9 _ .i64 .i64 (d:Int) ((d:Int)+1) Tryz.underlying9 (by omega) (by omega) (by show(d:Int)+1<=10;omega)];have e:((d:Int)+1).toNat=d+1:=by omega
 rw[e,Int.toNat_natCast]
 match d,h with
 | 0,_=>rfl
 | 1,_=>rfl
 | 2,_=>rfl
 | 3,_=>rfl
 | 4,_=>rfl
 | 5,_=>rfl
 | 6,_=>rfl
 | 7,_=>rfl
 | 8,_=>rfl
 | 9,_=>rfl
theorem q1z(a b:List UInt8):wbS a++wbS b=wbS (a++b):=by
 apply ByteArray.ext;simp[wbS]
theorem k8x{n:Nat}(h:n<=9):q7t n=[UInt8.ofNat (48+n)]:=by rw[q7t,dif_pos h]
theorem v2c{n:Nat}(h:¬n<=9):q7t n=q7t (n / 10)++[UInt8.ofNat (48+n % 10)]:=by rw[q7t,dif_neg h]
theorem q2s(l:List UInt8):(wbS l).size=l.length:=by
 rw[<-q0c];rfl
theorem v4p(n:Nat)(hn:n<=999999)(w:World):Calls prog 58 #[.int .i64 (n:Int)] w fun e w'=>e=.returned (.string (wbS (q7t n)))/\w=w':=by
 have H:=z8b 5 n (by omega);go_in;go_wp2_with fail
 go_loopw [0,3] (fun x s wr=>wr=w/\∃(m:Nat)(t:List UInt8),x=.int .i64 (m:Int)/\s=.string (wbS t)/\m<=n/\q7t n=q7t m++t) (fun x _ _=>(intOf x).toNat)
 case atStart=>exact⟨rfl,n,[],rfl,rfl,Nat.le_refl _,by simp⟩
 case round=>
  obtain⟨rfl,m,t,rfl,rfl,P,I⟩:=hrel;have K:Hid (q7t n=q7t m++t):=I
  have C:(wbS t).size<=100:=by
   have:=congrArg List.length I
   rw[List.length_append]at this;rw[q2s];omega
  clear I H;by_cases E:m<=9
  ·have G:¬(9:Int)<(m:Int):=by omega
   have D:=v6w m E;have B:(wbS [UInt8.ofNat (48+m)]).size<=1:=by rw[q2s];exact Nat.le_refl _
   have A:Hid (wbS [UInt8.ofNat (48+m)]++wbS t=wbS (q7t n)):=by
    show _=_;rw[K.o,k8x E,q1z]
   generalize wbS [UInt8.ofNat (48+m)]=dg at D B A;generalize wbS t=ts at C A;go_wp2;go_ret;exact⟨by rw[<-A.o];rfl,rfl⟩
  ·have G:(9:Int)<(m:Int):=by omega
   have D:=v6w (m % 10) (by omega);have L:((m % 10:Nat):Int)=(m:Int) % 10:=by omega
   have M:((m / 10:Nat):Int)=(m:Int) / 10:=by omega
   rw[L]at D;have B:(wbS [UInt8.ofNat (48+m % 10)]).size<=1:=by rw[q2s];exact Nat.le_refl _
   have A:Hid (wbS [UInt8.ofNat (48+m % 10)]++wbS t=wbS ([UInt8.ofNat (48+m % 10)]++t)):=q1z _ _
   have N:Hid (q7t n=q7t (m / 10)++([UInt8.ofNat (48+m % 10)]++t)):=by
    show _=_;rw[K.o,v2c E,List.append_assoc]
   have O:Hid (((m / 10:Nat):Int)=(m:Int) / 10):=M;generalize wbS [UInt8.ofNat (48+m % 10)]=dg at D B A;generalize J:wbS t=ts at C A;clear L M J;go_wp2;exact⟨⟨by trivial,m / 10,_,by rw[O.o],by rw[A.o],by omega,N.o⟩,by simp[intOf];omega⟩
def y3j(p k:Int)(s:Bool):Bool:=(decide (p=6)&&decide (k=5))||(s&&(decide (p=5)||decide (p=6))&&decide (k=p))
theorem v9a(p x:Td)(s:Bool)(h:p.op=5\/p.op=6):y3j p.op x.op s=decide (prc x<(if p.op=5 then(if s then 1 else 0)else(if s then 2 else 1))):=by
 unfold y3j prc;rcases h with h|h<;>rw[h]<;>cases s<;>by_cases A:x.op=5<;>by_cases B:x.op=6<;>simp_all
theorem j0i(p x:Td)(s:Bool)(w:World):Calls prog 93 #[tdV p,tdV x,.bool s] w fun e w'=>e=.returned (.bool (y3j p.op x.op s))/\Below w w w':=by
 obtain⟨B,K,J⟩:=p;obtain⟨C,M,L⟩:=x;unfold tdV;simp only;go_in;have A:Hid (∀o1 o2:Obj,Below w w ((w.alloc o1).alloc o2)):=fun o1 o2=>(Zb.alloc Zl _).alloc (by rw[World.size_alloc];omega) _
 go_wp2
 all_goals go_ret
 all_goals refine⟨?_,?_⟩
 all_goals first|exact A.o _ _|(simp_all[y3j];done)|(by_cases D:C=5<;>by_cases E:C=6<;>by_cases H:B=5<;>by_cases I:B=6<;>by_cases G:C=B<;>simp_all[y3j])
theorem k6i(t:ByteArray)(k:Nat):t.extract 0 k=wbS ((btL t).take k):=by
 rw[q9s,List.drop_zero,Nat.sub_zero]
theorem k6h(t:ByteArray)(k:Nat):btL (t.extract k t.size)=(btL t).drop k:=Lib.extract_to_end t k
def q9g(lo hi:Nat)(c:UInt8):Bool:=decide (lo<=c.toNat)&&decide (c.toNat<=hi)
theorem z3q(w:World)(v:Value)(t:TypeId):(w.alloc (.cells #[v] t)).cell? ⟨w,0,none⟩=some v:=by
 have h:(w.alloc (.cells #[v] t)).heap[w.heap.size]?=some (.cells #[v] t):=by
  show(w.heap.push (.cells #[v] t))[w.heap.size]?=_
  simp
 simp only[World.cell?,Option.isSome_none,Bool.false_eq_true,if_false,h];rfl
theorem j2y{w:World}{o:Obj}{b k:Nat}(h:b<w.heap.size):(w.alloc o).cell? ⟨b,k,none⟩=w.cell? ⟨b,k,none⟩:=by
 simp[World.cell?,Below.heap_alloc w o b h]
structure q4m(w:World)(a b lo hi:Nat):Prop where
 la:a<w.heap.size
 lb:b<w.heap.size
 ca:w.cell? ⟨a,0,none⟩=some (.int .u8 (lo:Int))
 cb:w.cell? ⟨b,0,none⟩=some (.int .u8 (hi:Int))
theorem q4m.W{w w':World}{a b lo hi:Nat}(h:q4m w a b lo hi)(hb:Below w w w'):q4m w' a b lo hi:=
 {la:=Nat.lt_of_lt_of_le h.la hb.size,lb:=Nat.lt_of_lt_of_le h.lb hb.size,ca:=(hb.cell (p:=⟨a,0,none⟩) h.la).trans h.ca,cb:=(hb.cell (p:=⟨b,0,none⟩) h.lb).trans h.cb}
abbrev y3y(a b:Nat):Value:=.func (.func 169) #[] #[.pointer (some ⟨a,0,none⟩),.pointer (some ⟨b,0,none⟩)]
theorem q4q(lo hi:Nat)(w:World):Calls prog 120 #[.int .u8 (lo:Int),.int .u8 (hi:Int)] w fun e w'=>(∃a b,e=.returned (y3y a b)/\q4m w' a b lo hi)/\Below w w w':=by
 go_in;go_wp2;go_ret;refine⟨⟨w.heap.size,w.heap.size+1,rfl,?_⟩,?_⟩
 ·refine{la:=?_,lb:=?_,ca:=?_,cb:=?_}
  ·rw[World.size_alloc,World.size_alloc];omega
  ·rw[World.size_alloc,World.size_alloc];omega
  ·rw[j2y (by rw[World.size_alloc];omega)];exact z3q w _ _
  ·have h:=z3q (w.alloc (.cells #[.int .u8 (lo:Int)] 5)) (.int .u8 (hi:Int)) 5;rw[World.size_alloc]at h;exact h
 ·exact((Below.refl w.heap.size w).alloc Zl _).alloc (by rw[World.size_alloc];omega) _
theorem q3q(c:UInt8){a b lo hi:Nat}{w:World}(h:q4m w a b lo hi):Calls prog 169 #[.int .u8 (c.toNat:Int),.pointer (some ⟨a,0,none⟩),.pointer (some ⟨b,0,none⟩)] w fun e w'=>e=.returned (.bool (q9g lo hi c))/\w=w':=by
 obtain⟨_,_,B,C⟩:=h;by_cases D:(lo:Int)<=(c.toNat:Int)
 ·by_cases E:(c.toNat:Int)<=(hi:Int)
  ·have A:Hid (q9g lo hi c=true):=by show q9g lo hi c=true;simp[q9g];omega
   go_in;go_wp2;go_ret;exact⟨by rw[A.o];rfl,rfl⟩
  ·have A:Hid (q9g lo hi c=false):=by show q9g lo hi c=false;simp[q9g];omega
   go_in;go_wp2;go_ret;exact⟨by rw[A.o];rfl,rfl⟩
 ·have A:Hid (q9g lo hi c=false):=by show q9g lo hi c=false;simp[q9g];omega
  go_in;go_wp2;go_ret;exact⟨by rw[A.o];rfl,rfl⟩
theorem k5a(t:ByteArray){a b lo hi:Nat}{w:World}(h:q4m w a b lo hi)(hs:t.size<=60000):
  Calls prog 121 #[.string t,y3y a b] w fun e w'=>e=.returned (.string (wbS ((btL t).takeWhile (q9g lo hi))))/\w=w':=by
 have H:Hid (q4m w a b lo hi):=h;clear h;go_in;go_wp2_with fail
 go_loopw [5] (fun n wr=>wr=w/\∃k:Nat,n=.int .i64 (k:Int)/\k<=t.size/\k+twN (q9g lo hi) t k=twN (q9g lo hi) t 0) (fun n _=>t.size-(intOf n).toNat)
 case atStart=>exact⟨rfl,0,rfl,Nat.zero_le _,by omega⟩
 case round=>
  obtain⟨rfl,k,rfl,N,C⟩:=hrel;have I:Hid (k+twN (q9g lo hi) t k=twN (q9g lo hi) t 0):=C;clear C
  have B:twN (q9g lo hi) t k=0->t.extract 0 k=wbS ((btL t).takeWhile (q9g lo hi)):=fun e1=>by
   have K:=I.o
   have L:((btL t).takeWhile (q9g lo hi)).length=k:=by
    rw[twN,twN,List.drop_zero]at K;rw[twN]at e1;omega
   rw[k6i,<-L,z5d]
  by_cases A:k<t.size
  ·have G:(k:Int)<(t.size:Int):=by omega
   cases D:q9g lo hi t[k]with
   | true=>
    have J:Hid (k+1+twN (q9g lo hi) t (k+1)=twN (q9g lo hi) t 0):=by
     show _=_
     have:=z9r A D
     have:=I.o
     omega
    go_wp2_with fail;refine(q3q t[k] H.o).mono ?_;rintro e M⟨rfl,rfl⟩;rw[D];go_wp2
    go_roundw
    case rel=>exact⟨by trivial,k+1,by go_num,by omega,J.o⟩
    case measure=>simp[intOf];omega
   | false=>
    have E:=hid (B (k7z A D));go_wp2_with fail;refine(q3q t[k] H.o).mono ?_;rintro e M⟨rfl,rfl⟩;rw[D];go_wp2;go_ret;exact⟨by rw[E.o];rfl,rfl⟩
  ·have G:¬(k:Int)<(t.size:Int):=by omega
   have E:=hid (B (z9q A));go_wp2;go_ret;exact⟨by rw[E.o];rfl,rfl⟩
def y8c:Value->Nat
 | .string u=>u.size
 | _=>0
theorem j2i(w:World)(n:Nat):Below w w (w.drewN n):=(Below.refl w.heap.size w).trans ⟨rfl,rfl,rfl,Nat.le_refl _,fun _ _=>rfl⟩
theorem z6m(u:ByteArray)(h:0<u.size):btL u=btL (u.extract 0 (u.size-1))++[u[u.size-1]]:=by
 have D:u.size-1<(btL u).length:=by rw[q0c];omega
 have B:btL (u.extract 0 (u.size-1))=(btL u).take (u.size-1):=by rw[k6i];rfl
 have A:=List.take_succ_eq_append_getElem D;have C:u.size-1+1=(btL u).length:=by rw[q0c];omega
 rw[C,List.take_length]at A;rw[B];exact A
theorem j9x(t:ByteArray)(w:World)(hs:t.size<=60000):
  Calls prog 171 #[.string t,.int .u8 32] w fun e w'=>e=.returned (.string (wbS (q1k (btL t))))/\w=w':=by
 go_in;go_wp2_with fail
 go_loopw [0] (fun x wr=>wr=w/\∃u:ByteArray,x=.string u/\u.size<=60000/\q1k (btL u)=q1k (btL t)) (fun x _=>y8c x)
 case atStart=>exact⟨rfl,t,rfl,hs,rfl⟩
 case round=>
  obtain⟨rfl,u,rfl,M,E⟩:=hrel;have G:Hid (q1k (btL u)=q1k (btL t)):=E;clear E;by_cases L:0<u.size
  ·have H:(0:Int)<(u.size:Int):=by omega
   have J:Hid (btL u=btL (u.extract 0 (u.size-1))++[u[u.size-1]]):=z6m u L;cases A:(u[u.size-1]==32)with
   | true=>
    have I:((u[u.size-1].toNat:Int)==32)=true:=by rw[show(32:Int)=((32:Nat):Int)from rfl,q5z _ 32 (by decide)];exact A
    have B:Hid (q1k (btL (u.extract 0 (u.size-1)))=q1k (btL t)):=by
     show _=_;rw[<-G.o,J.o,beq_iff_eq.1 A,q9r]
    have D:(u.extract 0 (u.size-1)).size=u.size-1:=by rw[ByteArray.size_extract];omega
    have C:=(show Hid (_=_)from D);clear A D;go_wp2;exact⟨⟨by trivial,_,rfl,by rw[C.o];omega,B.o⟩,by show(u.extract 0 (u.size-1)).size<u.size;rw[C.o];omega⟩
   | false=>
    have I:((u[u.size-1].toNat:Int)==32)=false:=by rw[show(32:Int)=((32:Nat):Int)from rfl,q5z _ 32 (by decide)];exact A
    have B:Hid (u=wbS (q1k (btL t))):=by
     show _=_;rw[<-G.o,J.o,q2r _ (by simpa using A),<-z6m u L];rfl
    clear A;go_wp2;go_ret;exact⟨by rw[<-B.o];rfl,rfl⟩
  ·have H:¬(0:Int)<(u.size:Int):=by omega
   have B:Hid (u=wbS (q1k (btL t))):=by
    show _=_;have K:btL u=[]:=List.eq_nil_of_length_eq_zero (by rw[q0c];omega);rw[<-G.o,K,j9y];show u=⟨#[]⟩;apply ByteArray.ext;exact Array.toList_inj.1 K
   go_wp2;go_ret;exact⟨by rw[<-B.o];rfl,rfl⟩
theorem j9z(t:ByteArray)(w:World)(h0:0<t.size)(hs:t.size<=60000):
  Calls prog 123 #[.string t,.string ⟨#[32]⟩] w fun e w'=>e=.returned (.string (wbS (q1k (btL t))))/\w=w':=by
 have A:(t.toList==[])=false:=by
  rw[Lib.toList_data]
  have:=(show t.data.toList.length=t.size from q0c t)
  cases h:t.data.toList with
  | nil=>rw[h]at this;simp at this;omega
  | cons a b=>rfl
 go_in;go_wp2_with fail;refine(j9x t _ hs).mono ?_;rintro e B⟨rfl,rfl⟩;go_wp2;go_ret;exact⟨rfl,rfl⟩
def k1k(t:ByteArray):ByteArray:=wbS ((btL t).takeWhile nlB)
theorem v4t(t:ByteArray)(w:World)(hs:t.size<=60000):
  Calls prog 122 #[.string t,.string ⟨#[10]⟩] w fun e w'=>(∃r b,e=.returned (.tuple #[.string (k1k t),.string r,.bool b]))/\Below w w w':=by
 have B:=Lib.indexByte_ge t.data.toList 10;by_cases D:Lib.indexByte t.data.toList 10=-1
 ·have A:Hid (t=k1k t):=by
   show t=wbS ((btL t).takeWhile nlB);rw[j6p _ D];rfl
  go_in;go_wp2_with(go_at_call 170;refine(k8w _ _ D).mono ?_;rintro e w'⟨rfl,n,rfl⟩);go_ret3;exact⟨⟨_,_,by rw[<-A.o];rfl⟩,j2i _ _⟩
 ·obtain⟨i,H⟩:∃i:Nat,Lib.indexByte t.data.toList 10=i:=⟨(Lib.indexByte t.data.toList 10).toNat,by omega⟩;obtain⟨E,G⟩:=v7l _ i H;have C:i+1<=t.size:=by rw[<-q0c];exact G
  have A:Hid (t.extract 0 i=k1k t):=by
   show t.extract 0 i=wbS ((btL t).takeWhile nlB);rw[k6i,E]
  clear E G B D;go_in;go_wp2_with(go_at_call 170;refine(j3i _ _ _ H C (by omega)).mono ?_;rintro e w'⟨rfl,n,rfl⟩);go_ret3;exact⟨⟨_,_,by rw[<-A.o];rfl⟩,j2i _ _⟩
abbrev y9f(a:Nat):Value:=.func (.func 118) #[] #[.pointer (some ⟨a,0,none⟩)]
def z1k(w:World)(a:Nat)(bs:ByteArray):Prop:=a<w.heap.size/\w.cell? ⟨a,0,none⟩=some (.string bs)
theorem z1k.W{B:Nat}{w w':World}{a:Nat}{bs:ByteArray}(h:z1k w a bs)(hB:a<B)(hb:Below B w w'):z1k w' a bs:=
 ⟨Nat.lt_of_lt_of_le h.1 hb.size,(hb.cell (p:=⟨a,0,none⟩) hB).trans h.2⟩
theorem k2a(bs:ByteArray)(w:World):Calls prog 76 #[.string bs] w fun e w'=>e=.returned (y9f w.heap.size)/\w'=w.alloc (.cells #[.string bs] 9):=by
 go_in;go_wp2;go_ret;exact⟨rfl,rfl⟩
theorem z1k.new(bs:ByteArray)(w:World):z1k (w.alloc (.cells #[.string bs] 9)) w.heap.size bs:=⟨by rw[World.size_alloc];omega,z3q w _ _⟩
theorem y1q(s:ByteArray)(c:Int)(w:World):
  Calls prog 119 #[.string s,.int .u8 c] w fun e w'=>e=.returned (.int .i64 (Lib.indexByte s.data.toList c.toNat.toUInt8))/\w'=w:=by
 go_in;go_wp2_with fail;refine(q6y _ _ _).mono ?_;rintro e A⟨rfl,rfl⟩;go_wp2;go_ret;exact⟨rfl,rfl⟩
theorem q8t(c:UInt8){a:Nat}{bs:ByteArray}{w:World}(h:z1k w a bs):Calls prog 118 #[.int .u8 (c.toNat:Int),.pointer (some ⟨a,0,none⟩)] w fun e w'=>e=.returned (.bool ((btL bs).any (·==c)))/\w=w':=by
 have E:=h.2;have A:=(show Hid (_=_)from v7b (btL bs) c);have D:(c.toNat:Int).toNat.toUInt8=c:=by simp
 go_in;go_wp2_with fail;refine(y1q bs _ _).mono ?_;rintro e G⟨rfl,rfl⟩;rw[D];generalize B:Lib.indexByte bs.data.toList c=z;have C:Hid (decide (0<=z)=(btL bs).any (·==c)):=by rw[<-B];exact A
 clear B A;go_wp2;go_ret;exact⟨by rw[<-C.o];rfl,rfl⟩
theorem z5j(s:ByteArray)(w:World):Calls prog 152 #[.string s] w fun e w'=>e=.returned (.bool (okW s))/\w=w':=by
 by_cases L:(s.size:Int)<1
 ·have e:okW s=false:=by simp[okW];omega
  rw[e];clear e;go_in;go_wp2;go_ret;exact⟨rfl,rfl⟩
 by_cases M:20<(s.size:Int)
 ·have e:okW s=false:=by simp[okW];omega
  rw[e];clear e;go_in;go_wp2;go_ret;exact⟨rfl,rfl⟩
 go_in;go_wp2
 go_loopw [14] (fun i wr=>wr=w/\∃k:Nat,k<=s.size/\i=.int .i64 k/\∀j(h:j<s.size),j<k->q8h s[j]=true) (fun i _=>s.size-(intOf i).toNat)
 case atStart=>exact⟨rfl,0,Nat.zero_le _,rfl,fun j _ K=>by omega⟩
 case round=>
  obtain⟨rfl,k,N,rfl,A⟩:=hrel;have H:Hid (∀j(h:j<s.size),j<k->q8h s[j]=true):=A;clear A;by_cases G:k<s.size
  ·cases B:q8h s[k]with
   | false=>
    have C:Hid (okW s=false):=j8b G B;have D:=z5g B;clear B;rcases D with D|⟨D,J⟩
    ·go_wp2;go_ret;exact⟨by rw[C.o];rfl,rfl⟩
    ·go_wp2;go_ret;exact⟨by rw[C.o];rfl,rfl⟩
   | true=>
    have I:Hid (q8h s[k]=true):=B;obtain⟨D,J⟩:=z7f B;clear B;go_wp2
    go_roundw
    case rel=>
     refine⟨by trivial,k+1,by omega,by go_num,?_⟩;intro j h K;by_cases E:j=k
     ·subst E;exact I.o
     ·exact H.o j h (by omega)
    case measure=>simp[intOf];omega
  ·have C:Hid (okW s=true):=k7h (by omega) (by omega) fun j h=>H.o j h (by omega)
   go_wp2;go_ret;exact⟨by rw[C.o];rfl,rfl⟩
theorem q6m(ws:List ByteArray)(a:Option Addr)(cap:Nat)(w:World)(hW:Wds w a ws):
  Calls prog 97 #[.slice a ws.length cap] w fun e w'=>e=.returned (q1v (q1b ws))/\w=w':=by
 have K:Hid (Wds w a ws):=hW;clear hW;by_cases P:60<(ws.length:Int)
 ·have D:Hid (q1b ws=3):=q7m (by omega);go_in;go_wp2;go_ret;exact⟨by rw[D.o];rfl,rfl⟩
 go_in;go_wp2
 go_loopw [11] (fun i wr=>wr=w/\∃k:Nat,k<=ws.length/\i=.int .i64 k/\∀j(h:j<ws.length),j<k->okW ws[j]=true) (fun i _=>ws.length-(intOf i).toNat)
 case atStart=>exact⟨rfl,0,Nat.zero_le _,rfl,fun j _ hj=>by omega⟩
 case round=>
  obtain⟨rfl,k,Q,rfl,A⟩:=hrel;have I:Hid (∀j(h:j<ws.length),j<k->okW ws[j]=true):=A;clear A;by_cases E:k<ws.length
  ·obtain⟨O,R,L,M,J⟩:=K.o k E;subst L;cases B:okW ws[k]with
   | false=>
    have D:Hid (q1b ws=5):=z7h (by omega) E B;have C:Hid (okW ws[k]=false):=B;generalize ws[k]=x at J C;clear B;go_wp2_with fail;refine(z5j _ _).mono ?_;rintro e N⟨rfl,rfl⟩;rw[C.o];go_wp2;go_ret;exact⟨by rw[D.o];rfl,rfl⟩
   | true=>
    have C:Hid (okW ws[k]=true):=B
    have G:Hid (∀j(h:j<ws.length),j<k+1->okW ws[j]=true):=fun j h hj=>by
     by_cases H:j=k
     ·subst H;exact B
     ·exact I.o j h (by omega)
    generalize ws[k]=x at J C;clear B;go_wp2_with fail;refine(z5j _ _).mono ?_;rintro e N⟨rfl,rfl⟩;rw[C.o];go_wp2
    go_roundw
    case rel=>exact⟨by trivial,k+1,by omega,by go_num,G.o⟩
    case measure=>simp[intOf];omega
  ·have D:Hid (q1b ws=0):=z7g (by omega) fun j h=>I.o j h (by omega)
   go_wp2;go_ret;exact⟨by rw[D.o];rfl,rfl⟩
def q1r(ds:List Nd):List Value:=ds.flatMap fun x=>[.int .i64 x.op,.string x.tx,.int .i64 x.n]
theorem q9p:∀ds:List Nd,(q1r ds).length=ds.length*3
 | []=>rfl
 | x::r=>by
  have:=q9p r
  unfold q1r at this⊢;rw[List.flatMap_cons,List.length_append,this,List.length_cons];simp;omega
theorem k4i(a b:List Nd):q1r (a++b)=q1r a++q1r b:=by simp[q1r,List.flatMap_append]
theorem z2a:∀(ds:List Nd)(i:Nat)(h:i<ds.length),(q1r ds)[i*3]?=some (.int .i64 ds[i].op)/\(q1r ds)[i*3+1]?=some (.string ds[i].tx)/\(q1r ds)[i*3+2]?=some (.int .i64 ds[i].n)
 | x::r,0,_=>by simp[q1r]
 | x::r,i+1,h=>by
  have h1:=z2a r i (by simpa using h);have e:q1r (x::r)=.int .i64 x.op::.string x.tx::.int .i64 x.n::q1r r:=by simp[q1r]
  rw[e,show(i+1)*3=i*3+1+1+1 by omega];exact h1
theorem k4k(ds:List Nd):∀u∈q1r ds,u.oneCell'=true:=by
 intro u B;obtain⟨x,_,A⟩:=List.mem_flatMap.1 B;simp at A;rcases A with rfl|rfl|rfl<;>rfl
theorem k4j(ds:List Nd)(j:Nat)(u:Value)(h:(q1r ds)[j]?=some u):∃i,∃hi:i<ds.length,(j=i*3/\u=.int .i64 ds[i].op)\/(j=i*3+1/\u=.string ds[i].tx)\/(j=i*3+2/\u=.int .i64 ds[i].n):=by
 have E:j<ds.length*3:=by rw[<-q9p];exact(List.getElem?_eq_some_iff.1 h).1
 have hi:j / 3<ds.length:=by omega
 obtain⟨A,B,C⟩:=z2a ds (j / 3) hi;refine⟨j / 3,hi,?_⟩;have D:j=j / 3*3\/j=j / 3*3+1\/j=j / 3*3+2:=by omega
 rcases D with e|e|e
 ·rw[<-e,h]at A;exact .inl ⟨e,Option.some.inj A⟩
 ·rw[<-e,h]at B;exact .inr (.inl ⟨e,Option.some.inj B⟩)
 ·rw[<-e,h]at C;exact .inr (.inr ⟨e,Option.some.inj C⟩)
theorem v7j:(prog.info? 107).map (fun i=>(i.zero,i.size,i.bytes))=some (some (.agg #[.int .i64 0,.string ⟨#[]⟩,.int .i64 0]),3,32):=by kernel_rfl
theorem k7n{B:Nat}{w:World}{a:Option Addr}{n cap:Nat}{ds:List Nd}(h:w.ownsRow B 107 3 (.slice a n cap) ds.length (q1r ds)):n=ds.length/\ds.length<=cap/\q1p w a ds:=by
 rcases h.2 with⟨D,H⟩|⟨g,c,M,D,_,L,K,_,P,C⟩
 ·simp only[Value.slice.injEq]at D;obtain⟨rfl,rfl,rfl⟩:=D;refine⟨H.symm,by omega,fun i hi=>?_⟩;omega
 ·simp only[Value.slice.injEq]at D;obtain⟨rfl,rfl,rfl⟩:=D;refine⟨rfl,K,fun i hi=>?_⟩
  have J:g<w.heap.size:=by
   rcases Nat.lt_or_ge g w.heap.size with G|G
   ·exact G
   ·simp[Array.getElem?_eq_none G]at L
  have A:∀k u,(q1r ds)[k]?=some u->w.cell? ⟨g,k,none⟩=some u:=by
   intro k u E;rw[<-C]at E
   have I:k<ds.length*3:=by
    have:=(List.getElem?_eq_some_iff.1 E).1
    simp at this;omega
   rw[List.getElem?_take_of_lt I]at E;simp only[World.cell?,L];simpa using E
  obtain⟨H,N,O⟩:=z2a ds i hi;refine⟨g,0,rfl,J,?_,?_,?_⟩
  ·rw[Nat.zero_add];exact A _ _ H
  ·rw[Nat.zero_add];exact A _ _ N
  ·rw[Nat.zero_add];exact A _ _ O
theorem j7o{w:World}{b o:Nat}{ds:List Nd}(h:q1p w (some ⟨b,o,none⟩) ds):∀j u,(q1r ds)[j]?=some u->w.cell? ((⟨b,o,none⟩:Addr).add j)=some u:=by
 intro j u H;obtain⟨i,G,E⟩:=k4j ds j u H;obtain⟨I,J,e,_,A,B,C⟩:=h i G;simp only[Option.some.injEq,Addr.mk.injEq,and_true]at e;obtain⟨rfl,rfl⟩:=e
 have D:∀k,(⟨b,o,none⟩:Addr).add k=⟨b,o+k,none⟩:=by
  intro k;unfold Addr.add
  split
  ·rename_i h;subst h;rfl
  ·rfl
 rw[D];rcases E with⟨rfl,rfl⟩|⟨rfl,rfl⟩|⟨rfl,rfl⟩
 ·exact A
 ·rw[show o+(i*3+1)=o+i*3+1 by omega];exact B
 ·rw[show o+(i*3+2)=o+i*3+2 by omega];exact C
def Ln(B b:Nat)(l:List UInt8)(k:Bool)(w:World):Prop:=IsX 285 B b (Lib.byteCells l) [.bool k] w
theorem v7h:z7m 285 3:=by unfold z7m;kernel_rfl
theorem Ln.cell{B b:Nat}{l:List UInt8}{k:Bool}{w:World}(h:Ln B b l k w):w.cell? ⟨b,2,none⟩=some (.bool k):=IsX.cellR h 0
theorem Ln.frozen{B b:Nat}{l:List UInt8}{k:Bool}{w:World}(h:Ln B b l k w):w.frozen? ⟨b,2,none⟩=false:=IsX.frozen h 2
theorem Ln.stored{B b:Nat}{l:List UInt8}{k:Bool}{w:World}(h:Ln B b l k w)(k':Bool):Ln B b l k' (w.setCell ⟨b,2,none⟩ (.bool k')):=IsX.stored h 0 (.bool k')
theorem y7t{B b:Nat}{l:List UInt8}{k:Bool}{w:World}(h:Ln B b l k w)(hB:B<=w.heap.size)(c:UInt8)(z:Int)(hz:z=(c.toNat:Int))(hl:l.length<=1000000):
  Calls prog 45 #[.pointer (some ⟨b,0,none⟩),.int .u8 z] w fun e w'=>e=.returned .nilIface/\Ln B b (l++[c]) k w'/\q0v B b w w'/\Lib.OthersKept 5 (some b) w w':=by
 subst hz;refine(v0u 285 B b _ [.bool k] _ w v7h (by decide) h (by rw[Lib.byteCells_length];omega) hB).mono ?_;rintro e w'⟨rfl,A,C,D⟩;refine⟨rfl,?_,C,D⟩;rw[Ln,Lib.byteCells_append];exact A
theorem y9c{B b:Nat}{l:List UInt8}{k:Bool}{w:World}(h:Ln B b l k w)(hB:B<=w.heap.size)(s:ByteArray)(hl:l.length+s.size<=2000000):
  Calls prog 38 #[.pointer (some ⟨b,0,none⟩),.string s] w fun e w'=>(∃z,e=.returned (.tuple #[.int .i64 z,.nilIface]))/\Ln B b (l++s.data.toList) k w'/\q0v B b w w'/\Lib.OthersKept 5 (some b) w w':=by
 refine(z5k 285 B b _ [.bool k] s w v7h (by decide) h (by rw[Lib.byteCells_length];omega) hB).mono ?_;rintro e w'⟨rfl,A,C,D⟩;refine⟨⟨_,rfl⟩,?_,C,D⟩;rw[Ln,Lib.byteCells_append];exact A
def y3b(B b s:Nat)(r:List Nd)(l:List UInt8)(k:Bool)(w:World)(e:Ending)(w':World):Prop:=
 (∃a' cap',e=.returned (.slice a' r.length cap')/\q1i s w' a' r/\r.length<=cap')/\Ln B b l k w'/\q0v B b w w'/\Lib.OthersKept 5 (some b) w w'
def z9t(A:List Nd)(tA:List UInt8)(kA:Bool):Prop:=∀(B b s:Nat)(ds r:List Nd)(a:Option Addr)(cap:Nat)(l:List UInt8)(k:Bool)(w:World),ds=A++r->q1i s w a ds->s<B->s≠b->ds.length<=cap->Ln B b l k w->B<=w.heap.size->l.length+20*ds.length<=1000000->
  Calls prog 211 #[.pointer (some ⟨b,0,none⟩),.slice a ds.length cap] w (y3b B b s r (l++tA) (k||kA) w)
def k2x(B b s:Nat)(n0:Nat)(x:Nd)(r:List Nd)(l:List UInt8)(k:Bool)(w:World)(t p q:Value)(wx:World):Prop:=
 t=.pointer (some ⟨b,0,none⟩)/\p=.pointer (some ⟨n0,0,none⟩)/\(∃a' cap',q=.slice a' r.length cap'/\q1i s wx a' r/\r.length<=cap')/\wx.cell? ⟨n0,0,none⟩=some (.int .i64 x.op)/\wx.cell? ⟨n0,1,none⟩=some (.string x.tx)/\wx.cell? ⟨n0,2,none⟩=some (.int .i64 x.n)/\Ln B b l k wx/\q0v B b w wx/\Lib.OthersKept 5 (some b) w wx
theorem q0v.weak{B B' b x:Nat}{w w':World}(h:q0v B' x w w')(hB:B<=B')(hx:B<=x):q0v B b w w':=⟨h.os,h.tape,h.output,h.size,fun k hk _=>h.block k (by omega) (by omega)⟩
theorem v3g{e:TypeId}{b x:Nat}{w w3 w4:World}(h:Lib.OthersKept e (some b) w w3)(h':Lib.OthersKept e (some x) w3 w4)(hx:w.heap.size<=x):Lib.OthersKept e (some b) w w4:=by
 intro k o A C B;have D:k<w.heap.size:=(Array.getElem?_eq_some_iff.1 A).1;exact h' k o (h k o A C B) (fun e=>by cases e;omega) B
end Go.Proofs.YtfdppahhbpfnoaaGreatDoor
