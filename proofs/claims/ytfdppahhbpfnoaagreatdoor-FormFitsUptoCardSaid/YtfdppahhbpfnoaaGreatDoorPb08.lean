import Derived.Test.YtfdppahhbpfnoaaGreatDoorPb05
import Derived.Lib.Split
import Derived.Lib.IndexLaws
import Derived.Test.YtfdppahhbpfnoaaGreatDoorPb02
import Derived.Test.YtfdppahhbpfnoaaGreatDoorPb03
import Derived.Deep.DeepCutAuto
import Derived.BigQuiet
open Go.Proofs.Tryz
namespace Go.Proofs.YtfdppahhbpfnoaaGreatDoor
open Go Go.RowKit
def Prg(w:World)(a:Option Addr)(ps:List (List Td)):Prop:=
 ∀i(h:i<ps.length),∃b o a' c',a=some ⟨b,o,none⟩/\b<w.heap.size/\w.cell? ⟨b,o+i,none⟩=some (.slice a' ps[i].length c')/\ps[i].length<=c'/\Tds w a' ps[i]
theorem Prg.W{w w':World}{a:Option Addr}{ps:List (List Td)}(h:Prg w a ps)(hb:Below w w w'):Prg w' a ps:=by
 intro i H;obtain⟨b,o,B,C,e,A,D,E,G⟩:=h i H
 have:=hb.size
 exact⟨b,o,B,C,e,by omega,((q1o hb).1 _ _ A).trans D,E,G.W hb⟩
theorem Prg.nil(w:World)(a:Option Addr):Prg w a []:=fun i hi=>by simp at hi
set_option maxRecDepth 100000
theorem z6s(c:UInt8)(w:World):Calls prog 53 #[.int .u8 (c.toNat:Int)] w fun e w'=>e=.returned (.bool (q2f c))/\w=w':=by
 by_cases B:(97:Int)<=(c.toNat:Int)
 ·by_cases C:(c.toNat:Int)<=122
  ·have A:Hid (q2f c=true):=by show q2f c=true;simp[q2f];omega
   go_in;go_wp2;go_ret;exact⟨by rw[A.o];rfl,rfl⟩
  ·have A:Hid (q2f c=false):=by show q2f c=false;simp[q2f];omega
   go_in;go_wp2;go_ret;exact⟨by rw[A.o];rfl,rfl⟩
 ·have A:Hid (q2f c=false):=by show q2f c=false;simp[q2f];omega
  go_in;go_wp2;go_ret;exact⟨by rw[A.o];rfl,rfl⟩
theorem y5e{s:ByteArray}{k:Nat}(h:k<s.size):s[k]∈s.data.toList:=by
 have A:k<s.data.toList.length:=by rw[<-Lib.size_eq];exact h
 exact List.getElem_mem A
theorem k8q{s:ByteArray}(h1:1<=s.size)(h2:s.size<=20)(h:∀k(h:k<s.size),q5g s[k]=true):okW s=true:=by
 simp only[okW,h1,h2,decide_true,Bool.true_and,List.all_eq_true];intro b A;obtain⟨i,B,rfl⟩:=List.getElem_of_mem A;exact h i (by rw[Lib.size_eq];exact B)
theorem j8f{s:ByteArray}{k:Nat}(h:k<s.size)(hb:q5g s[k]=false):okW s=false:=by
 cases e:okW s with
 | false=>rfl
 | true=>
  simp only[okW,Bool.and_eq_true,List.all_eq_true]at e
  have:=e.2 s[k] (y5e h)
  rw[hb]at this;cases this
theorem z4y{b:UInt8}(h:q5g b=false):(b.toNat:Int)<33\/(¬(b.toNat:Int)<33/\126<(b.toNat:Int)):=by
 simp[q5g]at h;omega
theorem z7e{b:UInt8}(h:q5g b=true):¬(b.toNat:Int)<33/\¬126<(b.toNat:Int):=by
 simp[q5g]at h;omega
theorem q6v{ws:List ByteArray}(h:60<ws.length):q0s ws=3:=by rw[q0s,if_pos h]
theorem z7g{ws:List ByteArray}{k:Nat}(hl:ws.length<=60)(hk:k<ws.length)(h:okW ws[k]=false):q0s ws=5:=by
 rw[q0s,if_neg (by omega),if_neg];intro e
 have:=List.all_eq_true.1 e ws[k] (List.getElem_mem hk)
 rw[h]at this;cases this
theorem z7f{ws:List ByteArray}(hl:ws.length<=60)(h:∀j(h:j<ws.length),okW ws[j]=true):q0s ws=0:=by
 rw[q0s,if_neg (by omega),if_pos];rw[List.all_eq_true];intro x B;obtain⟨j,A,rfl⟩:=List.getElem_of_mem B;exact h j A
theorem j5y{s:ByteArray}:btL s=[108,101,116]↔s=⟨#[108,101,116]⟩:=by
 constructor
 ·intro h;apply ByteArray.ext;apply Array.ext';exact h
 ·intro h;rw[h]
theorem k2o{s:ByteArray}(h1:1<=s.size)(h2:s.size<=8)(h3:¬s=⟨#[108,101,116]⟩)(h:∀k(h:k<s.size),q2f s[k]=true):q0o s=true:=by
 have A:btL s≠[108,101,116]:=fun e=>h3 (j5y.1 e)
 simp only[q0o,h1,h2,A,decide_true,Bool.true_and,List.all_eq_true,ne_eq,not_false_eq_true];intro b B;obtain⟨i,C,rfl⟩:=List.getElem_of_mem B;exact h i (by rw[<-q0c];exact C)
theorem k2p{s:ByteArray}{k:Nat}(h:k<s.size)(hb:q2f s[k]=false):q0o s=false:=by
 cases e:q0o s with
 | false=>rfl
 | true=>
  simp only[q0o,Bool.and_eq_true,List.all_eq_true]at e;have A:k<(btL s).length:=by rw[q0c];exact h
  have:=e.2 s[k] (List.getElem_mem A)
  rw[hb]at this;cases this
theorem z4i{s:ByteArray}(h:s.size<1):q0o s=false:=by
 have:decide (1<=s.size)=false:=decide_eq_false (by omega)
 simp[q0o,this]
theorem z6n{s:ByteArray}(h:8<s.size):q0o s=false:=by
 have:decide (s.size<=8)=false:=decide_eq_false (by omega)
 simp[q0o,this]
theorem z2i(s:ByteArray):wbS (btL s)=s:=by
 obtain⟨d⟩:=s;simp[wbS,btL]
theorem j3y{l:List UInt8}(h:Lib.indexByte l 32=-1):∀b∈l,b≠32:=by
 intro b A e;subst e;obtain⟨k,B⟩:=List.getElem?_of_mem A;exact Lib.indexByte_none h k B
theorem k7m{l:List UInt8}{i:Nat}(h:Lib.indexByte l 32=i):i<l.length/\l=l.take i++32::l.drop (i+1)/\∀b∈l.take i,b≠32:=by
 obtain⟨C,D⟩:=Lib.indexByte_some h;obtain⟨B,E⟩:=List.getElem?_eq_some_iff.1 C;refine⟨B,?_,?_⟩
 ·have:=(List.take_append_drop i l).symm
  rw[List.drop_eq_getElem_cons B,E]at this;exact this
 ·intro b G e;subst e;obtain⟨k,A⟩:=List.getElem?_of_mem G;rw[List.getElem?_take]at A
  split at A
  ·rename_i hki;exact D k hki A
  ·cases A
def spK:Nat->ByteArray->List ByteArray
 | 0,s=>[s]
 | k+1,s=>if Lib.indexByte s.data.toList 32=-1 then [s]else s.extract 0 (Lib.indexByte s.data.toList 32).toNat::spK k (s.extract ((Lib.indexByte s.data.toList 32).toNat+1) s.size)
theorem z9v(s:ByteArray):spK 0 s=[s]:=rfl
theorem z0k(k:Nat){s:ByteArray}(h:Lib.indexByte s.data.toList 32=-1):spK k s=[s]:=by
 cases k with
 | zero=>rfl
 | succ k=>rw[spK,if_pos h]
theorem z4o(k:Nat){s:ByteArray}{i:Nat}(h:Lib.indexByte s.data.toList 32=i):spK (k+1) s=s.extract 0 i::spK k (s.extract (i+1) s.size):=by
 rw[spK,if_neg (by omega),h];rfl
theorem y9v(s:ByteArray)(i:Nat):btL (s.extract 0 i)=(btL s).take i:=by
 rw[z5a,List.drop_zero,Nat.sub_zero];rfl
theorem y0r(s:ByteArray)(i:Nat):btL (s.extract i s.size)=(btL s).drop i:=Lib.extract_to_end s i
theorem q7o(s:ByteArray):Lib.indexByte s.data.toList 32=-1\/∃i:Nat,Lib.indexByte s.data.toList 32=i/\i<s.size:=by
 have A:=Lib.indexByte_ge s.data.toList 32;by_cases h:Lib.indexByte s.data.toList 32=-1
 ·exact .inl h
 ·refine .inr ⟨(Lib.indexByte s.data.toList 32).toNat,by omega,?_⟩
  have:=(k7m (l:=btL s) (i:=(Lib.indexByte s.data.toList 32).toNat) (by show Lib.indexByte s.data.toList 32=_;omega)).1
  rw[q0c]at this;exact this
theorem z9z{s:ByteArray}{i:Nat}(h:Lib.indexByte s.data.toList 32=i):q4h (btL s)=btL (s.extract 0 i)::q4h (btL (s.extract (i+1) s.size)):=by
 obtain⟨_,A,B⟩:=k7m (l:=btL s) h;rw[y9v,y0r]
 conv=>lhs;rw[A]
 rw[z9x _ _ B]
theorem k6m{s:ByteArray}(h:Lib.indexByte s.data.toList 32=-1):q4h (btL s)=[btL s]:=z9y _ (j3y (l:=btL s) h)
theorem v5u{s:ByteArray}{i:Nat}(h:i<s.size):(s.extract (i+1) s.size).size=s.size-(i+1):=by
 rw[ByteArray.size_extract];omega
theorem j9l:∀(k:Nat)(s:ByteArray),s.size<=k->(spK k s).map btL=q4h (btL s)
 | 0,s,h=>by
  have e:btL s=[]:=List.eq_nil_of_length_eq_zero (by rw[q0c];omega);rw[z9v,List.map_cons,List.map_nil,e];rfl
 | k+1,s,h=>by
  rcases q7o s with h1|⟨i,h1,h2⟩
  ·rw[z0k _ h1,k6m h1];rfl
  ·rw[z4o k h1,z9z h1,List.map_cons,j9l k _ (by rw[v5u h2];omega)]
theorem j9n:∀(k:Nat)(s:ByteArray),(spK k s).length<=k->(spK k s).map btL=q4h (btL s)
 | 0,s,h=>by rw[z9v]at h;simp at h
 | k+1,s,h=>by
  rcases q7o s with h1|⟨i,h1,h2⟩
  ·rw[z0k _ h1,k6m h1];rfl
  ·rw[z4o k h1]at h⊢;rw[List.length_cons]at h;rw[z9z h1,List.map_cons,j9n k _ (by omega)]
theorem v9e:∀(k:Nat)(s:ByteArray),(spK k s).length<=(q4h (btL s)).length
 | 0,s=>by
  rw[z9v]
  have:=q6o (btL s)
  cases h:q4h (btL s)with
  | nil=>exact absurd h this
  | cons a b=>simp
 | k+1,s=>by
  rcases q7o s with h1|⟨i,h1,h2⟩
  ·rw[z0k _ h1,k6m h1];simp
  ·rw[z4o k h1,z9z h1,List.length_cons,List.length_cons]
   have:=v9e k (s.extract (i+1) s.size)
   omega
theorem j2s{l:List ByteArray}{m:List (List UInt8)}(h:l.map btL=m):l=m.map wbS:=by
 subst h;rw[List.map_map]
 have:(wbS∘btL)=id:=by funext s;exact z2i s
 rw[this,List.map_id]
theorem j9m(s:ByteArray)(k:Nat)(hk:k=min 60 s.size):q0s (spK k s)=q0s ((q4h (btL s)).map wbS):=by
 by_cases h:s.size<=60
 ·rw[j2s (j9l k s (by omega))]
 ·have A:k=60:=by omega
  subst A;by_cases B:(spK 60 s).length<=60
  ·rw[j2s (j9n 60 s B)]
  ·have C:=v9e 60 s;rw[q6v (by omega),q6v (by rw[List.length_map];omega)]
theorem v4r{s:ByteArray}(h:0<s.size)(k:Nat)(hk:k=min 60 s.size):q0s (spK k s)=q1x s:=by
 rw[j9m s k hk,q1x,q0e,if_neg];intro e
 have:=congrArg List.length e
 rw[q0c,List.length_nil]at this;omega
theorem j7w{s:ByteArray}(h:s.size=0):q1x s=0:=by
 have e:btL s=[]:=List.eq_nil_of_length_eq_zero (by rw[q0c];exact h);rw[q1x,q0e,if_pos e];rfl
theorem v8m{op:Int}{tx:ByteArray}{n:Int}(_h0:op<1):q0m ⟨op,tx,n⟩=1:=by
 unfold q0m
 (repeat' split)<;>first|rfl|(exfalso;omega)|(exfalso;simp_all;done)|(exfalso;simp_all<;>omega)|(simp_all;done)
theorem v8n{op:Int}{tx:ByteArray}{n:Int}(_h0:¬op<1)(_h1:9<op):q0m ⟨op,tx,n⟩=1:=by
 unfold q0m
 (repeat' split)<;>first|rfl|(exfalso;omega)|(exfalso;simp_all;done)|(exfalso;simp_all<;>omega)|(simp_all;done)
theorem v8o{tx:ByteArray}{n:Int}(_h0:n<0):q0m ⟨1,tx,n⟩=1:=by
 have A:q2k 1=false:=rfl;unfold q0m
 (repeat' split)<;>first|rfl|(exfalso;omega)|(exfalso;simp_all;done)|(exfalso;simp_all<;>omega)|(simp_all;done)
theorem v8p{tx:ByteArray}{n:Int}(_h0:¬n<0)(_h1:999999<n):q0m ⟨1,tx,n⟩=1:=by
 have A:q2k 1=false:=rfl;unfold q0m
 (repeat' split)<;>first|rfl|(exfalso;omega)|(exfalso;simp_all;done)|(exfalso;simp_all<;>omega)|(simp_all;done)
theorem v8q{tx:ByteArray}{n:Int}(_h0:¬n<0)(_h1:¬999999<n)(_h2:0<(tx.size:Int)):q0m ⟨1,tx,n⟩=2:=by
 have A:q2k 1=false:=rfl;unfold q0m
 (repeat' split)<;>first|rfl|(exfalso;omega)|(exfalso;simp_all;done)|(exfalso;simp_all<;>omega)|(simp_all;done)
theorem v8r{tx:ByteArray}{n:Int}(_h0:¬n<0)(_h1:¬999999<n)(_h2:¬0<(tx.size:Int)):q0m ⟨1,tx,n⟩=0:=by
 have A:q2k 1=false:=rfl;unfold q0m
 (repeat' split)<;>first|rfl|(exfalso;omega)|(exfalso;simp_all;done)|(exfalso;simp_all<;>omega)|(simp_all;done)
theorem v8s{tx:ByteArray}{n:Int}(_h0:¬n=0):q0m ⟨2,tx,n⟩=2:=by
 have A:q2k 2=true:=rfl;unfold q0m
 (repeat' split)<;>first|rfl|(exfalso;omega)|(exfalso;simp_all;done)|(exfalso;simp_all<;>omega)|(simp_all;done)
theorem v8t{tx:ByteArray}{n:Int}(_h0:n=0)(_h1:q0o tx=true):q0m ⟨2,tx,n⟩=0:=by
 have A:q2k 2=true:=rfl;unfold q0m
 (repeat' split)<;>first|rfl|(exfalso;omega)|(exfalso;simp_all;done)|(exfalso;simp_all<;>omega)|(simp_all;done)
theorem v8u{tx:ByteArray}{n:Int}(_h0:n=0)(_h1:q0o tx=false):q0m ⟨2,tx,n⟩=5:=by
 have A:q2k 2=true:=rfl;unfold q0m
 (repeat' split)<;>first|rfl|(exfalso;omega)|(exfalso;simp_all;done)|(exfalso;simp_all<;>omega)|(simp_all;done)
theorem v8v{tx:ByteArray}{n:Int}(_h0:n<0):q0m ⟨3,tx,n⟩=1:=by
 have A:q2k 3=true:=rfl;unfold q0m
 (repeat' split)<;>first|rfl|(exfalso;omega)|(exfalso;simp_all;done)|(exfalso;simp_all<;>omega)|(simp_all;done)
theorem j6w{tx:ByteArray}{n:Int}(_h0:¬n<0)(_h1:6<n):q0m ⟨3,tx,n⟩=1:=by
 have A:q2k 3=true:=rfl;unfold q0m
 (repeat' split)<;>first|rfl|(exfalso;omega)|(exfalso;simp_all;done)|(exfalso;simp_all<;>omega)|(simp_all;done)
theorem j6x{tx:ByteArray}{n:Int}(_h0:¬n<0)(_h1:¬6<n)(_h2:q0o tx=true):q0m ⟨3,tx,n⟩=0:=by
 have A:q2k 3=true:=rfl;unfold q0m
 (repeat' split)<;>first|rfl|(exfalso;omega)|(exfalso;simp_all;done)|(exfalso;simp_all<;>omega)|(simp_all;done)
theorem j6y{tx:ByteArray}{n:Int}(_h0:¬n<0)(_h1:¬6<n)(_h2:q0o tx=false):q0m ⟨3,tx,n⟩=5:=by
 have A:q2k 3=true:=rfl;unfold q0m
 (repeat' split)<;>first|rfl|(exfalso;omega)|(exfalso;simp_all;done)|(exfalso;simp_all<;>omega)|(simp_all;done)
theorem j6z{tx:ByteArray}{n:Int}(_h0:n<0):q0m ⟨4,tx,n⟩=1:=by
 have A:q2k 4=false:=rfl;unfold q0m
 (repeat' split)<;>first|rfl|(exfalso;omega)|(exfalso;simp_all;done)|(exfalso;simp_all<;>omega)|(simp_all;done)
theorem j7a{tx:ByteArray}{n:Int}(_h0:¬n<0)(_h1:6<n):q0m ⟨4,tx,n⟩=1:=by
 have A:q2k 4=false:=rfl;unfold q0m
 (repeat' split)<;>first|rfl|(exfalso;omega)|(exfalso;simp_all;done)|(exfalso;simp_all<;>omega)|(simp_all;done)
theorem j7b{tx:ByteArray}{n:Int}(_h0:¬n<0)(_h1:¬6<n)(_h2:0<(tx.size:Int)):q0m ⟨4,tx,n⟩=2:=by
 have A:q2k 4=false:=rfl;unfold q0m
 (repeat' split)<;>first|rfl|(exfalso;omega)|(exfalso;simp_all;done)|(exfalso;simp_all<;>omega)|(simp_all;done)
theorem j7c{tx:ByteArray}{n:Int}(_h0:¬n<0)(_h1:¬6<n)(_h2:¬0<(tx.size:Int)):q0m ⟨4,tx,n⟩=0:=by
 have A:q2k 4=false:=rfl;unfold q0m
 (repeat' split)<;>first|rfl|(exfalso;omega)|(exfalso;simp_all;done)|(exfalso;simp_all<;>omega)|(simp_all;done)
theorem j7d{tx:ByteArray}{n:Int}(_h0:¬n=0):q0m ⟨5,tx,n⟩=2:=by
 have A:q2k 5=false:=rfl;unfold q0m
 (repeat' split)<;>first|rfl|(exfalso;omega)|(exfalso;simp_all;done)|(exfalso;simp_all<;>omega)|(simp_all;done)
theorem j7e{tx:ByteArray}{n:Int}(_h0:n=0)(_h1:0<(tx.size:Int)):q0m ⟨5,tx,n⟩=2:=by
 have A:q2k 5=false:=rfl;unfold q0m
 (repeat' split)<;>first|rfl|(exfalso;omega)|(exfalso;simp_all;done)|(exfalso;simp_all<;>omega)|(simp_all;done)
theorem j7f{tx:ByteArray}{n:Int}(_h0:n=0)(_h1:¬0<(tx.size:Int)):q0m ⟨5,tx,n⟩=0:=by
 have A:q2k 5=false:=rfl;unfold q0m
 (repeat' split)<;>first|rfl|(exfalso;omega)|(exfalso;simp_all;done)|(exfalso;simp_all<;>omega)|(simp_all;done)
theorem j7g{tx:ByteArray}{n:Int}(_h0:¬n=0):q0m ⟨6,tx,n⟩=2:=by
 have A:q2k 6=false:=rfl;unfold q0m
 (repeat' split)<;>first|rfl|(exfalso;omega)|(exfalso;simp_all;done)|(exfalso;simp_all<;>omega)|(simp_all;done)
theorem j7h{tx:ByteArray}{n:Int}(_h0:n=0)(_h1:0<(tx.size:Int)):q0m ⟨6,tx,n⟩=2:=by
 have A:q2k 6=false:=rfl;unfold q0m
 (repeat' split)<;>first|rfl|(exfalso;omega)|(exfalso;simp_all;done)|(exfalso;simp_all<;>omega)|(simp_all;done)
theorem j7i{tx:ByteArray}{n:Int}(_h0:n=0)(_h1:¬0<(tx.size:Int)):q0m ⟨6,tx,n⟩=0:=by
 have A:q2k 6=false:=rfl;unfold q0m
 (repeat' split)<;>first|rfl|(exfalso;omega)|(exfalso;simp_all;done)|(exfalso;simp_all<;>omega)|(simp_all;done)
theorem j7j{tx:ByteArray}{n:Int}(_h0:¬n=0):q0m ⟨7,tx,n⟩=2:=by
 have A:q2k 7=true:=rfl;unfold q0m
 (repeat' split)<;>first|rfl|(exfalso;omega)|(exfalso;simp_all;done)|(exfalso;simp_all<;>omega)|(simp_all;done)
theorem j7k{tx:ByteArray}{n:Int}(_h0:n=0)(_h1:q0o tx=true):q0m ⟨7,tx,n⟩=0:=by
 have A:q2k 7=true:=rfl;unfold q0m
 (repeat' split)<;>first|rfl|(exfalso;omega)|(exfalso;simp_all;done)|(exfalso;simp_all<;>omega)|(simp_all;done)
theorem j7l{tx:ByteArray}{n:Int}(_h0:n=0)(_h1:q0o tx=false):q0m ⟨7,tx,n⟩=5:=by
 have A:q2k 7=true:=rfl;unfold q0m
 (repeat' split)<;>first|rfl|(exfalso;omega)|(exfalso;simp_all;done)|(exfalso;simp_all<;>omega)|(simp_all;done)
theorem j7m{tx:ByteArray}{n:Int}(_h0:¬n=0):q0m ⟨8,tx,n⟩=2:=by
 have A:q2k 8=false:=rfl;unfold q0m
 (repeat' split)<;>first|rfl|(exfalso;omega)|(exfalso;simp_all;done)|(exfalso;simp_all<;>omega)|(simp_all;done)
theorem j7n{tx:ByteArray}{n:Int}(_h0:n=0)(_h1:0<(tx.size:Int)):q0m ⟨8,tx,n⟩=2:=by
 have A:q2k 8=false:=rfl;unfold q0m
 (repeat' split)<;>first|rfl|(exfalso;omega)|(exfalso;simp_all;done)|(exfalso;simp_all<;>omega)|(simp_all;done)
theorem j7o{tx:ByteArray}{n:Int}(_h0:n=0)(_h1:¬0<(tx.size:Int)):q0m ⟨8,tx,n⟩=0:=by
 have A:q2k 8=false:=rfl;unfold q0m
 (repeat' split)<;>first|rfl|(exfalso;omega)|(exfalso;simp_all;done)|(exfalso;simp_all<;>omega)|(simp_all;done)
theorem j7p{tx:ByteArray}{n:Int}(_h0:¬n=0):q0m ⟨9,tx,n⟩=2:=by
 have A:q2k 9=true:=rfl;unfold q0m
 (repeat' split)<;>first|rfl|(exfalso;omega)|(exfalso;simp_all;done)|(exfalso;simp_all<;>omega)|(simp_all;done)
theorem j7q{tx:ByteArray}{n:Int}(_h0:n=0)(_h1:q1x tx=0):q0m ⟨9,tx,n⟩=0:=by
 have A:q2k 9=true:=rfl;unfold q0m
 (repeat' split)<;>first|rfl|(exfalso;omega)|(exfalso;simp_all;done)|(exfalso;simp_all<;>omega)|(simp_all;done)
theorem j7r{tx:ByteArray}{n:Int}(_h0:n=0)(_h1:¬q1x tx=0):q0m ⟨9,tx,n⟩=q1x tx:=by
 have A:q2k 9=true:=rfl;unfold q0m
 (repeat' split)<;>first|rfl|(exfalso;omega)|(exfalso;simp_all;done)|(exfalso;simp_all<;>omega)|(simp_all;done)
theorem z6y{ds:List Td}(h:40<ds.length):q0b ds=3:=by rw[q0b,if_pos h]
theorem z6z{ds:List Td}{k:Nat}(hl:ds.length<=40)(hk:k<ds.length)(ha:∀x∈ds.take k,q0m x=0)(h:q0m ds[k]≠0):q0b ds=q0m ds[k]:=by
 have e:=j5g ds k hk ha h;rw[q0b,if_neg (by omega),if_pos (by rw[e];exact h),e]
theorem z0p{ds:List Td}(hl:ds.length<=40)(ha:∀x∈ds,q0m x=0):q0b ds=if q3d ds 0 1=some ds.length/\k6q ds=true then 0 else 2:=by
 rw[q0b,if_neg (by omega),if_neg (by rw[k7x ds ha];simp)]
theorem z6w{ds:List Td}{k:Nat}(h:k<ds.length)(ha:∀x∈ds.take k,q0m x=0)(h0:q0m ds[k]=0):∀x∈ds.take (k+1),q0m x=0:=by
 intro x A;rw[List.take_succ_eq_append_getElem h]at A;rcases List.mem_append.1 A with A|A
 ·exact ha x A
 ·simp at A;subst A;exact h0
theorem k9i{ds:List Td}:k6q ds=true↔∀k(h:k<ds.length),decide (7<=ds[k].op)=decide (k=0):=by
 cases ds with
 | nil=>simp[k6q]
 | cons x r=>
  simp only[k6q,Bool.and_eq_true,decide_eq_true_eq,List.all_eq_true];constructor
  ·rintro⟨C,D⟩k A;cases k with
   | zero=>simpa using C
   | succ k=>
    have:=D (r[k]'(by simpa using A)) (List.getElem_mem _)
    simp only[List.getElem_cons_succ,Nat.add_eq_zero_iff,Nat.one_ne_zero,and_false,decide_false,decide_eq_false_iff_not];omega
  ·intro h;have B:=h 0 (by simp);simp only[List.getElem_cons_zero,decide_true,decide_eq_true_eq]at B;refine⟨B,fun y hy=>?_⟩;obtain⟨k,A,rfl⟩:=List.getElem_of_mem hy
   have:=h (k+1) (by simpa using A)
   simp at this;omega
theorem k2j:∀(z r:List UInt8)(i:Nat),(∀x∈z,x=32)->lx (z++r) i=lx r (i+z.length)
 | [],r,i,_=>by simp
 | c::z,r,i,h=>by
  have hc:c=32:=h c (by simp);subst hc;rw[List.cons_append,k5w _ _ (by decide),k2j z r (i+1) (fun x hx=>h x (by simp[hx])),List.length_cons]
  congr 1;omega
theorem v9m{p:UInt8->Bool}:∀(l:List UInt8)x,x∈l.takeWhile p->p x=true
 | [],x,hx=>by cases hx
 | a::l,x,hx=>by
  rw[List.takeWhile_cons]at hx;by_cases ha:p a=true
  ·rw[if_pos ha]at hx;rcases List.mem_cons.1 hx with rfl|hx
   ·exact ha
   ·exact v9m l x hx
  ·rw[if_neg ha]at hx;cases hx
theorem z7a(w:List UInt8):∃z,w=q1d w++z/\∀x∈z,x=32:=by
 refine⟨(w.reverse.takeWhile (·==32)).reverse,?_,fun x hx=>?_⟩
 ·rw[q1d,<-List.reverse_append,List.takeWhile_append_dropWhile,List.reverse_reverse]
 ·have:=v9m _ _ (List.mem_reverse.1 hx)
  exact beq_iff_eq.1 this
theorem z1x(s:List UInt8):(tkW s).length<=s.length:=by
 have A:=z0r (s.take (q0r s));rw[List.length_take]at A;rw[tkW];omega
theorem v4k(s:List UInt8)(i:Nat):lx (s.drop (tkW s).length) (i+(tkW s).length)=lx (s.drop (q0r s)) (i+q0r s):=by
 obtain⟨z,D,B⟩:=z7a (s.take (q0r s));have C:=z0o s;have A:=congrArg List.length D;rw[List.length_append,List.length_take,Nat.min_eq_left C]at A
 have e:s.drop (tkW s).length=z++s.drop (q0r s):=by
  have E:s=q1d (s.take (q0r s))++(z++s.drop (q0r s)):=by
   rw[<-List.append_assoc,<-D,List.take_append_drop]
  have G:s.drop (tkW s).length=(q1d (s.take (q0r s))++(z++s.drop (q0r s))).drop (tkW s).length:=congrArg (List.drop _) E;rw[G,tkW,List.drop_left]
 rw[e,k2j z _ _ B]
 congr 1
 rw[tkW];omega
theorem y3y{c:UInt8}{r:List UInt8}(hs:spB c=false)(ho:q5b (c::r)=true):1<=(tkW (c::r)).length:=v0d (v9k hs ho)
theorem y9z{c:UInt8}{r:List UInt8}(hl:q2f c=true):tkW (c::r)=(c::r).takeWhile q2f/\q5b (c::r)=decide (((c::r).takeWhile q2f).length<=8):=by
 refine⟨?_,?_⟩
 ·simp only[tkW,q0r,hl,if_true,List.take_succ_cons,z5n,List.takeWhile_cons];exact q8k (fun _=>k2g) c hl r
 ·simp only[q5b,hl,if_true,List.takeWhile_cons,List.length_cons]
theorem y9y{c:UInt8}{r:List UInt8}(hl:q2f c=false)(hf:q4f c=true):tkW (c::r)=(c::r).takeWhile q4f/\q5b (c::r)=(decide (((c::r).takeWhile q4f).length<=6)&&(c != 48||(c::r).takeWhile q4f==[48])):=by
 refine⟨?_,?_⟩
 ·simp only[tkW,q0r,hl,hf,if_true,Bool.false_eq_true,if_false,List.take_succ_cons,z5n,List.takeWhile_cons];exact q8k (fun _=>k1g) c hf r
 ·simp only[q5b,hl,hf,if_true,Bool.false_eq_true,if_false,List.takeWhile_cons,List.length_cons]
  congr 1
  by_cases h:c=48
  ·subst h;cases A:r.takeWhile q4f with
   | nil=>rfl
   | cons a b=>
    simp
  ·have:(c != 48)=true:=by simp[h]
   rw[this];rfl
theorem v7b{p:UInt8->Bool}:∀l:List UInt8,(l.takeWhile p==l)=l.all p
 | []=>rfl
 | a::l=>by
  rw[List.takeWhile_cons,List.all_cons];cases h:p a with
  | true=>
   rw[if_pos rfl,<-v7b l];simp
  | false=>simp
theorem y5t{c:UInt8}{r:List UInt8}(hl:q2f c=false)(hf:q4f c=false)(hn:c=35):tkW (c::r)=q1d ((c::r).takeWhile nlB)/\q5b (c::r)=((q1d ((c::r).takeWhile nlB)).takeWhile prB==q1d ((c::r).takeWhile nlB)):=by
 subst hn;have B:(35::r:List UInt8).takeWhile nlB=35::r.takeWhile nlB:=by rw[List.takeWhile_cons];rfl
 refine⟨?_,?_⟩
 ·simp only[tkW,q0r,hl,hf,if_true,Bool.false_eq_true,if_false,List.take_succ_cons,z5n,beq_self_eq_true,B]
 ·rw[v7b,B];simp only[q5b,hl,hf,if_true,Bool.false_eq_true,if_false,beq_self_eq_true];obtain⟨z,G,A⟩:=z7a (35::r.takeWhile nlB)
  have C:(35::r.takeWhile nlB).all prB=((q1d (35::r.takeWhile nlB)).all prB&&z.all prB):=by
   rw[<-List.all_append,<-G]
  have D:z.all prB=true:=by
   rw[List.all_eq_true];intro x E;rw[A x E];decide
  rw[D,Bool.and_true,List.all_cons]at C;rw[<-C];rfl
theorem y5s{c:UInt8}{r:List UInt8}(hs:spB c=false)(hl:q2f c=false)(hf:q4f c=false)(hn:(c==35)=false):tkW (c::r)=[c]/\q5b (c::r)=y4o c:=by
 refine⟨?_,?_⟩
 ·simp only[tkW,q0r,hl,hf,hn,Bool.false_eq_true,if_false,List.take_succ_cons,List.take_zero];exact q1n [] (j1q hs)
 ·simp only[q5b,hl,hf,hn,Bool.false_eq_true,if_false]
theorem j6v:∀l:List UInt8,Lib.indexByte l 10=-1->l.takeWhile nlB=l
 | [],_=>rfl
 | b::l,h=>by
  unfold Lib.indexByte at h;have hge:=Lib.indexByte_ge l 10
  split at h
  ·cases h
  ·rename_i hb;have hb':nlB b=true:=by simpa[nlB]using hb
   split at h
   ·rename_i h1;rw[List.takeWhile_cons,if_pos hb',j6v l (by simpa using h1)]
   ·omega
theorem v8k:∀(l:List UInt8)(i:Nat),Lib.indexByte l 10=i->l.takeWhile nlB=l.take i/\i+1<=l.length
 | [],i,h=>by simp[Lib.indexByte]at h
 | b::l,i,h=>by
  unfold Lib.indexByte at h;have hge:=Lib.indexByte_ge l 10
  split at h
  ·rename_i hb
   have:i=0:=by omega
   subst this;have A:nlB b=false:=by simpa[nlB]using hb
   rw[List.takeWhile_cons,if_neg (by simp[A])];simp
  ·rename_i hb;have A:nlB b=true:=by simpa[nlB]using hb
   split at h
   ·omega
   ·rename_i h1;have C:Lib.indexByte l 10≠-1:=by simpa using h1
    obtain⟨j,rfl⟩:∃j,i=j+1:=⟨i-1,by omega⟩;obtain⟨B,D⟩:=v8k l j (by omega);rw[List.takeWhile_cons,if_pos A,B,List.take_succ_cons];exact⟨rfl,by simp;omega⟩
theorem v7v:∀(l:List UInt8)(c:UInt8),decide (0<=Lib.indexByte l c)=l.any (·==c)
 | [],c=>rfl
 | b::l,c=>by
  unfold Lib.indexByte;have hge:=Lib.indexByte_ge l c;have ih:=v7v l c;rw[List.any_cons,<-ih];cases hb:(b==c)with
  | true=>simp
  | false=>
   simp only[Bool.false_eq_true,if_false,Bool.false_or];by_cases h:Lib.indexByte l c=-1
   ·simp[h]
   ·have h2:(Lib.indexByte l c==-1)=false:=by simpa using h
    rw[h2];simp only[Bool.false_eq_true,if_false];rw[decide_eq_true (by omega),decide_eq_true (by omega)]
set_option maxHeartbeats 1000000
theorem k7t(t:ByteArray)(k:Nat):t.extract 0 k=wbS ((btL t).take k):=by
 rw[z5a,List.drop_zero,Nat.sub_zero]
theorem k7s(t:ByteArray)(k:Nat):btL (t.extract k t.size)=(btL t).drop k:=Lib.extract_to_end t k
def q8t(lo hi:Nat)(c:UInt8):Bool:=decide (lo<=c.toNat)&&decide (c.toNat<=hi)
theorem z3l(w:World)(v:Value)(t:TypeId):(w.alloc (.cells #[v] t)).cell? ⟨w,0,none⟩=some v:=by
 have h:(w.alloc (.cells #[v] t)).heap[w.heap.size]?=some (.cells #[v] t):=by
  show(w.heap.push (.cells #[v] t))[w.heap.size]?=_
  simp
 simp only[World.cell?,Option.isSome_none,Bool.false_eq_true,if_false,h];rfl
theorem j3l{w:World}{o:Obj}{b k:Nat}(h:b<w.heap.size):(w.alloc o).cell? ⟨b,k,none⟩=w.cell? ⟨b,k,none⟩:=by
 simp[World.cell?,Below.heap_alloc w o b h]
structure q3w(w:World)(a b lo hi:Nat):Prop where
 la:a<w.heap.size
 lb:b<w.heap.size
 ca:w.cell? ⟨a,0,none⟩=some (.int .u8 (lo:Int))
 cb:w.cell? ⟨b,0,none⟩=some (.int .u8 (hi:Int))
theorem q3w.W{w w':World}{a b lo hi:Nat}(h:q3w w a b lo hi)(hb:Below w w w'):q3w w' a b lo hi:=
 {la:=Nat.lt_of_lt_of_le h.la hb.size,lb:=Nat.lt_of_lt_of_le h.lb hb.size,ca:=(hb.cell (p:=⟨a,0,none⟩) h.la).trans h.ca,cb:=(hb.cell (p:=⟨b,0,none⟩) h.lb).trans h.cb}
abbrev y6e(a b:Nat):Value:=.func (.func 169) #[] #[.pointer (some ⟨a,0,none⟩),.pointer (some ⟨b,0,none⟩)]
theorem q4c(lo hi:Nat)(w:World):Calls prog 120 #[.int .u8 (lo:Int),.int .u8 (hi:Int)] w fun e w'=>(∃a b,e=.returned (y6e a b)/\q3w w' a b lo hi)/\Below w w w':=by
 go_in;go_wp2;go_ret;refine⟨⟨w.heap.size,w.heap.size+1,rfl,?_⟩,?_⟩
 ·refine{la:=?_,lb:=?_,ca:=?_,cb:=?_}
  ·rw[World.size_alloc,World.size_alloc];omega
  ·rw[World.size_alloc,World.size_alloc];omega
  ·rw[j3l (by rw[World.size_alloc];omega)];exact z3l w _ _
  ·have h:=z3l (w.alloc (.cells #[.int .u8 (lo:Int)] 5)) (.int .u8 (hi:Int)) 5;rw[World.size_alloc]at h;exact h
 ·exact((Below.refl w.heap.size w).alloc Zl _).alloc (by rw[World.size_alloc];omega) _
theorem q3e(c:UInt8){a b lo hi:Nat}{w:World}(h:q3w w a b lo hi):Calls prog 169 #[.int .u8 (c.toNat:Int),.pointer (some ⟨a,0,none⟩),.pointer (some ⟨b,0,none⟩)] w fun e w'=>e=.returned (.bool (q8t lo hi c))/\w=w':=by
 obtain⟨_,_,B,C⟩:=h;by_cases D:(lo:Int)<=(c.toNat:Int)
 ·by_cases E:(c.toNat:Int)<=(hi:Int)
  ·have A:Hid (q8t lo hi c=true):=by show q8t lo hi c=true;simp[q8t];omega
   go_in;go_wp2;go_ret;exact⟨by rw[A.o];rfl,rfl⟩
  ·have A:Hid (q8t lo hi c=false):=by show q8t lo hi c=false;simp[q8t];omega
   go_in;go_wp2;go_ret;exact⟨by rw[A.o];rfl,rfl⟩
 ·have A:Hid (q8t lo hi c=false):=by show q8t lo hi c=false;simp[q8t];omega
  go_in;go_wp2;go_ret;exact⟨by rw[A.o];rfl,rfl⟩
theorem k6l(t:ByteArray){a b lo hi:Nat}{w:World}(h:q3w w a b lo hi)(hs:t.size<=60000):
  Calls prog 121 #[.string t,y6e a b] w fun e w'=>e=.returned (.string (wbS ((btL t).takeWhile (q8t lo hi))))/\w=w':=by
 have H:Hid (q3w w a b lo hi):=h;clear h;go_in;go_wp2_with fail
 go_loopw [5] (fun n wr=>wr=w/\∃k:Nat,n=.int .i64 (k:Int)/\k<=t.size/\k+twN (q8t lo hi) t k=twN (q8t lo hi) t 0) (fun n _=>t.size-(intOf n).toNat)
 case atStart=>exact⟨rfl,0,rfl,Nat.zero_le _,by omega⟩
 case round=>
  obtain⟨rfl,k,rfl,N,C⟩:=hrel;have I:Hid (k+twN (q8t lo hi) t k=twN (q8t lo hi) t 0):=C;clear C
  have B:twN (q8t lo hi) t k=0->t.extract 0 k=wbS ((btL t).takeWhile (q8t lo hi)):=fun e1=>by
   have K:=I.o
   have L:((btL t).takeWhile (q8t lo hi)).length=k:=by
    rw[twN,twN,List.drop_zero]at K;rw[twN]at e1;omega
   rw[k7t,<-L,z5n]
  by_cases A:k<t.size
  ·have G:(k:Int)<(t.size:Int):=by omega
   cases D:q8t lo hi t[k]with
   | true=>
    have J:Hid (k+1+twN (q8t lo hi) t (k+1)=twN (q8t lo hi) t 0):=by
     show _=_
     have:=y4c A D
     have:=I.o
     omega
    go_wp2_with fail;refine(q3e t[k] H.o).mono ?_;rintro e M⟨rfl,rfl⟩;rw[D];go_wp2
    go_roundw
    case rel=>exact⟨by trivial,k+1,by go_num,by omega,J.o⟩
    case measure=>simp[intOf];omega
   | false=>
    have E:=hid (B (y8c A D));go_wp2_with fail;refine(q3e t[k] H.o).mono ?_;rintro e M⟨rfl,rfl⟩;rw[D];go_wp2;go_ret;exact⟨by rw[E.o];rfl,rfl⟩
  ·have G:¬(k:Int)<(t.size:Int):=by omega
   have E:=hid (B (y4b A));go_wp2;go_ret;exact⟨by rw[E.o];rfl,rfl⟩
def g0z:Value->Nat
 | .string u=>u.size
 | _=>0
theorem j2u(w:World)(n:Nat):Below w w (w.drewN n):=(Below.refl w.heap.size w).trans ⟨rfl,rfl,rfl,Nat.le_refl _,fun _ _=>rfl⟩
theorem z6g(u:ByteArray)(h:0<u.size):btL u=btL (u.extract 0 (u.size-1))++[u[u.size-1]]:=by
 have D:u.size-1<(btL u).length:=by rw[q0c];omega
 have B:btL (u.extract 0 (u.size-1))=(btL u).take (u.size-1):=by rw[k7t];rfl
 have A:=List.take_succ_eq_append_getElem D;have C:u.size-1+1=(btL u).length:=by rw[q0c];omega
 rw[C,List.take_length]at A;rw[B];exact A
theorem v0f(t:ByteArray)(w:World)(hs:t.size<=60000):
  Calls prog 171 #[.string t,.int .u8 32] w fun e w'=>e=.returned (.string (wbS (q1d (btL t))))/\w=w':=by
 go_in;go_wp2_with fail
 go_loopw [0] (fun x wr=>wr=w/\∃u:ByteArray,x=.string u/\u.size<=60000/\q1d (btL u)=q1d (btL t)) (fun x _=>g0z x)
 case atStart=>exact⟨rfl,t,rfl,hs,rfl⟩
 case round=>
  obtain⟨rfl,u,rfl,M,E⟩:=hrel;have G:Hid (q1d (btL u)=q1d (btL t)):=E;clear E;by_cases L:0<u.size
  ·have H:(0:Int)<(u.size:Int):=by omega
   have J:Hid (btL u=btL (u.extract 0 (u.size-1))++[u[u.size-1]]):=z6g u L;cases A:(u[u.size-1]==32)with
   | true=>
    have I:((u[u.size-1].toNat:Int)==32)=true:=by rw[show(32:Int)=((32:Nat):Int)from rfl,k3l _ 32 (by decide)];exact A
    have B:Hid (q1d (btL (u.extract 0 (u.size-1)))=q1d (btL t)):=by
     show _=_;rw[<-G.o,J.o,beq_iff_eq.1 A,z4t]
    have D:(u.extract 0 (u.size-1)).size=u.size-1:=by rw[ByteArray.size_extract];omega
    have C:=(show Hid (_=_)from D);clear A D;go_wp2;exact⟨⟨by trivial,_,rfl,by rw[C.o];omega,B.o⟩,by show(u.extract 0 (u.size-1)).size<u.size;rw[C.o];omega⟩
   | false=>
    have I:((u[u.size-1].toNat:Int)==32)=false:=by rw[show(32:Int)=((32:Nat):Int)from rfl,k3l _ 32 (by decide)];exact A
    have B:Hid (u=wbS (q1d (btL t))):=by
     show _=_;rw[<-G.o,J.o,q1n _ (by simpa using A),<-z6g u L];rfl
    clear A;go_wp2;go_ret;exact⟨by rw[<-B.o];rfl,rfl⟩
  ·have H:¬(0:Int)<(u.size:Int):=by omega
   have B:Hid (u=wbS (q1d (btL t))):=by
    show _=_;have K:btL u=[]:=List.eq_nil_of_length_eq_zero (by rw[q0c];omega);rw[<-G.o,K,v0g];show u=⟨#[]⟩;apply ByteArray.ext;exact Array.toList_inj.1 K
   go_wp2;go_ret;exact⟨by rw[<-B.o];rfl,rfl⟩
theorem v0h(t:ByteArray)(w:World)(h0:0<t.size)(hs:t.size<=60000):
  Calls prog 123 #[.string t,.string ⟨#[32]⟩] w fun e w'=>e=.returned (.string (wbS (q1d (btL t))))/\w=w':=by
 have A:(t.toList==[])=false:=by
  rw[Lib.toList_data]
  have:=(show t.data.toList.length=t.size from q0c t)
  cases h:t.data.toList with
  | nil=>rw[h]at this;simp at this;omega
  | cons a b=>rfl
 go_in;go_wp2_with fail;refine(v0f t _ hs).mono ?_;rintro e B⟨rfl,rfl⟩;go_wp2;go_ret;exact⟨rfl,rfl⟩
def k2b(t:ByteArray):ByteArray:=wbS ((btL t).takeWhile nlB)
theorem v5l(t:ByteArray)(w:World)(hs:t.size<=60000):
  Calls prog 122 #[.string t,.string ⟨#[10]⟩] w fun e w'=>(∃r b,e=.returned (.tuple #[.string (k2b t),.string r,.bool b]))/\Below w w w':=by
 have B:=Lib.indexByte_ge t.data.toList 10;by_cases D:Lib.indexByte t.data.toList 10=-1
 ·have A:Hid (t=k2b t):=by
   show t=wbS ((btL t).takeWhile nlB);rw[j6v _ D];rfl
  go_in;go_wp2_with(go_at_call 170;refine(j0c _ _ D).mono ?_;rintro e w'⟨rfl,n,rfl⟩);go_ret3;exact⟨⟨_,_,by rw[<-A.o];rfl⟩,j2u _ _⟩
 ·obtain⟨i,H⟩:∃i:Nat,Lib.indexByte t.data.toList 10=i:=⟨(Lib.indexByte t.data.toList 10).toNat,by omega⟩;obtain⟨E,G⟩:=v8k _ i H;have C:i+1<=t.size:=by rw[<-q0c];exact G
  have A:Hid (t.extract 0 i=k2b t):=by
   show t.extract 0 i=wbS ((btL t).takeWhile nlB);rw[k7t,E]
  clear E G B D;go_in;go_wp2_with(go_at_call 170;refine(j3x _ _ _ H C (by omega)).mono ?_;rintro e w'⟨rfl,n,rfl⟩);go_ret3;exact⟨⟨_,_,by rw[<-A.o];rfl⟩,j2u _ _⟩
abbrev g1z(a:Nat):Value:=.func (.func 118) #[] #[.pointer (some ⟨a,0,none⟩)]
def z0z(w:World)(a:Nat)(bs:ByteArray):Prop:=a<w.heap.size/\w.cell? ⟨a,0,none⟩=some (.string bs)
theorem z0z.W{B:Nat}{w w':World}{a:Nat}{bs:ByteArray}(h:z0z w a bs)(hB:a<B)(hb:Below B w w'):z0z w' a bs:=
 ⟨Nat.lt_of_lt_of_le h.1 hb.size,(hb.cell (p:=⟨a,0,none⟩) hB).trans h.2⟩
theorem k2v(bs:ByteArray)(w:World):Calls prog 76 #[.string bs] w fun e w'=>e=.returned (g1z w.heap.size)/\w'=w.alloc (.cells #[.string bs] 9):=by
 go_in;go_wp2;go_ret;exact⟨rfl,rfl⟩
theorem z0z.new(bs:ByteArray)(w:World):z0z (w.alloc (.cells #[.string bs] 9)) w.heap.size bs:=⟨by rw[World.size_alloc];omega,z3l w _ _⟩
theorem y3r(s:ByteArray)(c:Int)(w:World):
  Calls prog 119 #[.string s,.int .u8 c] w fun e w'=>e=.returned (.int .i64 (Lib.indexByte s.data.toList c.toNat.toUInt8))/\w'=w:=by
 go_in;go_wp2_with fail;refine(q6d _ _ _).mono ?_;rintro e A⟨rfl,rfl⟩;go_wp2;go_ret;exact⟨rfl,rfl⟩
theorem q8g(c:UInt8){a:Nat}{bs:ByteArray}{w:World}(h:z0z w a bs):Calls prog 118 #[.int .u8 (c.toNat:Int),.pointer (some ⟨a,0,none⟩)] w fun e w'=>e=.returned (.bool ((btL bs).any (·==c)))/\w=w':=by
 have E:=h.2;have A:=(show Hid (_=_)from v7v (btL bs) c);have D:(c.toNat:Int).toNat.toUInt8=c:=by simp
 go_in;go_wp2_with fail;refine(y3r bs _ _).mono ?_;rintro e G⟨rfl,rfl⟩;rw[D];generalize B:Lib.indexByte bs.data.toList c=z;have C:Hid (decide (0<=z)=(btL bs).any (·==c)):=by rw[<-B];exact A
 clear B A;go_wp2;go_ret;exact⟨by rw[<-C.o];rfl,rfl⟩
def Ln(B b:Nat)(l:List UInt8)(k:Bool)(w:World):Prop:=IsX 285 B b (Lib.byteCells l) [.bool k] w
theorem v8c:z0y 285 3:=by unfold z0y;kernel_rfl
theorem Ln.cell{B b:Nat}{l:List UInt8}{k:Bool}{w:World}(h:Ln B b l k w):w.cell? ⟨b,2,none⟩=some (.bool k):=IsX.cellR h 0
theorem Ln.frozen{B b:Nat}{l:List UInt8}{k:Bool}{w:World}(h:Ln B b l k w):w.frozen? ⟨b,2,none⟩=false:=IsX.frozen h 2
theorem Ln.stored{B b:Nat}{l:List UInt8}{k:Bool}{w:World}(h:Ln B b l k w)(k':Bool):Ln B b l k' (w.setCell ⟨b,2,none⟩ (.bool k')):=IsX.stored h 0 (.bool k')
theorem g0k{B b:Nat}{l:List UInt8}{k:Bool}{w:World}(h:Ln B b l k w)(hB:B<=w.heap.size)(c:UInt8)(z:Int)(hz:z=(c.toNat:Int))(hl:l.length<=1000000):
  Calls prog 45 #[.pointer (some ⟨b,0,none⟩),.int .u8 z] w fun e w'=>e=.returned .nilIface/\Ln B b (l++[c]) k w'/\q0p B b w w'/\Lib.OthersKept 5 (some b) w w':=by
 subst hz;refine(k3q 285 B b _ [.bool k] _ w v8c (by decide) h (by rw[Lib.byteCells_length];omega) hB).mono ?_;rintro e w'⟨rfl,A,C,D⟩;refine⟨rfl,?_,C,D⟩;rw[Ln,Lib.byteCells_append];exact A
theorem g1w{B b:Nat}{l:List UInt8}{k:Bool}{w:World}(h:Ln B b l k w)(hB:B<=w.heap.size)(s:ByteArray)(hl:l.length+s.size<=2000000):
  Calls prog 38 #[.pointer (some ⟨b,0,none⟩),.string s] w fun e w'=>(∃z,e=.returned (.tuple #[.int .i64 z,.nilIface]))/\Ln B b (l++s.data.toList) k w'/\q0p B b w w'/\Lib.OthersKept 5 (some b) w w':=by
 refine(q9h 285 B b _ [.bool k] s w v8c (by decide) h (by rw[Lib.byteCells_length];omega) hB).mono ?_;rintro e w'⟨rfl,A,C,D⟩;refine⟨⟨_,rfl⟩,?_,C,D⟩;rw[Ln,Lib.byteCells_append];exact A
def y4t(B b s:Nat)(r:List Nd)(l:List UInt8)(k:Bool)(w:World)(e:Ending)(w':World):Prop:=
 (∃a' cap',e=.returned (.slice a' r.length cap')/\q0z s w' a' r/\r.length<=cap')/\Ln B b l k w'/\q0p B b w w'/\Lib.OthersKept 5 (some b) w w'
def k0i(A:List Nd)(tA:List UInt8)(kA:Bool):Prop:=∀(B b s:Nat)(ds r:List Nd)(a:Option Addr)(cap:Nat)(l:List UInt8)(k:Bool)(w:World),ds=A++r->q0z s w a ds->s<B->s≠b->ds.length<=cap->Ln B b l k w->B<=w.heap.size->l.length+20*ds.length<=1000000->
  Calls prog 211 #[.pointer (some ⟨b,0,none⟩),.slice a ds.length cap] w (y4t B b s r (l++tA) (k||kA) w)
def k4a(B b s:Nat)(n0:Nat)(x:Nd)(r:List Nd)(l:List UInt8)(k:Bool)(w:World)(t p q:Value)(wx:World):Prop:=
 t=.pointer (some ⟨b,0,none⟩)/\p=.pointer (some ⟨n0,0,none⟩)/\(∃a' cap',q=.slice a' r.length cap'/\q0z s wx a' r/\r.length<=cap')/\wx.cell? ⟨n0,0,none⟩=some (.int .i64 x.op)/\wx.cell? ⟨n0,1,none⟩=some (.string x.tx)/\wx.cell? ⟨n0,2,none⟩=some (.int .i64 x.n)/\Ln B b l k wx/\q0p B b w wx/\Lib.OthersKept 5 (some b) w wx
theorem q0p.weak{B B' b x:Nat}{w w':World}(h:q0p B' x w w')(hB:B<=B')(hx:B<=x):q0p B b w w':=⟨h.os,h.tape,h.output,h.size,fun k hk _=>h.block k (by omega) (by omega)⟩
theorem v3v{e:TypeId}{b x:Nat}{w w3 w4:World}(h:Lib.OthersKept e (some b) w w3)(h':Lib.OthersKept e (some x) w3 w4)(hx:w.heap.size<=x):Lib.OthersKept e (some b) w w4:=by
 intro k o A C B;have D:k<w.heap.size:=(Array.getElem?_eq_some_iff.1 A).1;exact h' k o (h k o A C B) (fun e=>by cases e;omega) B
end Go.Proofs.YtfdppahhbpfnoaaGreatDoor
