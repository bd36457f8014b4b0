/- Texts as one: TreV, TreU, TreY. -/
import Derived.Test.YthjapabokcajhaaGreatDoorPi07
open Go.Proofs.Tryz
namespace Go.Proofs.YthjapabokcajhaaGreatDoor
open Go Go.RowKit
set_option maxRecDepth 100000
set_option maxHeartbeats 4000000
theorem j0c(s:ByteArray)(w:World):
  Calls prog 198 #[.string s,.string ⟨#[32]⟩] w fun e w'=>e=.returned (Lib.indexByte s.data.toList 32)/\w=w':=by
 go_in;go_wp2_with(go_at_call 168;refine(q6s _ _ _).mono ?_;rintro e w'⟨rfl,rfl⟩)
 ·have h:([32]==s.toList)=true:=by assumption
  go_ret;refine⟨?_,rfl⟩;have e:s.data.toList=[32]:=by rw[<-Lib.toList_data];exact(beq_iff_eq.1 h).symm
  rw[e];simp[Lib.indexByte]
 ·go_ret;exact⟨rfl,rfl⟩
theorem z0f(s:ByteArray)(w:World):
  Calls prog 214 #[.string s,.string ⟨#[32]⟩] w fun e w'=>e=.returned (Lib.indexByte s.data.toList 32)/\w=w':=by
 go_in;go_wp2_with fail;refine(j0c _ _).mono ?_;rintro e w2⟨rfl,rfl⟩;go_wp2;go_ret;exact⟨rfl,rfl⟩
theorem k9a(s:ByteArray)(N:Nat)(w:World)(hs:s.size<=140737488351232)(hN:N=min 61 (s.size+1)):
  Calls prog 190 #[.string s,.string ⟨#[32]⟩,.int .i64 0,.int .i64 61] w fun e w'=>
   e=.returned (.slice w.heap.size (spK (N-1) s).length N)/\w'=w.alloc (.cells (Lib.cellsOf (spK (N-1) s) N) 9):=by
 have eN':min (61:Int) ((s.size:Int)+1)=(N:Int):=by omega
 have hNs:(N:Int)<=(s.size:Int)+1:=by omega
 have hN1:(1:Int)<=(N:Int):=by omega
 have hN6:N<=61:=by omega
 clear hN;by_cases h61:(s.size:Int)+1<61
 ·have hzN:((N:Nat):Int)=(s.size:Int)+1:=by omega
  have hmk:=run_make_row' (P:=prog) 58 9 (.string ByteArray.empty) 16 Tryz.underlying58 z0v rfl .i64 .i64 N (by omega) (by omega);rw[hzN]at hmk;go_in;go_wp2_with fail;clear hmk eN'
  go_loopw [0,10] (fun s0 i wr=>∃(done:List ByteArray)(rest:ByteArray),s0=.string rest/\i=.int .i64 (done.length:Nat)/\done.length<=N-1/\rest.size<=s.size/\
    wr=w.alloc (.cells (Lib.cellsOf done N) 9)/\done++spK (N-1-done.length) rest=spK (N-1) s) (fun _ i _=>N-1-(intOf i).toNat)
  case atStart=>exact⟨[],s,rfl,rfl,Nat.zero_le _,Nat.le_refl _,by rw[Lib.cellsOf_nil],rfl⟩
  case round=>
   obtain⟨done,rest,rfl,rfl,hd,hrs,rfl,hsp⟩:=hrel;have hnext:(Lib.cellsOf done N)[done.length]?=some (.string ByteArray.empty):=Lib.cellsOf_next (by omega);have HS:Hid (done++spK (N-1-done.length) rest=spK (N-1) s):=hsp;clear hsp
   have fin:spK (N-1-done.length) rest=[rest]->(spK (N-1) s).length=done.length+1/\(Lib.cellsOf done N).setIfInBounds done.length (.string rest)=Lib.cellsOf (spK (N-1) s) N:=fun h=>by
    have e:=HS.o;rw[h]at e;rw[<-e];exact⟨by simp,Lib.cellsOf_set (by omega) rest⟩
   by_cases hlt:done.length<N-1
   ·have hltz:((done.length:Nat):Int)<(s.size:Int):=by omega
    rcases q8b rest with hix|⟨i,hix,hroom⟩
    ·obtain⟨f1,f2⟩:=fin (z0t _ hix);have F1:Hid ((spK (N-1) s).length=done.length+1):=f1;have F2:=(show Hid (_=_)from f2);clear f1 f2 fin;go_wp2_with fail;refine(z0f rest _).mono ?_;rintro e w2⟨rfl,rfl⟩;rw[hix];go_wp2;go_ret;rw[F1.o,<-F2.o];exact⟨by first|rfl|(congr 2<;>omega),rfl⟩
    ·have c0:¬((i:Int)<0):=by omega
     have c1:(0:Int)<=↑i:=by omega
     have c2:(↑i:Int)<=↑rest.size:=by omega
     have c3:(0:Int)<=↑i+1:=by omega
     have c4:(↑i+1:Int)<=↑rest.size:=by omega
     have HR:Hid (done++[rest.extract 0 i]++spK (N-1-(done.length+1)) (rest.extract (i+1) rest.size)=spK (N-1) s):=by
      show _=_;rw[<-HS.o,show N-1-done.length=(N-1-(done.length+1))+1 by omega,z4x _ hix];simp
     clear fin;go_wp2_with fail;refine(z0f rest _).mono ?_;rintro e w2⟨rfl,rfl⟩;rw[hix];go_wp2
     go_roundw
     case rel=>exact⟨done++[rest.extract 0 i],rest.extract (i+1) rest.size,rfl,by simp,by simp;omega,by rw[ByteArray.size_extract];omega,by rw[<-Lib.cellsOf_set (by omega)],by rw[List.length_append];exact HR.o⟩
     case measure=>simp[intOf];omega
   ·have hltz:¬(((done.length:Nat):Int)<(s.size:Int)):=by omega
    obtain⟨f1,f2⟩:=fin (by rw[show N-1-done.length=0 by omega];rfl);have F1:Hid ((spK (N-1) s).length=done.length+1):=f1;have F2:=(show Hid (_=_)from f2);clear f1 f2 fin;go_wp2;go_ret;rw[F1.o,<-F2.o];exact⟨by first|rfl|(congr 2<;>omega),rfl⟩
 ·have hzN:((N:Nat):Int)=61:=by omega
  have hmk:=run_make_row' (P:=prog) 58 9 (.string ByteArray.empty) 16 Tryz.underlying58 z0v rfl .i64 .i64 N (by omega) (by omega);rw[hzN]at hmk;go_in;go_wp2_with fail;clear hmk eN'
  go_loopw [0,10] (fun s0 i wr=>∃(done:List ByteArray)(rest:ByteArray),s0=.string rest/\i=.int .i64 (done.length:Nat)/\done.length<=N-1/\rest.size<=s.size/\
    wr=w.alloc (.cells (Lib.cellsOf done N) 9)/\done++spK (N-1-done.length) rest=spK (N-1) s) (fun _ i _=>N-1-(intOf i).toNat)
  case atStart=>exact⟨[],s,rfl,rfl,Nat.zero_le _,Nat.le_refl _,by rw[Lib.cellsOf_nil],rfl⟩
  case round=>
   obtain⟨done,rest,rfl,rfl,hd,hrs,rfl,hsp⟩:=hrel;have hnext:(Lib.cellsOf done N)[done.length]?=some (.string ByteArray.empty):=Lib.cellsOf_next (by omega);have HS:Hid (done++spK (N-1-done.length) rest=spK (N-1) s):=hsp;clear hsp
   have fin:spK (N-1-done.length) rest=[rest]->(spK (N-1) s).length=done.length+1/\(Lib.cellsOf done N).setIfInBounds done.length (.string rest)=Lib.cellsOf (spK (N-1) s) N:=fun h=>by
    have e:=HS.o;rw[h]at e;rw[<-e];exact⟨by simp,Lib.cellsOf_set (by omega) rest⟩
   by_cases hlt:done.length<N-1
   ·have hltz:((done.length:Nat):Int)<60:=by omega
    rcases q8b rest with hix|⟨i,hix,hroom⟩
    ·obtain⟨f1,f2⟩:=fin (z0t _ hix);have F1:Hid ((spK (N-1) s).length=done.length+1):=f1;have F2:=(show Hid (_=_)from f2);clear f1 f2 fin;go_wp2_with fail;refine(z0f rest _).mono ?_;rintro e w2⟨rfl,rfl⟩;rw[hix];go_wp2;go_ret;rw[F1.o,<-F2.o];exact⟨by first|rfl|(congr 2<;>omega),rfl⟩
    ·have c0:¬((i:Int)<0):=by omega
     have c1:(0:Int)<=↑i:=by omega
     have c2:(↑i:Int)<=↑rest.size:=by omega
     have c3:(0:Int)<=↑i+1:=by omega
     have c4:(↑i+1:Int)<=↑rest.size:=by omega
     have HR:Hid (done++[rest.extract 0 i]++spK (N-1-(done.length+1)) (rest.extract (i+1) rest.size)=spK (N-1) s):=by
      show _=_;rw[<-HS.o,show N-1-done.length=(N-1-(done.length+1))+1 by omega,z4x _ hix];simp
     clear fin;go_wp2_with fail;refine(z0f rest _).mono ?_;rintro e w2⟨rfl,rfl⟩;rw[hix];go_wp2
     go_roundw
     case rel=>exact⟨done++[rest.extract 0 i],rest.extract (i+1) rest.size,rfl,by simp,by simp;omega,by rw[ByteArray.size_extract];omega,by rw[<-Lib.cellsOf_set (by omega)],by rw[List.length_append];exact HR.o⟩
     case measure=>simp[intOf];omega
   ·have hltz:¬(((done.length:Nat):Int)<60):=by omega
    obtain⟨f1,f2⟩:=fin (by rw[show N-1-done.length=0 by omega];rfl);have F1:Hid ((spK (N-1) s).length=done.length+1):=f1;have F2:=(show Hid (_=_)from f2);clear f1 f2 fin;go_wp2;go_ret;rw[F1.o,<-F2.o];exact⟨by first|rfl|(congr 2<;>omega),rfl⟩
theorem j0i(s:ByteArray)(N:Nat)(w:World)(hs:s.size<=140737488351232)(hN:N=min 61 (s.size+1)):
  Calls prog 153 #[.string s,.string ⟨#[32]⟩,.int .i64 61] w fun e w'=>
   e=.returned (.slice w.heap.size (spK (N-1) s).length N)/\w'=w.alloc (.cells (Lib.cellsOf (spK (N-1) s) N) 9):=by
 have HN:Hid (N=min 61 (s.size+1)):=hN;clear hN;go_in;go_wp2_with fail;refine(k9a s N _ hs HN.o).mono ?_;rintro e w2⟨rfl,rfl⟩;go_wp2;go_ret;exact⟨rfl,rfl⟩
theorem v1n{ws:List ByteArray}{N i:Nat}(h:i<ws.length):(Lib.cellsOf ws N)[i]?=some (.string ws[i]):=by
 unfold Lib.cellsOf;rw[List.getElem?_toArray,List.getElem?_append_left (by rw[List.length_map];exact h),List.getElem?_map,List.getElem?_eq_getElem h];rfl
theorem j2o(w:World)(ws:List ByteArray)(N:Nat):Wds (w.alloc (.cells (Lib.cellsOf ws N) 9)) w.heap.size ws:=by
 intro i hi;refine⟨w.heap.size,0,rfl,by rw[World.size_alloc];omega,?_⟩
 have h:(w.alloc (.cells (Lib.cellsOf ws N) 9)).heap[w.heap.size]?=some (.cells (Lib.cellsOf ws N) 9):=by
  show(w.heap.push _)[w.heap.size]?=_
  simp
 simp only[World.cell?,Option.isSome_none,Bool.false_eq_true,if_false,h,Nat.zero_add];exact v1n hi
theorem q8t{t:ByteArray}(h0:0<(t.size:Int)):(t.toList==[])=false:=by
 rw[Lib.toList_data]
 have:=(show t.data.toList.length=t.size from q0c t)
 cases h:t.data.toList with
 | nil=>rw[h]at this;simp at this;omega
 | cons a b=>rfl
theorem q6g{t:ByteArray}(h0:¬0<(t.size:Int)):t=⟨#[]⟩:=by
 obtain⟨d⟩:=t
 have h1:d.size=0:=by
  have:(d.size:Int)=((⟨d⟩:ByteArray).size:Int):=rfl
  omega
 rw[Array.eq_empty_of_size_eq_zero h1]
theorem j0l(s:ByteArray)(w:World)(hs:s.size<=140737488351232):Calls prog 98 #[.string s] w fun e w'=>∃(A:Option Addr)(ws:List ByteArray)(c:Nat),e=.returned (.slice A ws.length c)/\Wds w' A ws/\q1d ws=q2u s/\Below w w w':=by
 by_cases h0:0<(s.size:Int)
 ·have h1:=q8t h0;have HN:Hid (q1d (spK (min 61 (s.size+1)-1) s)=q2u s):=v3m (by omega) _ (by omega);go_in;go_wp2_with fail;refine(j0i s _ _ hs rfl).mono ?_;rintro e w2⟨rfl,rfl⟩;generalize spK (min 61 (s.size+1)-1) s=ws at HN⊢;generalize min 61 (s.size+1)=N;go_wp2;go_ret;exact⟨_,ws,N,rfl,j2o w ws N,HN.o,Zb.alloc Zl _⟩
 ·have HZ:Hid (q2u s=0):=j7d (by omega);have e:=q6g h0;subst e;clear h0;go_in;go_wp2;go_ret;exact⟨none,[],0,rfl,fun i hi=>by simp at hi,by rw[HZ.o];rfl,Below.refl _ _⟩
theorem v7d{op:Int}{tx:ByteArray}{n:Int}(_h0:op<1):q0t ⟨op,tx,n⟩=1:=by
 unfold q0t
 (repeat' split)<;>first|rfl|(exfalso;omega)|(exfalso;simp_all;done)|(exfalso;simp_all<;>omega)|(simp_all;done)
theorem v7e{op:Int}{tx:ByteArray}{n:Int}(_h0:¬op<1)(_h1:9<op):q0t ⟨op,tx,n⟩=1:=by
 unfold q0t
 (repeat' split)<;>first|rfl|(exfalso;omega)|(exfalso;simp_all;done)|(exfalso;simp_all<;>omega)|(simp_all;done)
theorem v7f{tx:ByteArray}{n:Int}(_h0:n<0):q0t ⟨1,tx,n⟩=1:=by
 have ht:q2s 1=false:=rfl;unfold q0t
 (repeat' split)<;>first|rfl|(exfalso;omega)|(exfalso;simp_all;done)|(exfalso;simp_all<;>omega)|(simp_all;done)
theorem v7g{tx:ByteArray}{n:Int}(_h0:¬n<0)(_h1:999999<n):q0t ⟨1,tx,n⟩=1:=by
 have ht:q2s 1=false:=rfl;unfold q0t
 (repeat' split)<;>first|rfl|(exfalso;omega)|(exfalso;simp_all;done)|(exfalso;simp_all<;>omega)|(simp_all;done)
theorem v7h{tx:ByteArray}{n:Int}(_h0:¬n<0)(_h1:¬999999<n)(_h2:0<(tx.size:Int)):q0t ⟨1,tx,n⟩=2:=by
 have ht:q2s 1=false:=rfl;unfold q0t
 (repeat' split)<;>first|rfl|(exfalso;omega)|(exfalso;simp_all;done)|(exfalso;simp_all<;>omega)|(simp_all;done)
theorem v7i{tx:ByteArray}{n:Int}(_h0:¬n<0)(_h1:¬999999<n)(_h2:¬0<(tx.size:Int)):q0t ⟨1,tx,n⟩=0:=by
 have ht:q2s 1=false:=rfl;unfold q0t
 (repeat' split)<;>first|rfl|(exfalso;omega)|(exfalso;simp_all;done)|(exfalso;simp_all<;>omega)|(simp_all;done)
theorem v7j{tx:ByteArray}{n:Int}(_h0:¬n=0):q0t ⟨2,tx,n⟩=2:=by
 have ht:q2s 2=true:=rfl;unfold q0t
 (repeat' split)<;>first|rfl|(exfalso;omega)|(exfalso;simp_all;done)|(exfalso;simp_all<;>omega)|(simp_all;done)
theorem v7k{tx:ByteArray}{n:Int}(_h0:n=0)(_h1:q0o tx=true):q0t ⟨2,tx,n⟩=0:=by
 have ht:q2s 2=true:=rfl;unfold q0t
 (repeat' split)<;>first|rfl|(exfalso;omega)|(exfalso;simp_all;done)|(exfalso;simp_all<;>omega)|(simp_all;done)
theorem v7l{tx:ByteArray}{n:Int}(_h0:n=0)(_h1:q0o tx=false):q0t ⟨2,tx,n⟩=5:=by
 have ht:q2s 2=true:=rfl;unfold q0t
 (repeat' split)<;>first|rfl|(exfalso;omega)|(exfalso;simp_all;done)|(exfalso;simp_all<;>omega)|(simp_all;done)
theorem v7m{tx:ByteArray}{n:Int}(_h0:n<0):q0t ⟨3,tx,n⟩=1:=by
 have ht:q2s 3=true:=rfl;unfold q0t
 (repeat' split)<;>first|rfl|(exfalso;omega)|(exfalso;simp_all;done)|(exfalso;simp_all<;>omega)|(simp_all;done)
theorem j6c{tx:ByteArray}{n:Int}(_h0:¬n<0)(_h1:6<n):q0t ⟨3,tx,n⟩=1:=by
 have ht:q2s 3=true:=rfl;unfold q0t
 (repeat' split)<;>first|rfl|(exfalso;omega)|(exfalso;simp_all;done)|(exfalso;simp_all<;>omega)|(simp_all;done)
theorem j6d{tx:ByteArray}{n:Int}(_h0:¬n<0)(_h1:¬6<n)(_h2:q0o tx=true):q0t ⟨3,tx,n⟩=0:=by
 have ht:q2s 3=true:=rfl;unfold q0t
 (repeat' split)<;>first|rfl|(exfalso;omega)|(exfalso;simp_all;done)|(exfalso;simp_all<;>omega)|(simp_all;done)
theorem j6e{tx:ByteArray}{n:Int}(_h0:¬n<0)(_h1:¬6<n)(_h2:q0o tx=false):q0t ⟨3,tx,n⟩=5:=by
 have ht:q2s 3=true:=rfl;unfold q0t
 (repeat' split)<;>first|rfl|(exfalso;omega)|(exfalso;simp_all;done)|(exfalso;simp_all<;>omega)|(simp_all;done)
theorem j6f{tx:ByteArray}{n:Int}(_h0:n<0):q0t ⟨4,tx,n⟩=1:=by
 have ht:q2s 4=false:=rfl;unfold q0t
 (repeat' split)<;>first|rfl|(exfalso;omega)|(exfalso;simp_all;done)|(exfalso;simp_all<;>omega)|(simp_all;done)
theorem j6g{tx:ByteArray}{n:Int}(_h0:¬n<0)(_h1:6<n):q0t ⟨4,tx,n⟩=1:=by
 have ht:q2s 4=false:=rfl;unfold q0t
 (repeat' split)<;>first|rfl|(exfalso;omega)|(exfalso;simp_all;done)|(exfalso;simp_all<;>omega)|(simp_all;done)
theorem j6h{tx:ByteArray}{n:Int}(_h0:¬n<0)(_h1:¬6<n)(_h2:0<(tx.size:Int)):q0t ⟨4,tx,n⟩=2:=by
 have ht:q2s 4=false:=rfl;unfold q0t
 (repeat' split)<;>first|rfl|(exfalso;omega)|(exfalso;simp_all;done)|(exfalso;simp_all<;>omega)|(simp_all;done)
theorem j6i{tx:ByteArray}{n:Int}(_h0:¬n<0)(_h1:¬6<n)(_h2:¬0<(tx.size:Int)):q0t ⟨4,tx,n⟩=0:=by
 have ht:q2s 4=false:=rfl;unfold q0t
 (repeat' split)<;>first|rfl|(exfalso;omega)|(exfalso;simp_all;done)|(exfalso;simp_all<;>omega)|(simp_all;done)
theorem j6j{tx:ByteArray}{n:Int}(_h0:¬n=0):q0t ⟨5,tx,n⟩=2:=by
 have ht:q2s 5=false:=rfl;unfold q0t
 (repeat' split)<;>first|rfl|(exfalso;omega)|(exfalso;simp_all;done)|(exfalso;simp_all<;>omega)|(simp_all;done)
theorem j6k{tx:ByteArray}{n:Int}(_h0:n=0)(_h1:0<(tx.size:Int)):q0t ⟨5,tx,n⟩=2:=by
 have ht:q2s 5=false:=rfl;unfold q0t
 (repeat' split)<;>first|rfl|(exfalso;omega)|(exfalso;simp_all;done)|(exfalso;simp_all<;>omega)|(simp_all;done)
theorem j6l{tx:ByteArray}{n:Int}(_h0:n=0)(_h1:¬0<(tx.size:Int)):q0t ⟨5,tx,n⟩=0:=by
 have ht:q2s 5=false:=rfl;unfold q0t
 (repeat' split)<;>first|rfl|(exfalso;omega)|(exfalso;simp_all;done)|(exfalso;simp_all<;>omega)|(simp_all;done)
theorem j6m{tx:ByteArray}{n:Int}(_h0:¬n=0):q0t ⟨6,tx,n⟩=2:=by
 have ht:q2s 6=false:=rfl;unfold q0t
 (repeat' split)<;>first|rfl|(exfalso;omega)|(exfalso;simp_all;done)|(exfalso;simp_all<;>omega)|(simp_all;done)
theorem j6n{tx:ByteArray}{n:Int}(_h0:n=0)(_h1:0<(tx.size:Int)):q0t ⟨6,tx,n⟩=2:=by
 have ht:q2s 6=false:=rfl;unfold q0t
 (repeat' split)<;>first|rfl|(exfalso;omega)|(exfalso;simp_all;done)|(exfalso;simp_all<;>omega)|(simp_all;done)
theorem j6o{tx:ByteArray}{n:Int}(_h0:n=0)(_h1:¬0<(tx.size:Int)):q0t ⟨6,tx,n⟩=0:=by
 have ht:q2s 6=false:=rfl;unfold q0t
 (repeat' split)<;>first|rfl|(exfalso;omega)|(exfalso;simp_all;done)|(exfalso;simp_all<;>omega)|(simp_all;done)
theorem j6p{tx:ByteArray}{n:Int}(_h0:¬n=0):q0t ⟨7,tx,n⟩=2:=by
 have ht:q2s 7=true:=rfl;unfold q0t
 (repeat' split)<;>first|rfl|(exfalso;omega)|(exfalso;simp_all;done)|(exfalso;simp_all<;>omega)|(simp_all;done)
theorem j6q{tx:ByteArray}{n:Int}(_h0:n=0)(_h1:q0o tx=true):q0t ⟨7,tx,n⟩=0:=by
 have ht:q2s 7=true:=rfl;unfold q0t
 (repeat' split)<;>first|rfl|(exfalso;omega)|(exfalso;simp_all;done)|(exfalso;simp_all<;>omega)|(simp_all;done)
theorem j6r{tx:ByteArray}{n:Int}(_h0:n=0)(_h1:q0o tx=false):q0t ⟨7,tx,n⟩=5:=by
 have ht:q2s 7=true:=rfl;unfold q0t
 (repeat' split)<;>first|rfl|(exfalso;omega)|(exfalso;simp_all;done)|(exfalso;simp_all<;>omega)|(simp_all;done)
theorem j6s{tx:ByteArray}{n:Int}(_h0:¬n=0):q0t ⟨8,tx,n⟩=2:=by
 have ht:q2s 8=false:=rfl;unfold q0t
 (repeat' split)<;>first|rfl|(exfalso;omega)|(exfalso;simp_all;done)|(exfalso;simp_all<;>omega)|(simp_all;done)
theorem j6t{tx:ByteArray}{n:Int}(_h0:n=0)(_h1:0<(tx.size:Int)):q0t ⟨8,tx,n⟩=2:=by
 have ht:q2s 8=false:=rfl;unfold q0t
 (repeat' split)<;>first|rfl|(exfalso;omega)|(exfalso;simp_all;done)|(exfalso;simp_all<;>omega)|(simp_all;done)
theorem j6u{tx:ByteArray}{n:Int}(_h0:n=0)(_h1:¬0<(tx.size:Int)):q0t ⟨8,tx,n⟩=0:=by
 have ht:q2s 8=false:=rfl;unfold q0t
 (repeat' split)<;>first|rfl|(exfalso;omega)|(exfalso;simp_all;done)|(exfalso;simp_all<;>omega)|(simp_all;done)
theorem j6v{tx:ByteArray}{n:Int}(_h0:¬n=0):q0t ⟨9,tx,n⟩=2:=by
 have ht:q2s 9=true:=rfl;unfold q0t
 (repeat' split)<;>first|rfl|(exfalso;omega)|(exfalso;simp_all;done)|(exfalso;simp_all<;>omega)|(simp_all;done)
theorem j6w{tx:ByteArray}{n:Int}(_h0:n=0)(_h1:q2u tx=0):q0t ⟨9,tx,n⟩=0:=by
 have ht:q2s 9=true:=rfl;unfold q0t
 (repeat' split)<;>first|rfl|(exfalso;omega)|(exfalso;simp_all;done)|(exfalso;simp_all<;>omega)|(simp_all;done)
theorem j6x{tx:ByteArray}{n:Int}(_h0:n=0)(_h1:¬q2u tx=0):q0t ⟨9,tx,n⟩=q2u tx:=by
 have ht:q2s 9=true:=rfl;unfold q0t
 (repeat' split)<;>first|rfl|(exfalso;omega)|(exfalso;simp_all;done)|(exfalso;simp_all<;>omega)|(simp_all;done)
theorem z7g{ds:List Td}(h:40<ds.length):q0b ds=3:=by rw[q0b,if_pos h]
theorem z7h{ds:List Td}{k:Nat}(hl:ds.length<=40)(hk:k<ds.length)(ha:∀x∈ds.take k,q0t x=0)(h:q0t ds[k]≠0):q0b ds=q0t ds[k]:=by
 have e:=j4f ds k hk ha h;rw[q0b,if_neg (by omega),if_pos (by rw[e];exact h),e]
theorem z0z{ds:List Td}(hl:ds.length<=40)(ha:∀x∈ds,q0t x=0):q0b ds=if q3q ds 0 1=some ds.length/\k5b ds=true then 0 else 2:=by
 rw[q0b,if_neg (by omega),if_neg (by rw[k6i ds ha];simp)]
theorem z7f{ds:List Td}{k:Nat}(h:k<ds.length)(ha:∀x∈ds.take k,q0t x=0)(h0:q0t ds[k]=0):∀x∈ds.take (k+1),q0t x=0:=by
 intro x hx;rw[List.take_succ_eq_append_getElem h]at hx;rcases List.mem_append.1 hx with hx|hx
 ·exact ha x hx
 ·simp at hx;subst hx;exact h0
theorem k7s{ds:List Td}:k5b ds=true↔∀k(h:k<ds.length),decide (7<=ds[k].op)=decide (k=0):=by
 cases ds with
 | nil=>simp[k5b]
 | cons x r=>
  simp only[k5b,Bool.and_eq_true,decide_eq_true_eq,List.all_eq_true];constructor
  ·rintro⟨h1,h2⟩k hk;cases k with
   | zero=>simpa using h1
   | succ k=>
    have:=h2 (r[k]'(by simpa using hk)) (List.getElem_mem _)
    simp only[List.getElem_cons_succ,Nat.add_eq_zero_iff,Nat.one_ne_zero,and_false,decide_false,decide_eq_false_iff_not];omega
  ·intro h;have h0:=h 0 (by simp);simp only[List.getElem_cons_zero,decide_true,decide_eq_true_eq]at h0;refine⟨h0,fun y hy=>?_⟩;obtain⟨k,hk,rfl⟩:=List.getElem_of_mem hy
   have:=h (k+1) (by simpa using hk)
   simp at this;omega
set_option maxHeartbeats 8000000
theorem q3x(s:ByteArray)(w:World):Calls prog 100 #[.string s] w fun e w'=>e=.returned (.bool (q0o s))/\w=w':=by
 by_cases h1:(s.size:Int)<1
 ·have HE:Hid (q0o s=false):=z4k (by omega);go_in;go_wp2;go_ret;exact⟨by rw[HE.o];rfl,rfl⟩
 by_cases h2:8<(s.size:Int)
 ·have HE:Hid (q0o s=false):=z6x (by omega);go_in;go_wp2;go_ret;exact⟨by rw[HE.o];rfl,rfl⟩
 by_cases h3:s=⟨#[108,101,116]⟩
 ·subst h3;go_in;go_wp2;go_ret;exact⟨by rfl,rfl⟩
 have HL:Hid (¬s=⟨#[108,101,116]⟩):=h3
 have hnb:¬s.toList=[108,101,116]:=by
  rw[ByteArray.toList_eq];intro e;exact h3 (j4y.1 e)
 have hnc:(s.toList==[108,101,116])=false:=beq_false_of_ne hnb;clear h3;go_in;go_wp2_with fail
 go_loopw [18] (fun i wr=>wr=w/\∃k:Nat,k<=s.size/\i=.int .i64 k/\∀j(h:j<s.size),j<k->q2j s[j]=true) (fun i _=>s.size-(intOf i).toNat)
 case atStart=>exact⟨rfl,0,Nat.zero_le _,rfl,fun j _ hj=>by omega⟩
 case round=>
  obtain⟨rfl,k,hk,rfl,hall⟩:=hrel;have HA:Hid (∀j(h:j<s.size),j<k->q2j s[j]=true):=hall;clear hall;by_cases hlt:k<s.size
  ·cases hb:q2j s[k]with
   | false=>
    have HE:Hid (q0o s=false):=k1u hlt hb;by_cases hc:(s[k].toNat:Int)<97
    ·clear hb;go_wp2;go_ret;exact⟨by rw[HE.o];rfl,rfl⟩
    ·have hd:(122:Int)<(s[k].toNat:Int):=by
      simp[q2j]at hb;omega
     clear hb;go_wp2;go_ret;exact⟨by rw[HE.o];rfl,rfl⟩
   | true=>
    have HA':Hid (∀j(h:j<s.size),j<k+1->q2j s[j]=true):=fun j h hj=>by
     by_cases hjk:j=k
     ·subst hjk;exact hb
     ·exact HA.o j h (by omega)
    have hc:¬(s[k].toNat:Int)<97/\¬(122:Int)<(s[k].toNat:Int):=by
     simp[q2j]at hb;omega
    obtain⟨hc,hd⟩:=hc;clear hb;go_wp2
    go_roundw
    case rel=>exact⟨by trivial,k+1,by omega,by go_num,HA'.o⟩
    case measure=>simp[intOf];omega
  ·have HE:Hid (q0o s=true):=k1t (by omega) (by omega) HL.o fun j h=>HA.o j h (by omega)
   go_wp2;go_ret;exact⟨by rw[HE.o];rfl,rfl⟩
def grM(op:Int):Int:=if op=1 then 999999 else if op=3\/op=4 then 6 else 0
def grH(op:Int):Bool:=decide (op=1\/op=3\/op=4)
theorem q0g(op M:Int)(H:Bool)(hM:grM op=M)(hH:grH op=H)(w:World):Calls prog 96 #[op] w fun e w'=>e=.returned (.tuple #[M,.bool H])/\w=w':=by
 subst hM hH;by_cases h1:op=1
 ·subst h1;go_in;go_wp2;go_ret2;exact⟨rfl,rfl⟩
 by_cases h3:op=3
 ·subst h3;go_in;go_wp2;go_ret2;exact⟨rfl,rfl⟩
 by_cases h4:op=4
 ·subst h4;go_in;go_wp2;go_ret2;exact⟨rfl,rfl⟩
 have HM:Hid (grM op=0):=by show grM op=0;simp[grM,h1,h3,h4]
 have HH:Hid (grH op=false):=by show grH op=false;simp[grH,h1,h3,h4]
 have g1:(op==1)=false:=by simp[h1]
 have g3:(op==3)=false:=by simp[h3]
 have g4:(op==4)=false:=by simp[h4]
 clear h1 h3 h4;go_in;go_wp2;go_ret2;exact⟨by rw[HM.o,HH.o];rfl,rfl⟩
def y6x(op:Int):Bool:=op==2||op==3||op==7
theorem q0i(op:Int)(H:Bool)(hH:y6x op=H)(w:World):Calls prog 99 #[op] w fun e w'=>e=.returned (.bool H)/\w=w':=by
 subst hH;by_cases h2:op=2
 ·subst h2;go_in;go_wp2;go_ret;exact⟨rfl,rfl⟩
 by_cases h3:op=3
 ·subst h3;go_in;go_wp2;go_ret;exact⟨rfl,rfl⟩
 by_cases h7:op=7
 ·subst h7;go_in;go_wp2;go_ret;exact⟨rfl,rfl⟩
 have HH:Hid (y6x op=false):=by show y6x op=false;simp[y6x,h2,h3,h7]
 have g1:(op==2)=false:=by simp[h2]
 have g3:(op==3)=false:=by simp[h3]
 have g4:(op==7)=false:=by simp[h7]
 clear h2 h3 h7;go_in;go_wp2;go_ret;exact⟨by rw[HH.o];rfl,rfl⟩
def exB(op:Int):Bool:=decide (1<=op)&&decide (op<=6)
theorem z0w(op:Int)(w:World):Calls prog 101 #[op] w fun e w'=>e=.returned (.bool (exB op))/\w=w':=by
 by_cases h1:1<=op
 ·by_cases h6:op<=6
  ·have HH:Hid (exB op=true):=by show exB op=true;simp[exB,h1,h6]
   go_in;go_wp2;go_ret;exact⟨by rw[HH.o];rfl,rfl⟩
  ·have HH:Hid (exB op=false):=by show exB op=false;simp[exB,h6]
   go_in;go_wp2;go_ret;exact⟨by rw[HH.o];rfl,rfl⟩
 ·have HH:Hid (exB op=false):=by show exB op=false;simp[exB,h1]
  go_in;go_wp2;go_ret;exact⟨by rw[HH.o];rfl,rfl⟩
theorem k2m(x:Td)(w:World)(hs:x.tx.size<=140737488351232):Calls prog 66 #[tdV x] w fun e w'=>e=.returned (q1y (q0t x))/\Below w w w':=by
 obtain⟨op,tx,n⟩:=x;have hs:tx.size<=140737488351232:=hs;have hb:∀O:Obj,Below w w (w.alloc O):=fun O=>(Below.refl _ w).alloc Zl O
 by_cases h0:op<1
 ·have HE:Hid (q0t ⟨op,tx,n⟩=1):=v7d h0;have hg1:grM op=0:=by unfold grM;rw[if_neg (by omega),if_neg (by omega)]
  have hg2:grH op=false:=decide_eq_false (by omega);go_in;go_wp2_with fail;refine(q0g op 0 false hg1 hg2 _).mono ?_;rintro e w2⟨rfl,rfl⟩;go_wp2;go_ret;exact⟨by rw[HE.o];rfl,hb _⟩
 by_cases h1:9<op
 ·have HE:Hid (q0t ⟨op,tx,n⟩=1):=v7e h0 h1;have hg1:grM op=0:=by unfold grM;rw[if_neg (by omega),if_neg (by omega)]
  have hg2:grH op=false:=decide_eq_false (by omega);go_in;go_wp2_with fail;refine(q0g op 0 false hg1 hg2 _).mono ?_;rintro e w2⟨rfl,rfl⟩;go_wp2;go_ret;exact⟨by rw[HE.o];rfl,hb _⟩
 have hop:op=1\/op=2\/op=3\/op=4\/op=5\/op=6\/op=7\/op=8\/op=9:=by omega
 clear h0 h1;rcases hop with rfl|rfl|rfl|rfl|rfl|rfl|rfl|rfl|rfl
 ·by_cases h0:n<0
  ·have HE:Hid (q0t ⟨1,tx,n⟩=1):=v7f h0;go_in;go_wp2_with fail;refine(q0g 1 999999 true rfl rfl _).mono ?_;rintro e w2⟨rfl,rfl⟩;go_wp2;go_ret;exact⟨by rw[HE.o];rfl,hb _⟩
  ·by_cases h1:999999<n
   ·have HE:Hid (q0t ⟨1,tx,n⟩=1):=v7g h0 h1;go_in;go_wp2_with fail;refine(q0g 1 999999 true rfl rfl _).mono ?_;rintro e w2⟨rfl,rfl⟩;go_wp2;go_ret;exact⟨by rw[HE.o];rfl,hb _⟩
   ·by_cases h2:0<(tx.size:Int)
    ·have HE:Hid (q0t ⟨1,tx,n⟩=2):=v7h h0 h1 h2;have q1:=q8t h2;have q2:(tx.toList != [])=true:=by simp[bne,q1]
     go_in;go_wp2_with fail;refine(q0g 1 999999 true rfl rfl _).mono ?_;rintro e w2⟨rfl,rfl⟩;go_wp2_with fail;refine(q0i 1 false rfl _).mono ?_;rintro e w2⟨rfl,rfl⟩;go_wp2;go_ret;exact⟨by rw[HE.o];rfl,hb _⟩
    ·have HE:Hid (q0t ⟨1,tx,n⟩=0):=v7i h0 h1 h2;have e0:=q6g h2;subst e0;go_in;go_wp2_with fail;refine(q0g 1 999999 true rfl rfl _).mono ?_;rintro e w2⟨rfl,rfl⟩;go_wp2_with fail;refine(q0i 1 false rfl _).mono ?_;rintro e w2⟨rfl,rfl⟩;go_wp2_with fail;refine(q0i 1 false rfl _).mono ?_;rintro e w2⟨rfl,rfl⟩;go_wp2;go_ret;exact⟨by rw[HE.o];rfl,hb _⟩
 ·by_cases h0:n=0
  ·cases h1:q0o tx with
   | true=>
    have HE:Hid (q0t ⟨2,tx,n⟩=0):=v7k h0 h1;subst h0;have HM:Hid (q0o tx=true):=h1;clear h1;go_in;go_wp2_with fail;refine(q0g 2 0 false rfl rfl _).mono ?_;rintro e w2⟨rfl,rfl⟩;go_wp2_with fail;refine(q0i 2 true rfl _).mono ?_;rintro e w2⟨rfl,rfl⟩;go_wp2_with fail;refine(q0i 2 true rfl _).mono ?_;rintro e w2⟨rfl,rfl⟩;go_wp2_with fail;refine(q3x tx _).mono ?_;rintro e w2⟨rfl,rfl⟩;rw[HM.o];go_wp2;go_ret;exact⟨by rw[HE.o];rfl,hb _⟩
   | false=>
    have HE:Hid (q0t ⟨2,tx,n⟩=5):=v7l h0 h1;subst h0;have HM:Hid (q0o tx=false):=h1;clear h1;go_in;go_wp2_with fail;refine(q0g 2 0 false rfl rfl _).mono ?_;rintro e w2⟨rfl,rfl⟩;go_wp2_with fail;refine(q0i 2 true rfl _).mono ?_;rintro e w2⟨rfl,rfl⟩;go_wp2_with fail;refine(q0i 2 true rfl _).mono ?_;rintro e w2⟨rfl,rfl⟩;go_wp2_with fail;refine(q3x tx _).mono ?_;rintro e w2⟨rfl,rfl⟩;rw[HM.o];go_wp2;go_ret;exact⟨by rw[HE.o];rfl,hb _⟩
  ·have HE:Hid (q0t ⟨2,tx,n⟩=2):=v7j h0;have q3:(n==0)=false:=by simp[h0]
   have q4:(n != 0)=true:=by simp[h0]
   go_in;go_wp2_with fail;refine(q0g 2 0 false rfl rfl _).mono ?_;rintro e w2⟨rfl,rfl⟩;go_wp2;go_ret;exact⟨by rw[HE.o];rfl,hb _⟩
 ·by_cases h0:n<0
  ·have HE:Hid (q0t ⟨3,tx,n⟩=1):=v7m h0;go_in;go_wp2_with fail;refine(q0g 3 6 true rfl rfl _).mono ?_;rintro e w2⟨rfl,rfl⟩;go_wp2;go_ret;exact⟨by rw[HE.o];rfl,hb _⟩
  ·by_cases h1:6<n
   ·have HE:Hid (q0t ⟨3,tx,n⟩=1):=j6c h0 h1;go_in;go_wp2_with fail;refine(q0g 3 6 true rfl rfl _).mono ?_;rintro e w2⟨rfl,rfl⟩;go_wp2;go_ret;exact⟨by rw[HE.o];rfl,hb _⟩
   ·cases h2:q0o tx with
    | true=>
     have HE:Hid (q0t ⟨3,tx,n⟩=0):=j6d h0 h1 h2;have HM:Hid (q0o tx=true):=h2;clear h2;go_in;go_wp2_with fail;refine(q0g 3 6 true rfl rfl _).mono ?_;rintro e w2⟨rfl,rfl⟩;go_wp2_with fail;refine(q0i 3 true rfl _).mono ?_;rintro e w2⟨rfl,rfl⟩;go_wp2_with fail;refine(q0i 3 true rfl _).mono ?_;rintro e w2⟨rfl,rfl⟩;go_wp2_with fail;refine(q3x tx _).mono ?_;rintro e w2⟨rfl,rfl⟩;rw[HM.o];go_wp2;go_ret;exact⟨by rw[HE.o];rfl,hb _⟩
    | false=>
     have HE:Hid (q0t ⟨3,tx,n⟩=5):=j6e h0 h1 h2;have HM:Hid (q0o tx=false):=h2;clear h2;go_in;go_wp2_with fail;refine(q0g 3 6 true rfl rfl _).mono ?_;rintro e w2⟨rfl,rfl⟩;go_wp2_with fail;refine(q0i 3 true rfl _).mono ?_;rintro e w2⟨rfl,rfl⟩;go_wp2_with fail;refine(q0i 3 true rfl _).mono ?_;rintro e w2⟨rfl,rfl⟩;go_wp2_with fail;refine(q3x tx _).mono ?_;rintro e w2⟨rfl,rfl⟩;rw[HM.o];go_wp2;go_ret;exact⟨by rw[HE.o];rfl,hb _⟩
 ·by_cases h0:n<0
  ·have HE:Hid (q0t ⟨4,tx,n⟩=1):=j6f h0;go_in;go_wp2_with fail;refine(q0g 4 6 true rfl rfl _).mono ?_;rintro e w2⟨rfl,rfl⟩;go_wp2;go_ret;exact⟨by rw[HE.o];rfl,hb _⟩
  ·by_cases h1:6<n
   ·have HE:Hid (q0t ⟨4,tx,n⟩=1):=j6g h0 h1;go_in;go_wp2_with fail;refine(q0g 4 6 true rfl rfl _).mono ?_;rintro e w2⟨rfl,rfl⟩;go_wp2;go_ret;exact⟨by rw[HE.o];rfl,hb _⟩
   ·by_cases h2:0<(tx.size:Int)
    ·have HE:Hid (q0t ⟨4,tx,n⟩=2):=j6h h0 h1 h2;have q1:=q8t h2;have q2:(tx.toList != [])=true:=by simp[bne,q1]
     go_in;go_wp2_with fail;refine(q0g 4 6 true rfl rfl _).mono ?_;rintro e w2⟨rfl,rfl⟩;go_wp2_with fail;refine(q0i 4 false rfl _).mono ?_;rintro e w2⟨rfl,rfl⟩;go_wp2;go_ret;exact⟨by rw[HE.o];rfl,hb _⟩
    ·have HE:Hid (q0t ⟨4,tx,n⟩=0):=j6i h0 h1 h2;have e0:=q6g h2;subst e0;go_in;go_wp2_with fail;refine(q0g 4 6 true rfl rfl _).mono ?_;rintro e w2⟨rfl,rfl⟩;go_wp2_with fail;refine(q0i 4 false rfl _).mono ?_;rintro e w2⟨rfl,rfl⟩;go_wp2_with fail;refine(q0i 4 false rfl _).mono ?_;rintro e w2⟨rfl,rfl⟩;go_wp2;go_ret;exact⟨by rw[HE.o];rfl,hb _⟩
 ·by_cases h0:n=0
  ·by_cases h1:0<(tx.size:Int)
   ·have HE:Hid (q0t ⟨5,tx,n⟩=2):=j6k h0 h1;subst h0;have q1:=q8t h1;have q2:(tx.toList != [])=true:=by simp[bne,q1]
    go_in;go_wp2_with fail;refine(q0g 5 0 false rfl rfl _).mono ?_;rintro e w2⟨rfl,rfl⟩;go_wp2_with fail;refine(q0i 5 false rfl _).mono ?_;rintro e w2⟨rfl,rfl⟩;go_wp2;go_ret;exact⟨by rw[HE.o];rfl,hb _⟩
   ·have HE:Hid (q0t ⟨5,tx,n⟩=0):=j6l h0 h1;subst h0;have e0:=q6g h1;subst e0;go_in;go_wp2_with fail;refine(q0g 5 0 false rfl rfl _).mono ?_;rintro e w2⟨rfl,rfl⟩;go_wp2_with fail;refine(q0i 5 false rfl _).mono ?_;rintro e w2⟨rfl,rfl⟩;go_wp2_with fail;refine(q0i 5 false rfl _).mono ?_;rintro e w2⟨rfl,rfl⟩;go_wp2;go_ret;exact⟨by rw[HE.o];rfl,hb _⟩
  ·have HE:Hid (q0t ⟨5,tx,n⟩=2):=j6j h0;have q3:(n==0)=false:=by simp[h0]
   have q4:(n != 0)=true:=by simp[h0]
   go_in;go_wp2_with fail;refine(q0g 5 0 false rfl rfl _).mono ?_;rintro e w2⟨rfl,rfl⟩;go_wp2;go_ret;exact⟨by rw[HE.o];rfl,hb _⟩
 ·by_cases h0:n=0
  ·by_cases h1:0<(tx.size:Int)
   ·have HE:Hid (q0t ⟨6,tx,n⟩=2):=j6n h0 h1;subst h0;have q1:=q8t h1;have q2:(tx.toList != [])=true:=by simp[bne,q1]
    go_in;go_wp2_with fail;refine(q0g 6 0 false rfl rfl _).mono ?_;rintro e w2⟨rfl,rfl⟩;go_wp2_with fail;refine(q0i 6 false rfl _).mono ?_;rintro e w2⟨rfl,rfl⟩;go_wp2;go_ret;exact⟨by rw[HE.o];rfl,hb _⟩
   ·have HE:Hid (q0t ⟨6,tx,n⟩=0):=j6o h0 h1;subst h0;have e0:=q6g h1;subst e0;go_in;go_wp2_with fail;refine(q0g 6 0 false rfl rfl _).mono ?_;rintro e w2⟨rfl,rfl⟩;go_wp2_with fail;refine(q0i 6 false rfl _).mono ?_;rintro e w2⟨rfl,rfl⟩;go_wp2_with fail;refine(q0i 6 false rfl _).mono ?_;rintro e w2⟨rfl,rfl⟩;go_wp2;go_ret;exact⟨by rw[HE.o];rfl,hb _⟩
  ·have HE:Hid (q0t ⟨6,tx,n⟩=2):=j6m h0;have q3:(n==0)=false:=by simp[h0]
   have q4:(n != 0)=true:=by simp[h0]
   go_in;go_wp2_with fail;refine(q0g 6 0 false rfl rfl _).mono ?_;rintro e w2⟨rfl,rfl⟩;go_wp2;go_ret;exact⟨by rw[HE.o];rfl,hb _⟩
 ·by_cases h0:n=0
  ·cases h1:q0o tx with
   | true=>
    have HE:Hid (q0t ⟨7,tx,n⟩=0):=j6q h0 h1;subst h0;have HM:Hid (q0o tx=true):=h1;clear h1;go_in;go_wp2_with fail;refine(q0g 7 0 false rfl rfl _).mono ?_;rintro e w2⟨rfl,rfl⟩;go_wp2_with fail;refine(q0i 7 true rfl _).mono ?_;rintro e w2⟨rfl,rfl⟩;go_wp2_with fail;refine(q0i 7 true rfl _).mono ?_;rintro e w2⟨rfl,rfl⟩;go_wp2_with fail;refine(q3x tx _).mono ?_;rintro e w2⟨rfl,rfl⟩;rw[HM.o];go_wp2;go_ret;exact⟨by rw[HE.o];rfl,hb _⟩
   | false=>
    have HE:Hid (q0t ⟨7,tx,n⟩=5):=j6r h0 h1;subst h0;have HM:Hid (q0o tx=false):=h1;clear h1;go_in;go_wp2_with fail;refine(q0g 7 0 false rfl rfl _).mono ?_;rintro e w2⟨rfl,rfl⟩;go_wp2_with fail;refine(q0i 7 true rfl _).mono ?_;rintro e w2⟨rfl,rfl⟩;go_wp2_with fail;refine(q0i 7 true rfl _).mono ?_;rintro e w2⟨rfl,rfl⟩;go_wp2_with fail;refine(q3x tx _).mono ?_;rintro e w2⟨rfl,rfl⟩;rw[HM.o];go_wp2;go_ret;exact⟨by rw[HE.o];rfl,hb _⟩
  ·have HE:Hid (q0t ⟨7,tx,n⟩=2):=j6p h0;have q3:(n==0)=false:=by simp[h0]
   have q4:(n != 0)=true:=by simp[h0]
   go_in;go_wp2_with fail;refine(q0g 7 0 false rfl rfl _).mono ?_;rintro e w2⟨rfl,rfl⟩;go_wp2;go_ret;exact⟨by rw[HE.o];rfl,hb _⟩
 ·by_cases h0:n=0
  ·by_cases h1:0<(tx.size:Int)
   ·have HE:Hid (q0t ⟨8,tx,n⟩=2):=j6t h0 h1;subst h0;have q1:=q8t h1;have q2:(tx.toList != [])=true:=by simp[bne,q1]
    go_in;go_wp2_with fail;refine(q0g 8 0 false rfl rfl _).mono ?_;rintro e w2⟨rfl,rfl⟩;go_wp2_with fail;refine(q0i 8 false rfl _).mono ?_;rintro e w2⟨rfl,rfl⟩;go_wp2;go_ret;exact⟨by rw[HE.o];rfl,hb _⟩
   ·have HE:Hid (q0t ⟨8,tx,n⟩=0):=j6u h0 h1;subst h0;have e0:=q6g h1;subst e0;go_in;go_wp2_with fail;refine(q0g 8 0 false rfl rfl _).mono ?_;rintro e w2⟨rfl,rfl⟩;go_wp2_with fail;refine(q0i 8 false rfl _).mono ?_;rintro e w2⟨rfl,rfl⟩;go_wp2_with fail;refine(q0i 8 false rfl _).mono ?_;rintro e w2⟨rfl,rfl⟩;go_wp2;go_ret;exact⟨by rw[HE.o];rfl,hb _⟩
  ·have HE:Hid (q0t ⟨8,tx,n⟩=2):=j6s h0;have q3:(n==0)=false:=by simp[h0]
   have q4:(n != 0)=true:=by simp[h0]
   go_in;go_wp2_with fail;refine(q0g 8 0 false rfl rfl _).mono ?_;rintro e w2⟨rfl,rfl⟩;go_wp2;go_ret;exact⟨by rw[HE.o];rfl,hb _⟩
 ·by_cases h0:n=0
  ·have HE:Hid (q0t ⟨9,tx,n⟩=q2u tx):=by
    show _=_;by_cases h:q2u tx=0
    ·rw[j6w h0 h,h]
    ·exact j6x h0 h
   subst h0;go_in;go_wp2_with fail;refine(q0g 9 0 false rfl rfl _).mono ?_;rintro e w2⟨rfl,rfl⟩;go_wp2_with fail;refine(j0l tx _ hs).mono ?_;rintro e w2⟨A,ws,c,rfl,hW,hE,b2⟩;have B2:Below w w w2:=z6b Zb Zl b2;clear b2;go_wp2_with fail;refine(q6i ws A c _ hW).mono ?_;rintro e w3⟨rfl,rfl⟩;rw[hE,<-HE.o];go_wp2;go_ret;exact⟨rfl,B2⟩
  ·have HE:Hid (q0t ⟨9,tx,n⟩=2):=j6v h0;have q3:(n==0)=false:=by simp[h0]
   have q4:(n != 0)=true:=by simp[h0]
   go_in;go_wp2_with fail;refine(q0g 9 0 false rfl rfl _).mono ?_;rintro e w2⟨rfl,rfl⟩;go_wp2;go_ret;exact⟨by rw[HE.o];rfl,hb _⟩
end Go.Proofs.YthjapabokcajhaaGreatDoor
