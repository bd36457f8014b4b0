/- Texts as one: TreV, TreU. -/
import Derived.Test.YtchdplceopegoaaGreatDoorPs11
namespace Go.Proofs.YtchdplceopegoaaGreatDoor
open Go Go.RowKit
set_option maxRecDepth 100000
set_option maxHeartbeats 4000000
theorem k7f (s:ByteArray) (w:World) :
  Calls Tryz.prog 172 #[.string s,.string ⟨#[32]⟩] w fun e w'=>e = .returned (.int .i64 (Lib.indexByte s.data.toList 32))∧w=w':=by
 go_enter Tryz.func172,Tryz.ntmps172
 go_wp2_with (go_at_call 137;refine (q5n _ _ _).mono ?_;rintro e w' ⟨rfl,rfl⟩)
 ·have h:([32] == s.toList)=true:=by assumption
  go_ret
  refine ⟨?_,rfl⟩
  have e:s.data.toList=[32]:=by rw [←Lib.toList_data];exact (beq_iff_eq.1 h).symm
  rw [e]
  simp [Lib.indexByte]
 ·go_ret
  exact ⟨rfl,rfl⟩
theorem q9g (s:ByteArray) (w:World) :
  Calls Tryz.prog 215 #[.string s,.string ⟨#[32]⟩] w fun e w'=>e = .returned (.int .i64 (Lib.indexByte s.data.toList 32))∧w=w':=by
 go_enter Tryz.func215,Tryz.ntmps215
 go_wp2_with fail
 refine (k7f _ _).mono ?_
 rintro e w2 ⟨rfl,rfl⟩
 go_wp2
 go_ret
 exact ⟨rfl,rfl⟩
theorem k6m (s:ByteArray) (N:Nat) (w:World) (hs:s.size≤140737488351232) (hN:N=min 61 (s.size+1)) :
  Calls Tryz.prog 180 #[.string s,.string ⟨#[32]⟩,.int .i64 0,.int .i64 61] w fun e w'=>
   e = .returned (.slice (some ⟨w.heap.size,0,none⟩) (spK (N - 1) s).length N)∧w'=w.alloc (.cells (Lib.cellsOf (spK (N - 1) s) N) 9):=by
 have eN':min (61:Int) ((s.size:Int)+1)=(N:Int):=by omega
 have hNs:(N:Int)≤(s.size:Int)+1:=by omega
 have hN1:(1:Int)≤(N:Int):=by omega
 have hN6:N≤61:=by omega
 clear hN
 by_cases h61:(s.size:Int)+1<61
 ·have hzN:((N:Nat):Int)=(s.size:Int)+1:=by omega
  have hmk:=run_make_row' (P:=Tryz.prog) 51 9 (.string ByteArray.empty) 16 Tryz.underlying51 z5j rfl .i64 .i64 N (by omega) (by omega)
  rw [hzN] at hmk
  go_enter Tryz.func180,Tryz.ntmps180
  go_wp2_with fail
  clear hmk eN'
  go_loopw [0,10] (fun s0 i wr=>∃ (done:List ByteArray) (rest:ByteArray),s0 = .string rest∧i = .int .i64 (done.length:Nat)∧done.length≤N - 1∧rest.size≤s.size∧
    wr=w.alloc (.cells (Lib.cellsOf done N) 9)∧done++spK (N - 1 - done.length) rest=spK (N - 1) s) (fun _ i _=>N - 1 - (intOf i).toNat)
  case atStart=>exact ⟨[],s,rfl,rfl,Nat.zero_le _,Nat.le_refl _,by rw [Lib.cellsOf_nil],rfl⟩
  case round=>
   obtain ⟨done,rest,rfl,rfl,hd,hrs,rfl,hsp⟩:=hrel
   have hnext:(Lib.cellsOf done N)[done.length]? = some (.string ByteArray.empty):=Lib.cellsOf_next (by omega)
   have HS:Hid (done++spK (N - 1 - done.length) rest=spK (N - 1) s):=hsp
   clear hsp
   have fin:spK (N - 1 - done.length) rest=[rest]→(spK (N - 1) s).length=done.length+1∧(Lib.cellsOf done N).setIfInBounds done.length (.string rest)=Lib.cellsOf (spK (N - 1) s) N:=fun h=>by
    have e:=HS.out
    rw [h] at e
    rw [←e]
    exact ⟨by simp,Lib.cellsOf_set (by omega) rest⟩
   by_cases hlt:done.length<N - 1
   ·have hltz:((done.length:Nat):Int)<(s.size:Int):=by omega
    rcases q6t rest with hix | ⟨i,hix,hroom⟩
    ·obtain ⟨f1,f2⟩:=fin (q9w _ hix)
     have F1:Hid ((spK (N - 1) s).length=done.length+1):=f1
     have F2:=(show Hid (_=_) from f2)
     clear f1 f2 fin
     go_wp2_with fail
     refine (q9g rest _).mono ?_
     rintro e w2 ⟨rfl,rfl⟩
     rw [hix]
     go_wp2
     go_ret
     rw [F1.out,←F2.out]
     exact ⟨by first | rfl | (congr 2<;>omega),rfl⟩
    ·have c0:¬ ((i:Int)<0):=by omega
     have c1:(0:Int)≤↑i:=by omega
     have c2:(↑i:Int)≤↑rest.size:=by omega
     have c3:(0:Int)≤↑i+1:=by omega
     have c4:(↑i+1:Int)≤↑rest.size:=by omega
     have HR:Hid (done++[rest.extract 0 i]++spK (N - 1 - (done.length+1)) (rest.extract (i+1) rest.size)=spK (N - 1) s):=by
      show _=_
      rw [←HS.out,show N - 1 - done.length=(N - 1 - (done.length+1))+1 by omega,z3m _ hix]
      simp
     clear fin
     go_wp2_with fail
     refine (q9g rest _).mono ?_
     rintro e w2 ⟨rfl,rfl⟩
     rw [hix]
     go_wp2
     go_roundw
     case rel=>exact ⟨done++[rest.extract 0 i],rest.extract (i+1) rest.size,rfl,by simp,by simp;omega,by rw [ByteArray.size_extract];omega,by rw [←Lib.cellsOf_set (by omega)],by rw [List.length_append];exact HR.out⟩
     case measure=>simp [intOf];omega
   ·have hltz:¬ (((done.length:Nat):Int)<(s.size:Int)):=by omega
    obtain ⟨f1,f2⟩:=fin (by rw [show N - 1 - done.length=0 by omega];rfl)
    have F1:Hid ((spK (N - 1) s).length=done.length+1):=f1
    have F2:=(show Hid (_=_) from f2)
    clear f1 f2 fin
    go_wp2
    go_ret
    rw [F1.out,←F2.out]
    exact ⟨by first | rfl | (congr 2<;>omega),rfl⟩
 ·have hzN:((N:Nat):Int)=61:=by omega
  have hmk:=run_make_row' (P:=Tryz.prog) 51 9 (.string ByteArray.empty) 16 Tryz.underlying51 z5j rfl .i64 .i64 N (by omega) (by omega)
  rw [hzN] at hmk
  go_enter Tryz.func180,Tryz.ntmps180
  go_wp2_with fail
  clear hmk eN'
  go_loopw [0,10] (fun s0 i wr=>∃ (done:List ByteArray) (rest:ByteArray),s0 = .string rest∧i = .int .i64 (done.length:Nat)∧done.length≤N - 1∧rest.size≤s.size∧
    wr=w.alloc (.cells (Lib.cellsOf done N) 9)∧done++spK (N - 1 - done.length) rest=spK (N - 1) s) (fun _ i _=>N - 1 - (intOf i).toNat)
  case atStart=>exact ⟨[],s,rfl,rfl,Nat.zero_le _,Nat.le_refl _,by rw [Lib.cellsOf_nil],rfl⟩
  case round=>
   obtain ⟨done,rest,rfl,rfl,hd,hrs,rfl,hsp⟩:=hrel
   have hnext:(Lib.cellsOf done N)[done.length]? = some (.string ByteArray.empty):=Lib.cellsOf_next (by omega)
   have HS:Hid (done++spK (N - 1 - done.length) rest=spK (N - 1) s):=hsp
   clear hsp
   have fin:spK (N - 1 - done.length) rest=[rest]→(spK (N - 1) s).length=done.length+1∧(Lib.cellsOf done N).setIfInBounds done.length (.string rest)=Lib.cellsOf (spK (N - 1) s) N:=fun h=>by
    have e:=HS.out
    rw [h] at e
    rw [←e]
    exact ⟨by simp,Lib.cellsOf_set (by omega) rest⟩
   by_cases hlt:done.length<N - 1
   ·have hltz:((done.length:Nat):Int)<60:=by omega
    rcases q6t rest with hix | ⟨i,hix,hroom⟩
    ·obtain ⟨f1,f2⟩:=fin (q9w _ hix)
     have F1:Hid ((spK (N - 1) s).length=done.length+1):=f1
     have F2:=(show Hid (_=_) from f2)
     clear f1 f2 fin
     go_wp2_with fail
     refine (q9g rest _).mono ?_
     rintro e w2 ⟨rfl,rfl⟩
     rw [hix]
     go_wp2
     go_ret
     rw [F1.out,←F2.out]
     exact ⟨by first | rfl | (congr 2<;>omega),rfl⟩
    ·have c0:¬ ((i:Int)<0):=by omega
     have c1:(0:Int)≤↑i:=by omega
     have c2:(↑i:Int)≤↑rest.size:=by omega
     have c3:(0:Int)≤↑i+1:=by omega
     have c4:(↑i+1:Int)≤↑rest.size:=by omega
     have HR:Hid (done++[rest.extract 0 i]++spK (N - 1 - (done.length+1)) (rest.extract (i+1) rest.size)=spK (N - 1) s):=by
      show _=_
      rw [←HS.out,show N - 1 - done.length=(N - 1 - (done.length+1))+1 by omega,z3m _ hix]
      simp
     clear fin
     go_wp2_with fail
     refine (q9g rest _).mono ?_
     rintro e w2 ⟨rfl,rfl⟩
     rw [hix]
     go_wp2
     go_roundw
     case rel=>exact ⟨done++[rest.extract 0 i],rest.extract (i+1) rest.size,rfl,by simp,by simp;omega,by rw [ByteArray.size_extract];omega,by rw [←Lib.cellsOf_set (by omega)],by rw [List.length_append];exact HR.out⟩
     case measure=>simp [intOf];omega
   ·have hltz:¬ (((done.length:Nat):Int)<60):=by omega
    obtain ⟨f1,f2⟩:=fin (by rw [show N - 1 - done.length=0 by omega];rfl)
    have F1:Hid ((spK (N - 1) s).length=done.length+1):=f1
    have F2:=(show Hid (_=_) from f2)
    clear f1 f2 fin
    go_wp2
    go_ret
    rw [F1.out,←F2.out]
    exact ⟨by first | rfl | (congr 2<;>omega),rfl⟩
theorem k7h (s:ByteArray) (N:Nat) (w:World) (hs:s.size≤140737488351232) (hN:N=min 61 (s.size+1)) :
  Calls Tryz.prog 151 #[.string s,.string ⟨#[32]⟩,.int .i64 61] w fun e w'=>
   e = .returned (.slice (some ⟨w.heap.size,0,none⟩) (spK (N - 1) s).length N)∧w'=w.alloc (.cells (Lib.cellsOf (spK (N - 1) s) N) 9):=by
 have HN:Hid (N=min 61 (s.size+1)):=hN
 clear hN
 go_enter Tryz.func151,Tryz.ntmps151
 go_wp2_with fail
 refine (k6m s N _ hs HN.out).mono ?_
 rintro e w2 ⟨rfl,rfl⟩
 go_wp2
 go_ret
 exact ⟨rfl,rfl⟩
theorem j7x {ws:List ByteArray} {N i:Nat} (h:i<ws.length):(Lib.cellsOf ws N)[i]? = some (.string ws[i]):=by
 unfold Lib.cellsOf
 rw [List.getElem?_toArray,List.getElem?_append_left (by rw [List.length_map];exact h),List.getElem?_map,List.getElem?_eq_getElem h]
 rfl
theorem k9m (w:World) (ws:List ByteArray) (N:Nat):Wds (w.alloc (.cells (Lib.cellsOf ws N) 9)) (some ⟨w.heap.size,0,none⟩) ws:=by
 intro i hi
 refine ⟨w.heap.size,0,rfl,by rw [World.size_alloc];omega,?_⟩
 have h:(w.alloc (.cells (Lib.cellsOf ws N) 9)).heap[w.heap.size]? = some (.cells (Lib.cellsOf ws N) 9):=by
  show (w.heap.push _)[w.heap.size]? = _
  simp
 simp only [World.cell?,Option.isSome_none,Bool.false_eq_true,if_false,h,Nat.zero_add]
 exact j7x hi
theorem q7q {t:ByteArray} (h0:0<(t.size:Int)):(t.toList == [])=false:=by
 rw [Lib.toList_data]
 have:=(show t.data.toList.length=t.size from q0b t)
 cases h:t.data.toList with
 | nil=>rw [h] at this;simp at this;omega
 | cons a b=>rfl
theorem q5d {t:ByteArray} (h0:¬ 0<(t.size:Int)):t=⟨#[]⟩:=by
 obtain ⟨d⟩:=t
 have h1:d.size=0:=by
  have:(d.size:Int)=((⟨d⟩:ByteArray).size:Int):=rfl
  omega
 rw [Array.eq_empty_of_size_eq_zero h1]
theorem k7k (s:ByteArray) (w:World) (hs:s.size≤140737488351232):Calls Tryz.prog 112 #[.string s] w fun e w'=>∃ (A:Option Addr) (ws:List ByteArray) (c:Nat),e = .returned (.slice A ws.length c)∧Wds w' A ws∧q1e ws=q2u s∧Below w.heap.size w w':=by
 by_cases h0:0<(s.size:Int)
 ·have h1:=q7q h0
  have HN:Hid (q1e (spK (min 61 (s.size+1) - 1) s)=q2u s):=j9y (by omega) _ (by omega)
  go_enter Tryz.func112,Tryz.ntmps112
  go_wp2_with fail
  refine (k7h s _ _ hs rfl).mono ?_
  rintro e w2 ⟨rfl,rfl⟩
  generalize spK (min 61 (s.size+1) - 1) s=ws at HN ⊢
  generalize min 61 (s.size+1)=N
  go_wp2
  go_ret
  exact ⟨_,ws,N,rfl,k9m w ws N,HN.out,(Below.refl _ _).alloc (Nat.le_refl _) _⟩
 ·have HZ:Hid (q2u s=0):=j3e (by omega)
  have e:=q5d h0
  subst e
  clear h0
  go_enter Tryz.func112,Tryz.ntmps112
  go_wp2
  go_ret
  exact ⟨none,[],0,rfl,fun i hi=>by simp at hi,by rw [HZ.out];rfl,Below.refl _ _⟩
theorem y1w {op:Int} {tx:ByteArray} {n:Int} (_h0:op<1):q0n ⟨op,tx,n⟩=1:=by
 unfold q0n
 (repeat' split)<;>first | rfl | (exfalso;omega) | (exfalso;simp_all;done) | (exfalso;simp_all<;>omega) | (simp_all;done)
theorem y1x {op:Int} {tx:ByteArray} {n:Int} (_h0:¬ op<1) (_h1:9<op):q0n ⟨op,tx,n⟩=1:=by
 unfold q0n
 (repeat' split)<;>first | rfl | (exfalso;omega) | (exfalso;simp_all;done) | (exfalso;simp_all<;>omega) | (simp_all;done)
theorem y1y {tx:ByteArray} {n:Int} (_h0:n<0):q0n ⟨1,tx,n⟩=1:=by
 have ht:q2b 1=false:=rfl
 unfold q0n
 (repeat' split)<;>first | rfl | (exfalso;omega) | (exfalso;simp_all;done) | (exfalso;simp_all<;>omega) | (simp_all;done)
theorem y1z {tx:ByteArray} {n:Int} (_h0:¬ n<0) (_h1:999999<n):q0n ⟨1,tx,n⟩=1:=by
 have ht:q2b 1=false:=rfl
 unfold q0n
 (repeat' split)<;>first | rfl | (exfalso;omega) | (exfalso;simp_all;done) | (exfalso;simp_all<;>omega) | (simp_all;done)
theorem y2a {tx:ByteArray} {n:Int} (_h0:¬ n<0) (_h1:¬ 999999<n) (_h2:0<(tx.size:Int)):q0n ⟨1,tx,n⟩=2:=by
 have ht:q2b 1=false:=rfl
 unfold q0n
 (repeat' split)<;>first | rfl | (exfalso;omega) | (exfalso;simp_all;done) | (exfalso;simp_all<;>omega) | (simp_all;done)
theorem y2b {tx:ByteArray} {n:Int} (_h0:¬ n<0) (_h1:¬ 999999<n) (_h2:¬ 0<(tx.size:Int)):q0n ⟨1,tx,n⟩=0:=by
 have ht:q2b 1=false:=rfl
 unfold q0n
 (repeat' split)<;>first | rfl | (exfalso;omega) | (exfalso;simp_all;done) | (exfalso;simp_all<;>omega) | (simp_all;done)
theorem y2c {tx:ByteArray} {n:Int} (_h0:¬ n=0):q0n ⟨2,tx,n⟩=2:=by
 have ht:q2b 2=true:=rfl
 unfold q0n
 (repeat' split)<;>first | rfl | (exfalso;omega) | (exfalso;simp_all;done) | (exfalso;simp_all<;>omega) | (simp_all;done)
theorem y2d {tx:ByteArray} {n:Int} (_h0:n=0) (_h1:q0x tx=true):q0n ⟨2,tx,n⟩=0:=by
 have ht:q2b 2=true:=rfl
 unfold q0n
 (repeat' split)<;>first | rfl | (exfalso;omega) | (exfalso;simp_all;done) | (exfalso;simp_all<;>omega) | (simp_all;done)
theorem y2e {tx:ByteArray} {n:Int} (_h0:n=0) (_h1:q0x tx=false):q0n ⟨2,tx,n⟩=5:=by
 have ht:q2b 2=true:=rfl
 unfold q0n
 (repeat' split)<;>first | rfl | (exfalso;omega) | (exfalso;simp_all;done) | (exfalso;simp_all<;>omega) | (simp_all;done)
theorem y2f {tx:ByteArray} {n:Int} (_h0:n<0):q0n ⟨3,tx,n⟩=1:=by
 have ht:q2b 3=true:=rfl
 unfold q0n
 (repeat' split)<;>first | rfl | (exfalso;omega) | (exfalso;simp_all;done) | (exfalso;simp_all<;>omega) | (simp_all;done)
theorem v7m {tx:ByteArray} {n:Int} (_h0:¬ n<0) (_h1:6<n):q0n ⟨3,tx,n⟩=1:=by
 have ht:q2b 3=true:=rfl
 unfold q0n
 (repeat' split)<;>first | rfl | (exfalso;omega) | (exfalso;simp_all;done) | (exfalso;simp_all<;>omega) | (simp_all;done)
theorem v7n {tx:ByteArray} {n:Int} (_h0:¬ n<0) (_h1:¬ 6<n) (_h2:q0x tx=true):q0n ⟨3,tx,n⟩=0:=by
 have ht:q2b 3=true:=rfl
 unfold q0n
 (repeat' split)<;>first | rfl | (exfalso;omega) | (exfalso;simp_all;done) | (exfalso;simp_all<;>omega) | (simp_all;done)
theorem v7o {tx:ByteArray} {n:Int} (_h0:¬ n<0) (_h1:¬ 6<n) (_h2:q0x tx=false):q0n ⟨3,tx,n⟩=5:=by
 have ht:q2b 3=true:=rfl
 unfold q0n
 (repeat' split)<;>first | rfl | (exfalso;omega) | (exfalso;simp_all;done) | (exfalso;simp_all<;>omega) | (simp_all;done)
theorem v7p {tx:ByteArray} {n:Int} (_h0:n<0):q0n ⟨4,tx,n⟩=1:=by
 have ht:q2b 4=false:=rfl
 unfold q0n
 (repeat' split)<;>first | rfl | (exfalso;omega) | (exfalso;simp_all;done) | (exfalso;simp_all<;>omega) | (simp_all;done)
theorem v7q {tx:ByteArray} {n:Int} (_h0:¬ n<0) (_h1:6<n):q0n ⟨4,tx,n⟩=1:=by
 have ht:q2b 4=false:=rfl
 unfold q0n
 (repeat' split)<;>first | rfl | (exfalso;omega) | (exfalso;simp_all;done) | (exfalso;simp_all<;>omega) | (simp_all;done)
theorem v7r {tx:ByteArray} {n:Int} (_h0:¬ n<0) (_h1:¬ 6<n) (_h2:0<(tx.size:Int)):q0n ⟨4,tx,n⟩=2:=by
 have ht:q2b 4=false:=rfl
 unfold q0n
 (repeat' split)<;>first | rfl | (exfalso;omega) | (exfalso;simp_all;done) | (exfalso;simp_all<;>omega) | (simp_all;done)
theorem v7s {tx:ByteArray} {n:Int} (_h0:¬ n<0) (_h1:¬ 6<n) (_h2:¬ 0<(tx.size:Int)):q0n ⟨4,tx,n⟩=0:=by
 have ht:q2b 4=false:=rfl
 unfold q0n
 (repeat' split)<;>first | rfl | (exfalso;omega) | (exfalso;simp_all;done) | (exfalso;simp_all<;>omega) | (simp_all;done)
theorem v7t {tx:ByteArray} {n:Int} (_h0:¬ n=0):q0n ⟨5,tx,n⟩=2:=by
 have ht:q2b 5=false:=rfl
 unfold q0n
 (repeat' split)<;>first | rfl | (exfalso;omega) | (exfalso;simp_all;done) | (exfalso;simp_all<;>omega) | (simp_all;done)
theorem v7u {tx:ByteArray} {n:Int} (_h0:n=0) (_h1:0<(tx.size:Int)):q0n ⟨5,tx,n⟩=2:=by
 have ht:q2b 5=false:=rfl
 unfold q0n
 (repeat' split)<;>first | rfl | (exfalso;omega) | (exfalso;simp_all;done) | (exfalso;simp_all<;>omega) | (simp_all;done)
theorem v7v {tx:ByteArray} {n:Int} (_h0:n=0) (_h1:¬ 0<(tx.size:Int)):q0n ⟨5,tx,n⟩=0:=by
 have ht:q2b 5=false:=rfl
 unfold q0n
 (repeat' split)<;>first | rfl | (exfalso;omega) | (exfalso;simp_all;done) | (exfalso;simp_all<;>omega) | (simp_all;done)
theorem v7w {tx:ByteArray} {n:Int} (_h0:¬ n=0):q0n ⟨6,tx,n⟩=2:=by
 have ht:q2b 6=false:=rfl
 unfold q0n
 (repeat' split)<;>first | rfl | (exfalso;omega) | (exfalso;simp_all;done) | (exfalso;simp_all<;>omega) | (simp_all;done)
theorem v7x {tx:ByteArray} {n:Int} (_h0:n=0) (_h1:0<(tx.size:Int)):q0n ⟨6,tx,n⟩=2:=by
 have ht:q2b 6=false:=rfl
 unfold q0n
 (repeat' split)<;>first | rfl | (exfalso;omega) | (exfalso;simp_all;done) | (exfalso;simp_all<;>omega) | (simp_all;done)
theorem v7y {tx:ByteArray} {n:Int} (_h0:n=0) (_h1:¬ 0<(tx.size:Int)):q0n ⟨6,tx,n⟩=0:=by
 have ht:q2b 6=false:=rfl
 unfold q0n
 (repeat' split)<;>first | rfl | (exfalso;omega) | (exfalso;simp_all;done) | (exfalso;simp_all<;>omega) | (simp_all;done)
theorem v7z {tx:ByteArray} {n:Int} (_h0:¬ n=0):q0n ⟨7,tx,n⟩=2:=by
 have ht:q2b 7=true:=rfl
 unfold q0n
 (repeat' split)<;>first | rfl | (exfalso;omega) | (exfalso;simp_all;done) | (exfalso;simp_all<;>omega) | (simp_all;done)
theorem v8a {tx:ByteArray} {n:Int} (_h0:n=0) (_h1:q0x tx=true):q0n ⟨7,tx,n⟩=0:=by
 have ht:q2b 7=true:=rfl
 unfold q0n
 (repeat' split)<;>first | rfl | (exfalso;omega) | (exfalso;simp_all;done) | (exfalso;simp_all<;>omega) | (simp_all;done)
theorem v8b {tx:ByteArray} {n:Int} (_h0:n=0) (_h1:q0x tx=false):q0n ⟨7,tx,n⟩=5:=by
 have ht:q2b 7=true:=rfl
 unfold q0n
 (repeat' split)<;>first | rfl | (exfalso;omega) | (exfalso;simp_all;done) | (exfalso;simp_all<;>omega) | (simp_all;done)
theorem v8c {tx:ByteArray} {n:Int} (_h0:¬ n=0):q0n ⟨8,tx,n⟩=2:=by
 have ht:q2b 8=false:=rfl
 unfold q0n
 (repeat' split)<;>first | rfl | (exfalso;omega) | (exfalso;simp_all;done) | (exfalso;simp_all<;>omega) | (simp_all;done)
theorem v8d {tx:ByteArray} {n:Int} (_h0:n=0) (_h1:0<(tx.size:Int)):q0n ⟨8,tx,n⟩=2:=by
 have ht:q2b 8=false:=rfl
 unfold q0n
 (repeat' split)<;>first | rfl | (exfalso;omega) | (exfalso;simp_all;done) | (exfalso;simp_all<;>omega) | (simp_all;done)
theorem v8e {tx:ByteArray} {n:Int} (_h0:n=0) (_h1:¬ 0<(tx.size:Int)):q0n ⟨8,tx,n⟩=0:=by
 have ht:q2b 8=false:=rfl
 unfold q0n
 (repeat' split)<;>first | rfl | (exfalso;omega) | (exfalso;simp_all;done) | (exfalso;simp_all<;>omega) | (simp_all;done)
theorem v8f {tx:ByteArray} {n:Int} (_h0:¬ n=0):q0n ⟨9,tx,n⟩=2:=by
 have ht:q2b 9=true:=rfl
 unfold q0n
 (repeat' split)<;>first | rfl | (exfalso;omega) | (exfalso;simp_all;done) | (exfalso;simp_all<;>omega) | (simp_all;done)
theorem v8g {tx:ByteArray} {n:Int} (_h0:n=0) (_h1:q2u tx=0):q0n ⟨9,tx,n⟩=0:=by
 have ht:q2b 9=true:=rfl
 unfold q0n
 (repeat' split)<;>first | rfl | (exfalso;omega) | (exfalso;simp_all;done) | (exfalso;simp_all<;>omega) | (simp_all;done)
theorem v8h {tx:ByteArray} {n:Int} (_h0:n=0) (_h1:¬ q2u tx=0):q0n ⟨9,tx,n⟩=q2u tx:=by
 have ht:q2b 9=true:=rfl
 unfold q0n
 (repeat' split)<;>first | rfl | (exfalso;omega) | (exfalso;simp_all;done) | (exfalso;simp_all<;>omega) | (simp_all;done)
theorem k7n {ds:List Td} (h:40<ds.length):q0c ds=3:=by rw [q0c,if_pos h]
theorem k7o {ds:List Td} {k:Nat} (hl:ds.length≤40) (hk:k<ds.length) (ha:∀ x∈ds.take k,q0n x=0) (h:q0n ds[k]≠0):q0c ds=q0n ds[k]:=by
 have e:=j1i ds k hk ha h
 rw [q0c,if_neg (by omega),if_pos (by rw [e];exact h),e]
theorem j5i {ds:List Td} (hl:ds.length≤40) (ha:∀ x∈ds,q0n x=0):q0c ds=if z1v ds 0 1=some ds.length∧j5h ds=true then 0 else 2:=by
 rw [q0c,if_neg (by omega),if_neg (by rw [k3y ds ha];simp)]
theorem k7l {ds:List Td} {k:Nat} (h:k<ds.length) (ha:∀ x∈ds.take k,q0n x=0) (h0:q0n ds[k]=0):∀ x∈ds.take (k+1),q0n x=0:=by
 intro x hx
 rw [List.take_succ_eq_append_getElem h] at hx
 rcases List.mem_append.1 hx with hx | hx
 ·exact ha x hx
 ·simp at hx;subst hx;exact h0
end Go.Proofs.YtchdplceopegoaaGreatDoor
