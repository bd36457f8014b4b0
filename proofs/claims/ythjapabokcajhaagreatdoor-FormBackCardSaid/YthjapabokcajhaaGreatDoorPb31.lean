/- Texts as one: SyB, LexR, LexS, LexT, LexV, CutA, LexX. -/
import Derived.Test.YthjapabokcajhaaGreatDoorPb09
import Derived.Lib.AppendIntMem
import Derived.Lib.ItoaNum
import Derived.Test.YthjapabokcajhaaGreatDoorPb00
import Derived.Test.YthjapabokcajhaaGreatDoorPb06
import Derived.Test.YthjapabokcajhaaGreatDoorPb27
import Derived.Test.YthjapabokcajhaaGreatDoorPb07
import Derived.Deep.CutBlock
import Derived.Deep.DeepCutAuto
import Derived.Lib.Bytealg
import Derived.Lib.IndexLaws
namespace Go.Proofs.YthjapabokcajhaaGreatDoor
open Go Go.RowKit
theorem v4o (n:Nat):Lib.decDigits n=q2y n:=by
 induction n using Nat.strongRecOn with
 | ind n ih=>
  rw [Lib.decDigits,q2y]
  by_cases h:n<10
  ·rw [dif_pos h,dif_pos (by omega)]
  ·rw [dif_neg h,dif_neg (by omega),ih (n / 10) (by omega)]
theorem j8a (n:Int) (h0:0≤n) (h1:n≤999999) (w:World) (ht:k7q w):Calls Tryz.prog 131 #[.int .i64 n] w fun e w'=>e = .returned (.string (wbS (q2y n.toNat)))∧Below w.heap.size w w':=by
 refine (itoa_sh n (by omega) (by omega) w ht).mono ?_
 rintro e w' ⟨rfl,k,os,rfl⟩
 refine ⟨?_,Lib.below_grow _ _ (Nat.le_refl _) _ _⟩
 rw [Lib.itoa,if_neg (by omega),v4o];rfl
end Go.Proofs.YthjapabokcajhaaGreatDoor
namespace Go.Proofs.YthjapabokcajhaaGreatDoor
open Go Go.RowKit
structure q3u (s:ByteArray) (w:World) (i:Nat) (dn:List (Nat × List UInt8)) (A P:Option Addr) (ac pc:Nat) (wr:World):Prop where
 b:Below w.heap.size w wr
 le:i≤s.size
 ln:dn.length≤i
 eq:lx (btL s) 0=(dn++lxW ((btL s).drop i) i,lxF ((btL s).drop i) i)
 ws:wr.ownsRow w.heap.size 9 1 (.slice A dn.length ac) dn.length (strCells (dn.map fun x=>wbS x.2))
 ps:wr.ownsRow w.heap.size 3 1 (.slice P dn.length pc) dn.length (q1z (dn.map (·.1)))
theorem q3u.space {s:ByteArray} {w:World} {i:Nat} {dn:List (Nat × List UInt8)} {A P:Option Addr} {ac pc:Nat} {wr:World} (h:q3u s w i dn A P ac pc wr) (hi:i<s.size) (hs:spB s[i]=true):q3u s w (i+1) dn A P ac pc wr:=by
 have e:=h.eq
 rw [q1x hi,lxW,lxF,k1n _ _ hs] at e
 exact { b:=h.b,le:=hi,ln:=by have:=h.ln;omega,eq:=e,ws:=h.ws,ps:=h.ps }
theorem j1o {s:ByteArray} {w:World} {i:Nat} {dn:List (Nat × List UInt8)} {A P:Option Addr} {ac pc:Nat} {wr:World} (h:q3u s w i dn A P ac pc wr) (hi:i<s.size) (hs:spB s[i]=false) (ho:tOk s i=false):lxF (btL s) 0=some i:=by
 have e:=h.eq
 rw [tOk,q1x hi] at ho
 rw [q1x hi,lxW,lxF,k3r _ hs ho] at e
 rw [lxF,e]
theorem q3u.word {s:ByteArray} {w:World} {i:Nat} {dn:List (Nat × List UInt8)} {A P:Option Addr} {ac pc:Nat} {wr:World} (h:q3u s w i dn A P ac pc wr) (hi:i<s.size) (hs:spB s[i]=false) (ho:tOk s i=true) {A' P':Option Addr} {ac' pc':Nat} {w':World} (hb:Below w.heap.size w w')
  (h1:w'.ownsRow w.heap.size 9 1 (.slice A' (dn.length+1) ac') (dn.length+1) (strCells (dn.map fun x=>wbS x.2)++[.string (wbS (tkW ((btL s).drop i)))])) (h2:w'.ownsRow w.heap.size 3 1 (.slice P' (dn.length+1) pc') (dn.length+1) (q1z (dn.map (·.1))++[.int .i64 (i:Int)])) :
  q3u s w (i+j4i s i) (dn++[(i,tkW ((btL s).drop i))]) A' P' ac' pc' w':=by
 have e:=h.eq
 have hle:=y5j hi
 have hd:((btL s).drop i).drop (j4i s i)=(btL s).drop (i+j4i s i):=by rw [List.drop_drop]
 have ho':q4r (s[i]::(btL s).drop (i+1))=true:=by rw [←q1x hi];exact ho
 have e2:lx ((btL s).drop i) i=((i,tkW ((btL s).drop i))::lxW ((btL s).drop (i+j4i s i)) (i+j4i s i),lxF ((btL s).drop (i+j4i s i)) (i+j4i s i)):=by
  rw [←hd,j4i,q1x hi]
  exact z4y i hs ho'
 rw [lxW,lxF,e2] at e
 refine { b:=hb,le:=hle.2,ln:=by have:=h.ln;simp;omega,eq:=by rw [e];simp,ws:=?_,ps:=?_ }
 ·rw [List.length_append,List.map_append,q3l]
  exact h1
 ·rw [List.length_append,List.map_append,z1a]
  exact h2
theorem j8i {L:List UInt8} {k:Nat} (h:L.length≤60000) (hf:lxF L 0=some k):q6g L=5∧z9a L=k:=by
 have e:q6g L=5:=by rw [q6g,if_neg (by omega),hf];rfl
 exact ⟨e,by rw [z9a,if_pos e,hf];rfl⟩
theorem j1m {L:List UInt8} (h:L.length≤60000) (hf:lxF L 0=none) (hm:300<many (q2w L)):q6g L=3∧z9a L=0:=by
 have e:q6g L=3:=by rw [q6g,if_neg (by omega),hf,if_neg (by simp),if_pos hm]
 exact ⟨e,by rw [z9a,e];rfl⟩
theorem j1n {L:List UInt8} (h:L.length≤60000) (hf:lxF L 0=none) (hm:¬ 300<many (q2w L)):q6g L=0∧z9a L=0:=by
 have e:q6g L=0:=by rw [q6g,if_neg (by omega),hf,if_neg (by simp),if_neg hm]
 exact ⟨e,by rw [z9a,e];rfl⟩
theorem j1l {L:List UInt8} (h:60000<L.length):q6g L=3∧z9a L=0:=by
 have e:q6g L=3:=by rw [q6g,if_pos h]
 exact ⟨e,by rw [z9a,e];rfl⟩
theorem j1p {s:ByteArray} {w:World} {i:Nat} {dn:List (Nat × List UInt8)} {A P:Option Addr} {ac pc:Nat} {wr:World} (h:q3u s w i dn A P ac pc wr) (hi:¬ i<s.size):lxF (btL s) 0=none∧lxW (btL s) 0=dn:=by
 have e:=h.eq
 rw [List.drop_eq_nil_of_le (by rw [q0b];omega),lxW,lxF,z0z,List.append_nil] at e
 rw [lxF,lxW,e]
 exact ⟨rfl,rfl⟩
theorem j8u {s:ByteArray} {k:Nat} (h:k<s.size) (hs:spB s[k]=false):many [tkW ((btL s).drop k)]=if s[k] != 35 then 1 else 0:=by
 have h1:∃ z,tkW ((btL s).drop k)=s[k]::z:=by
  rw [tkW,q1x h]
  have hp:=q4i s[k] ((btL s).drop (k+1))
  obtain ⟨m,hm⟩:∃ m,q0q (s[k]::(btL s).drop (k+1))=m+1:=⟨_,(Nat.sub_add_cancel hp).symm⟩
  rw [hm,List.take_succ_cons]
  exact z0v (k6v hs) _
 obtain ⟨z,hz⟩:=h1
 rw [hz]
 have hn:z1i (s[k]::z)=(s[k] != 35):=rfl
 cases hh:(s[k] != 35) with
 | true=>rw [many,List.filter_cons_of_pos (by rw [hn];exact hh)];rfl
 | false=>rw [many,List.filter_cons_of_neg (by rw [hn,hh];decide)];rfl
end Go.Proofs.YthjapabokcajhaaGreatDoor
namespace Go.Proofs.YthjapabokcajhaaGreatDoor
open Go Go.RowKit
theorem v5s {L:List UInt8} (h:q6g L=0):(q2w L).length≤60000:=Nat.le_trans (j5e L) (z2w h).1
end Go.Proofs.YthjapabokcajhaaGreatDoor
namespace Go.Proofs.YthjapabokcajhaaGreatDoor
open Go
theorem z9j:∀ (z r:List UInt8) (i:Nat),(∀ x∈z,x=32)→lx (z++r) i=lx r (i+z.length)
 | [],r,i,_=>by simp
 | c::z,r,i,h=>by
  have hc:c=32:=h c (by simp)
  subst hc
  rw [List.cons_append,k1n _ _ (by decide),z9j z r (i+1) (fun x hx=>h x (by simp [hx])),List.length_cons]
  congr 1;omega
theorem v3d {p:UInt8→Bool}:∀ (l:List UInt8) x,x∈l.takeWhile p→p x=true
 | [],x,hx=>by cases hx
 | a::l,x,hx=>by
  rw [List.takeWhile_cons] at hx
  by_cases ha:p a=true
  ·rw [if_pos ha] at hx
   rcases List.mem_cons.1 hx with rfl | hx
   ·exact ha
   ·exact v3d l x hx
  ·rw [if_neg ha] at hx;cases hx
theorem z5h (w:List UInt8):∃ z,w=q1c w++z∧∀ x∈z,x=32:=by
 refine ⟨(w.reverse.takeWhile (· == 32)).reverse,?_,fun x hx=>?_⟩
 ·rw [q1c,←List.reverse_append,List.takeWhile_append_dropWhile,List.reverse_reverse]
 ·have:=v3d _ _ (List.mem_reverse.1 hx)
  exact beq_iff_eq.1 this
theorem z0u (s:List UInt8):(tkW s).length≤s.length:=by
 have h1:=q9s (s.take (q0q s))
 rw [List.length_take] at h1
 rw [tkW];omega
theorem j8s (s:List UInt8) (i:Nat):lx (s.drop (tkW s).length) (i+(tkW s).length)=lx (s.drop (q0q s)) (i+q0q s):=by
 obtain ⟨z,hz,h32⟩:=z5h (s.take (q0q s))
 have hle:=q9q s
 have hlen:=congrArg List.length hz
 rw [List.length_append,List.length_take,Nat.min_eq_left hle] at hlen
 have e:s.drop (tkW s).length=z++s.drop (q0q s):=by
  have h1:s=q1c (s.take (q0q s))++(z++s.drop (q0q s)):=by
   rw [←List.append_assoc,←hz,List.take_append_drop]
  have h2:s.drop (tkW s).length=(q1c (s.take (q0q s))++(z++s.drop (q0q s))).drop (tkW s).length:=congrArg (List.drop _) h1
  rw [h2,tkW,List.drop_left]
 rw [e,z9j z _ _ h32]
 congr 1
 rw [tkW];omega
theorem v8e {c:UInt8} {r:List UInt8} (hs:spB c=false) (ho:q4r (c::r)=true):1≤(tkW (c::r)).length:=j4o (v3b hs ho)
theorem y3s {c:UInt8} {r:List UInt8} (hl:q3g c=true):tkW (c::r)=(c::r).takeWhile q3g∧q4r (c::r)=decide (((c::r).takeWhile q3g).length≤8):=by
 refine ⟨?_,?_⟩
 ·simp only [tkW,q0q,hl,if_true,List.take_succ_cons,z4b,List.takeWhile_cons]
  exact q7n (fun _=>z9g) c hl r
 ·simp only [q4r,hl,if_true,List.takeWhile_cons,List.length_cons]
theorem y3r {c:UInt8} {r:List UInt8} (hl:q3g c=false) (hf:q4e c=true):tkW (c::r)=(c::r).takeWhile q4e∧q4r (c::r)=(decide (((c::r).takeWhile q4e).length≤6) && (c != 48 || (c::r).takeWhile q4e == [48])):=by
 refine ⟨?_,?_⟩
 ·simp only [tkW,q0q,hl,hf,if_true,Bool.false_eq_true,if_false,List.take_succ_cons,z4b,List.takeWhile_cons]
  exact q7n (fun _=>z8l) c hf r
 ·simp only [q4r,hl,hf,if_true,Bool.false_eq_true,if_false,List.takeWhile_cons,List.length_cons]
  congr 1
  by_cases h:c=48
  ·subst h
   cases hr:r.takeWhile q4e with
   | nil=>rfl
   | cons a b=>
    simp
  ·have:(c != 48)=true:=by simp [h]
   rw [this];rfl
theorem v1i {p:UInt8→Bool}:∀ l:List UInt8,(l.takeWhile p == l)=l.all p
 | []=>rfl
 | a::l=>by
  rw [List.takeWhile_cons,List.all_cons]
  cases h:p a with
  | true=>
   rw [if_pos rfl,←v1i l]
   simp
  | false=>simp
theorem v9t {c:UInt8} {r:List UInt8} (hl:q3g c=false) (hf:q4e c=false) (hn:c=35):tkW (c::r)=q1c ((c::r).takeWhile nlB)∧q4r (c::r)=((q1c ((c::r).takeWhile nlB)).takeWhile prB == q1c ((c::r).takeWhile nlB)):=by
 subst hn
 have e0:(35::r:List UInt8).takeWhile nlB=35::r.takeWhile nlB:=by rw [List.takeWhile_cons];rfl
 refine ⟨?_,?_⟩
 ·simp only [tkW,q0q,hl,hf,if_true,Bool.false_eq_true,if_false,List.take_succ_cons,z4b,beq_self_eq_true,e0]
 ·rw [v1i,e0]
  simp only [q4r,hl,hf,if_true,Bool.false_eq_true,if_false,beq_self_eq_true]
  obtain ⟨z,hz,h32⟩:=z5h (35::r.takeWhile nlB)
  have h1:(35::r.takeWhile nlB).all prB=((q1c (35::r.takeWhile nlB)).all prB && z.all prB):=by
   rw [←List.all_append,←hz]
  have h2:z.all prB=true:=by
   rw [List.all_eq_true]
   intro x hx
   rw [h32 x hx];decide
  rw [h2,Bool.and_true,List.all_cons] at h1
  rw [←h1]
  rfl
theorem v9s {c:UInt8} {r:List UInt8} (hs:spB c=false) (hl:q3g c=false) (hf:q4e c=false) (hn:(c == 35)=false):tkW (c::r)=[c]∧q4r (c::r)=v8s c:=by
 refine ⟨?_,?_⟩
 ·simp only [tkW,q0q,hl,hf,hn,Bool.false_eq_true,if_false,List.take_succ_cons,List.take_zero]
  exact q1j [] (k6v hs)
 ·simp only [q4r,hl,hf,hn,Bool.false_eq_true,if_false]
theorem j2l:∀ l:List UInt8,Lib.indexByte l 10 = -1→l.takeWhile nlB=l
 | [],_=>rfl
 | b::l,h=>by
  unfold Lib.indexByte at h
  have hge:=Lib.indexByte_ge l 10
  split at h
  ·cases h
  ·rename_i hb
   have hb':nlB b=true:=by simpa [nlB] using hb
   split at h
   ·rename_i h1
    rw [List.takeWhile_cons,if_pos hb',j2l l (by simpa using h1)]
   ·omega
theorem v2n:∀ (l:List UInt8) (i:Nat),Lib.indexByte l 10=i→l.takeWhile nlB=l.take i∧i+1≤l.length
 | [],i,h=>by simp [Lib.indexByte] at h
 | b::l,i,h=>by
  unfold Lib.indexByte at h
  have hge:=Lib.indexByte_ge l 10
  split at h
  ·rename_i hb
   have:i=0:=by omega
   subst this
   have hb':nlB b=false:=by simpa [nlB] using hb
   rw [List.takeWhile_cons,if_neg (by simp [hb'])]
   simp
  ·rename_i hb
   have hb':nlB b=true:=by simpa [nlB] using hb
   split at h
   ·omega
   ·rename_i h1
    have h1':Lib.indexByte l 10≠-1:=by simpa using h1
    obtain ⟨j,rfl⟩:∃ j,i=j+1:=⟨i - 1,by omega⟩
    obtain ⟨e1,e2⟩:=v2n l j (by omega)
    rw [List.takeWhile_cons,if_pos hb',e1,List.take_succ_cons]
    exact ⟨rfl,by simp;omega⟩
theorem v1y:∀ (l:List UInt8) (c:UInt8),decide (0≤Lib.indexByte l c)=l.any (· == c)
 | [],c=>rfl
 | b::l,c=>by
  unfold Lib.indexByte
  have hge:=Lib.indexByte_ge l c
  have ih:=v1y l c
  rw [List.any_cons,←ih]
  cases hb:(b == c) with
  | true=>simp
  | false=>
   simp only [Bool.false_eq_true,if_false,Bool.false_or]
   by_cases h:Lib.indexByte l c = -1
   ·simp [h]
   ·have h2:(Lib.indexByte l c == -1)=false:=by simpa using h
    rw [h2]
    simp only [Bool.false_eq_true,if_false]
    rw [decide_eq_true (by omega),decide_eq_true (by omega)]
end Go.Proofs.YthjapabokcajhaaGreatDoor
namespace Go.Proofs.YthjapabokcajhaaGreatDoor
open Go Go.RowKit Go.Lib Go.Shelf
set_option maxRecDepth 100000
set_option maxHeartbeats 1000000
theorem q8z (s:ByteArray) (w:World) :
  Calls Tryz.prog 198 #[.string s,.string ⟨#[10]⟩] w fun e w'=>e = .returned (.int .i64 (Lib.indexByte s.data.toList 10))∧w'=w:=by
 go_enter Tryz.func198,Tryz.ntmps198
 go_wp2_with (go_at_call 168;refine (q5q _ _ _).mono ?_;rintro e w' ⟨rfl,rfl⟩)
 ·have h:([10] == s.toList)=true:=by assumption
  go_ret
  refine ⟨?_,rfl⟩
  have e:s.data.toList=[10]:=by rw [←Lib.toList_data];exact (beq_iff_eq.1 h).symm
  rw [e]
  simp [Lib.indexByte]
 ·go_ret
  exact ⟨rfl,rfl⟩
theorem k5m (s:ByteArray) (w:World) (h:Lib.indexByte s.data.toList 10 = -1) :
  Calls Tryz.prog 170 #[.string s,.string ⟨#[10]⟩] w fun e w'=>e = .returned (.tuple #[.string s,.string ⟨#[]⟩,.bool false])∧∃ n,w'=w.drewN n:=by
 go_enter Tryz.func170,Tryz.ntmps170
 go_wp2_with (go_at_call 198;refine (q8z _ _).mono ?_;rintro e w' ⟨rfl,rfl⟩;rw [h])
 go_ret3
 exact ⟨rfl,0,rfl⟩
theorem k9i (s:ByteArray) (w:World) (i:Nat) (h:Lib.indexByte s.data.toList 10=i) (hi:i+1≤s.size) (hb:s.size≤60000) :
  Calls Tryz.prog 170 #[.string s,.string ⟨#[10]⟩] w fun e w'=>e = .returned (.tuple #[.string (s.extract 0 i),.string (s.extract (i+1) s.size),.bool true])∧∃ n,w'=w.drewN n:=by
 have c1:(0:Int)≤↑i:=by omega
 have c2:(↑i:Int)≤↑s.size:=by omega
 have c3:(0:Int)≤↑i+1:=by omega
 have c4:(↑i+1:Int)≤↑s.size:=by omega
 have c5:(↑i:Int)≤60000:=by omega
 go_enter Tryz.func170,Tryz.ntmps170
 go_wp2_with (go_at_call 198;refine (q8z _ _).mono ?_;rintro e w' ⟨rfl,rfl⟩;rw [h])
 go_region
 go_wp2
 go_ret3
 exact ⟨rfl,1,rfl⟩
end Go.Proofs.YthjapabokcajhaaGreatDoor
namespace Go.Proofs.YthjapabokcajhaaGreatDoor
open Go Go.RowKit
set_option maxRecDepth 100000
set_option maxHeartbeats 1000000
theorem k3j (t:ByteArray) (k:Nat):t.extract 0 k=wbS ((btL t).take k):=by
 rw [k2k,List.drop_zero,Nat.sub_zero]
theorem k3i (t:ByteArray) (k:Nat):btL (t.extract k t.size)=(btL t).drop k:=Lib.extract_to_end t k
def q7v (lo hi:Nat) (c:UInt8):Bool:=decide (lo≤c.toNat) && decide (c.toNat≤hi)
theorem z2f (w:World) (v:Value) (t:TypeId):(w.alloc (.cells #[v] t)).cell? ⟨w.heap.size,0,none⟩=some v:=by
 have h:(w.alloc (.cells #[v] t)).heap[w.heap.size]? = some (.cells #[v] t):=by
  show (w.heap.push (.cells #[v] t))[w.heap.size]? = _
  simp
 simp only [World.cell?,Option.isSome_none,Bool.false_eq_true,if_false,h]
 rfl
theorem k8y {w:World} {o:Obj} {b k:Nat} (h:b<w.heap.size):(w.alloc o).cell? ⟨b,k,none⟩=w.cell? ⟨b,k,none⟩:=by
 simp [World.cell?,Below.heap_alloc w o b h]
structure q3r (w:World) (a b lo hi:Nat):Prop where
 la:a<w.heap.size
 lb:b<w.heap.size
 ca:w.cell? ⟨a,0,none⟩=some (.int .u8 (lo:Int))
 cb:w.cell? ⟨b,0,none⟩=some (.int .u8 (hi:Int))
theorem q3r.below {w w':World} {a b lo hi:Nat} (h:q3r w a b lo hi) (hb:Below w.heap.size w w'):q3r w' a b lo hi:=
 { la:=Nat.lt_of_lt_of_le h.la hb.size,lb:=Nat.lt_of_lt_of_le h.lb hb.size,ca:=(hb.cell (p:=⟨a,0,none⟩) h.la).trans h.ca,cb:=(hb.cell (p:=⟨b,0,none⟩) h.lb).trans h.cb }
abbrev y0b (a b:Nat):Value:=.func (.func 169) #[] #[.pointer (some ⟨a,0,none⟩),.pointer (some ⟨b,0,none⟩)]
theorem q3x (lo hi:Nat) (w:World):Calls Tryz.prog 120 #[.int .u8 (lo:Int),.int .u8 (hi:Int)] w fun e w'=>(∃ a b,e = .returned (y0b a b)∧q3r w' a b lo hi)∧Below w.heap.size w w':=by
 go_enter Tryz.func120,Tryz.ntmps120
 go_wp2
 go_ret
 refine ⟨⟨w.heap.size,w.heap.size+1,rfl,?_⟩,?_⟩
 ·refine { la:=?_,lb:=?_,ca:=?_,cb:=?_ }
  ·rw [World.size_alloc,World.size_alloc];omega
  ·rw [World.size_alloc,World.size_alloc];omega
  ·rw [k8y (by rw [World.size_alloc];omega)]
   exact z2f w _ _
  ·have h:=z2f (w.alloc (.cells #[.int .u8 (lo:Int)] 5)) (.int .u8 (hi:Int)) 5
   rw [World.size_alloc] at h
   exact h
 ·exact ((Below.refl w.heap.size w).alloc (Nat.le_refl _) _).alloc (by rw [World.size_alloc];omega) _
theorem q2s (c:UInt8) {a b lo hi:Nat} {w:World} (h:q3r w a b lo hi):Calls Tryz.prog 169 #[.int .u8 (c.toNat:Int),.pointer (some ⟨a,0,none⟩),.pointer (some ⟨b,0,none⟩)] w fun e w'=>e = .returned (.bool (q7v lo hi c))∧w=w':=by
 obtain ⟨_,_,ca,cb⟩:=h
 by_cases h1:(lo:Int)≤(c.toNat:Int)
 ·by_cases h2:(c.toNat:Int)≤(hi:Int)
  ·have HE:Hid (q7v lo hi c=true):=by show q7v lo hi c=true;simp [q7v];omega
   go_enter Tryz.func169,Tryz.ntmps169
   go_wp2
   go_ret
   exact ⟨by rw [HE.out];rfl,rfl⟩
  ·have HE:Hid (q7v lo hi c=false):=by show q7v lo hi c=false;simp [q7v];omega
   go_enter Tryz.func169,Tryz.ntmps169
   go_wp2
   go_ret
   exact ⟨by rw [HE.out];rfl,rfl⟩
 ·have HE:Hid (q7v lo hi c=false):=by show q7v lo hi c=false;simp [q7v];omega
  go_enter Tryz.func169,Tryz.ntmps169
  go_wp2
  go_ret
  exact ⟨by rw [HE.out];rfl,rfl⟩
theorem k2c (t:ByteArray) {a b lo hi:Nat} {w:World} (h:q3r w a b lo hi) (hs:t.size≤60000) :
  Calls Tryz.prog 121 #[.string t,y0b a b] w fun e w'=>e = .returned (.string (wbS ((btL t).takeWhile (q7v lo hi))))∧w=w':=by
 have HF:Hid (q3r w a b lo hi):=h
 clear h
 go_enter Tryz.func121,Tryz.ntmps121
 go_wp2_with fail
 go_loopw [5] (fun n wr=>wr=w∧∃ k:Nat,n = .int .i64 (k:Int)∧k≤t.size∧k+twN (q7v lo hi) t k=twN (q7v lo hi) t 0) (fun n _=>t.size - (intOf n).toNat)
 case atStart=>exact ⟨rfl,0,rfl,Nat.zero_le _,by omega⟩
 case round=>
  obtain ⟨rfl,k,rfl,hk,htw⟩:=hrel
  have HT:Hid (k+twN (q7v lo hi) t k=twN (q7v lo hi) t 0):=htw
  clear htw
  have hsl:twN (q7v lo hi) t k=0→t.extract 0 k=wbS ((btL t).takeWhile (q7v lo hi)):=fun e1=>by
   have e2:=HT.out
   have e3:((btL t).takeWhile (q7v lo hi)).length=k:=by
    rw [twN,twN,List.drop_zero] at e2
    rw [twN] at e1
    omega
   rw [k3j,←e3,z4b]
  by_cases hlt:k<t.size
  ·have hki:(k:Int)<(t.size:Int):=by omega
   cases hp:q7v lo hi t[k] with
   | true=>
    have HN:Hid (k+1+twN (q7v lo hi) t (k+1)=twN (q7v lo hi) t 0):=by
     show _=_
     have:=v8i hlt hp
     have:=HT.out
     omega
    go_wp2_with fail
    refine (q2s t[k] HF.out).mono ?_
    rintro e w2 ⟨rfl,rfl⟩
    rw [hp]
    go_wp2
    go_roundw
    case rel=>exact ⟨by trivial,k+1,by go_num,by omega,HN.out⟩
    case measure=>simp [intOf];omega
   | false=>
    have HS:=(show Hid (_) from hsl (y2b hlt hp))
    go_wp2_with fail
    refine (q2s t[k] HF.out).mono ?_
    rintro e w2 ⟨rfl,rfl⟩
    rw [hp]
    go_wp2
    go_ret
    exact ⟨by rw [HS.out];rfl,rfl⟩
  ·have hki:¬ (k:Int)<(t.size:Int):=by omega
   have HS:=(show Hid (_) from hsl (v8h hlt))
   go_wp2
   go_ret
   exact ⟨by rw [HS.out];rfl,rfl⟩
def y4m:Value→Nat
 | .string u=>u.size
 | _=>0
theorem k8e (w:World) (n:Nat):Below w.heap.size w (w.drewN n):=(Below.refl w.heap.size w).trans ⟨rfl,rfl,rfl,Nat.le_refl _,fun _ _=>rfl⟩
theorem z4u (u:ByteArray) (h:0<u.size):btL u=btL (u.extract 0 (u.size - 1))++[u[u.size - 1]]:=by
 have hl:u.size - 1<(btL u).length:=by rw [q0b];omega
 have e1:btL (u.extract 0 (u.size - 1))=(btL u).take (u.size - 1):=by rw [k3j];rfl
 have e2:=List.take_succ_eq_append_getElem hl
 have e3:u.size - 1+1=(btL u).length:=by rw [q0b];omega
 rw [e3,List.take_length] at e2
 rw [e1]
 exact e2
theorem j4s (t:ByteArray) (w:World) (hs:t.size≤60000) :
  Calls Tryz.prog 171 #[.string t,.int .u8 32] w fun e w'=>e = .returned (.string (wbS (q1c (btL t))))∧w=w':=by
 go_enter Tryz.func171,Tryz.ntmps171
 go_wp2_with fail
 go_loopw [0] (fun x wr=>wr=w∧∃ u:ByteArray,x = .string u∧u.size≤60000∧q1c (btL u)=q1c (btL t)) (fun x _=>y4m x)
 case atStart=>exact ⟨rfl,t,rfl,hs,rfl⟩
 case round=>
  obtain ⟨rfl,u,rfl,hu,htr⟩:=hrel
  have HT:Hid (q1c (btL u)=q1c (btL t)):=htr
  clear htr
  by_cases h0:0<u.size
  ·have h0i:(0:Int)<(u.size:Int):=by omega
   have HL:Hid (btL u=btL (u.extract 0 (u.size - 1))++[u[u.size - 1]]):=z4u u h0
   cases hb:(u[u.size - 1] == 32) with
   | true=>
    have hbi:((u[u.size - 1].toNat:Int) == 32)=true:=by rw [show (32:Int)=((32:Nat):Int) from rfl,k7g _ 32 (by decide)];exact hb
    have HE:Hid (q1c (btL (u.extract 0 (u.size - 1)))=q1c (btL t)):=by
     show _=_
     rw [←HT.out,HL.out,beq_iff_eq.1 hb,z3j]
    have hsz:(u.extract 0 (u.size - 1)).size=u.size - 1:=by rw [ByteArray.size_extract];omega
    have HSZ:=(show Hid (_=_) from hsz)
    clear hb hsz
    go_wp2
    exact ⟨⟨by trivial,_,rfl,by rw [HSZ.out];omega,HE.out⟩,by show (u.extract 0 (u.size - 1)).size<u.size;rw [HSZ.out];omega⟩
   | false=>
    have hbi:((u[u.size - 1].toNat:Int) == 32)=false:=by rw [show (32:Int)=((32:Nat):Int) from rfl,k7g _ 32 (by decide)];exact hb
    have HE:Hid (u=wbS (q1c (btL t))):=by
     show _=_
     rw [←HT.out,HL.out,q1j _ (by simpa using hb),←z4u u h0]
     rfl
    clear hb
    go_wp2
    go_ret
    exact ⟨by rw [←HE.out];rfl,rfl⟩
  ·have h0i:¬ (0:Int)<(u.size:Int):=by omega
   have HE:Hid (u=wbS (q1c (btL t))):=by
    show _=_
    have e1:btL u=[]:=List.eq_nil_of_length_eq_zero (by rw [q0b];omega)
    rw [←HT.out,e1,j4t]
    show u=⟨#[]⟩
    apply ByteArray.ext
    exact Array.toList_inj.1 e1
   go_wp2
   go_ret
   exact ⟨by rw [←HE.out];rfl,rfl⟩
theorem j4u (t:ByteArray) (w:World) (h0:0<t.size) (hs:t.size≤60000) :
  Calls Tryz.prog 123 #[.string t,.string ⟨#[32]⟩] w fun e w'=>e = .returned (.string (wbS (q1c (btL t))))∧w=w':=by
 have h1:(t.toList == [])=false:=by
  rw [Lib.toList_data]
  have:=(show t.data.toList.length=t.size from q0b t)
  cases h:t.data.toList with
  | nil=>rw [h] at this;simp at this;omega
  | cons a b=>rfl
 go_enter Tryz.func123,Tryz.ntmps123
 go_wp2_with fail
 refine (j4s t _ hs).mono ?_
 rintro e w2 ⟨rfl,rfl⟩
 go_wp2
 go_ret
 exact ⟨rfl,rfl⟩
def z9b (t:ByteArray):ByteArray:=wbS ((btL t).takeWhile nlB)
theorem j9u (t:ByteArray) (w:World) (hs:t.size≤60000) :
  Calls Tryz.prog 122 #[.string t,.string ⟨#[10]⟩] w fun e w'=>(∃ r b,e = .returned (.tuple #[.string (z9b t),.string r,.bool b]))∧Below w.heap.size w w':=by
 have hge:=Lib.indexByte_ge t.data.toList 10
 by_cases hm:Lib.indexByte t.data.toList 10 = -1
 ·have HE:Hid (t=z9b t):=by
   show t=wbS ((btL t).takeWhile nlB)
   rw [j2l _ hm];rfl
  go_enter Tryz.func122,Tryz.ntmps122
  go_wp2_with (go_at_call 170;refine (k5m _ _ hm).mono ?_;rintro e w' ⟨rfl,n,rfl⟩)
  go_ret3
  exact ⟨⟨_,_,by rw [←HE.out];rfl⟩,k8e _ _⟩
 ·obtain ⟨i,hi⟩:∃ i:Nat,Lib.indexByte t.data.toList 10=i:=⟨(Lib.indexByte t.data.toList 10).toNat,by omega⟩
  obtain ⟨e1,e2⟩:=v2n _ i hi
  have hi1:i+1≤t.size:=by rw [←q0b];exact e2
  have HE:Hid (t.extract 0 i=z9b t):=by
   show t.extract 0 i=wbS ((btL t).takeWhile nlB)
   rw [k3j,e1]
  clear e1 e2 hge hm
  go_enter Tryz.func122,Tryz.ntmps122
  go_wp2_with (go_at_call 170;refine (k9i _ _ _ hi hi1 hs).mono ?_;rintro e w' ⟨rfl,n,rfl⟩)
  go_ret3
  exact ⟨⟨_,_,by rw [←HE.out];rfl⟩,k8e _ _⟩
abbrev y5h (a:Nat):Value:=.func (.func 118) #[] #[.pointer (some ⟨a,0,none⟩)]
def z0a (w:World) (a:Nat) (bs:ByteArray):Prop:=a<w.heap.size∧w.cell? ⟨a,0,none⟩=some (.string bs)
theorem z0a.below {B:Nat} {w w':World} {a:Nat} {bs:ByteArray} (h:z0a w a bs) (hB:a<B) (hb:Below B w w'):z0a w' a bs:=
 ⟨Nat.lt_of_lt_of_le h.1 hb.size,(hb.cell (p:=⟨a,0,none⟩) hB).trans h.2⟩
theorem z9r (bs:ByteArray) (w:World):Calls Tryz.prog 76 #[.string bs] w fun e w'=>e = .returned (y5h w.heap.size)∧w'=w.alloc (.cells #[.string bs] 9):=by
 go_enter Tryz.func76,Tryz.ntmps76
 go_wp2
 go_ret
 exact ⟨rfl,rfl⟩
theorem z0a.new (bs:ByteArray) (w:World):z0a (w.alloc (.cells #[.string bs] 9)) w.heap.size bs:=⟨by rw [World.size_alloc];omega,z2f w _ _⟩
theorem v7w (s:ByteArray) (c:Int) (w:World) :
  Calls Tryz.prog 119 #[.string s,.int .u8 c] w fun e w'=>e = .returned (.int .i64 (Lib.indexByte s.data.toList c.toNat.toUInt8))∧w'=w:=by
 go_enter Tryz.func119,Tryz.ntmps119
 go_wp2_with fail
 refine (q5q _ _ _).mono ?_
 rintro e w2 ⟨rfl,rfl⟩
 go_wp2
 go_ret
 exact ⟨rfl,rfl⟩
theorem q7i (c:UInt8) {a:Nat} {bs:ByteArray} {w:World} (h:z0a w a bs):Calls Tryz.prog 118 #[.int .u8 (c.toNat:Int),.pointer (some ⟨a,0,none⟩)] w fun e w'=>e = .returned (.bool ((btL bs).any (· == c)))∧w=w':=by
 have hc:=h.2
 have HI:=(show Hid (_=_) from v1y (btL bs) c)
 have hu:(c.toNat:Int).toNat.toUInt8=c:=by simp
 go_enter Tryz.func118,Tryz.ntmps118
 go_wp2_with fail
 refine (v7w bs _ _).mono ?_
 rintro e w2 ⟨rfl,rfl⟩
 rw [hu]
 generalize hz:Lib.indexByte bs.data.toList c=z
 have HZ:Hid (decide (0≤z)=(btL bs).any (· == c)):=by rw [←hz];exact HI
 clear hz HI
 go_wp2
 go_ret
 exact ⟨by rw [←HZ.out];rfl,rfl⟩
end Go.Proofs.YthjapabokcajhaaGreatDoor
