/- Texts as one: LexV, CutA, LexX. -/
import Derived.Lib.IndexLaws
import Derived.Test.YtchdplceopegoaaGreatDoorPw10
namespace Go.Proofs.YtchdplceopegoaaGreatDoor
open Go Go.RowKit
theorem z8j:∀ (z r:List UInt8) (i:Nat),(∀ x∈z,x=32)→lx (z++r) i=lx r (i+z.length)
 | [],r,i,_=>by simp
 | c::z,r,i,h=>by
  have hc:c=32:=h c (by simp)
  subst hc
  rw [List.cons_append,z8k _ _ (by decide),z8j z r (i+1) (fun x hx=>h x (by simp [hx])),List.length_cons]
  congr 1;omega
theorem v1l {p:UInt8→Bool}:∀ (l:List UInt8) x,x∈l.takeWhile p→p x=true
 | [],x,hx=>by cases hx
 | a::l,x,hx=>by
  rw [List.takeWhile_cons] at hx
  by_cases ha:p a=true
  ·rw [if_pos ha] at hx
   rcases List.mem_cons.1 hx with rfl | hx
   ·exact ha
   ·exact v1l l x hx
  ·rw [if_neg ha] at hx;cases hx
theorem z4k (w:List UInt8):∃ z,w=q1a w++z∧∀ x∈z,x=32:=by
 refine ⟨(w.reverse.takeWhile (· == 32)).reverse,?_,fun x hx=>?_⟩
 ·rw [q1a,←List.reverse_append,List.takeWhile_append_dropWhile,List.reverse_reverse]
 ·have:=v1l _ _ (List.mem_reverse.1 hx)
  exact beq_iff_eq.1 this
theorem z0c (s:List UInt8):(tkW s).length≤s.length:=by
 have h1:=q8y (s.take (q0o s))
 rw [List.length_take] at h1
 rw [tkW];omega
theorem j7c (s:List UInt8) (i:Nat):lx (s.drop (tkW s).length) (i+(tkW s).length)=lx (s.drop (q0o s)) (i+q0o s):=by
 obtain ⟨z,hz,h32⟩:=z4k (s.take (q0o s))
 have hle:=q8w s
 have hlen:=congrArg List.length hz
 rw [List.length_append,List.length_take,Nat.min_eq_left hle] at hlen
 have e:s.drop (tkW s).length=z++s.drop (q0o s):=by
  have h1:s=q1a (s.take (q0o s))++(z++s.drop (q0o s)):=by
   rw [←List.append_assoc,←hz,List.take_append_drop]
  have h2:s.drop (tkW s).length=(q1a (s.take (q0o s))++(z++s.drop (q0o s))).drop (tkW s).length:=congrArg (List.drop _) h1
  rw [h2,tkW,List.drop_left]
 rw [e,z8j z _ _ h32]
 congr 1
 rw [tkW];omega
theorem v5u {c:UInt8} {r:List UInt8} (hs:spB c=false) (ho:q4g (c::r)=true):1≤(tkW (c::r)).length:=j3j (v1j hs ho)
theorem y1f {c:UInt8} {r:List UInt8} (hl:q3a c=true):tkW (c::r)=(c::r).takeWhile q3a∧q4g (c::r)=decide (((c::r).takeWhile q3a).length≤8):=by
 refine ⟨?_,?_⟩
 ·simp only [tkW,q0o,hl,if_true,List.take_succ_cons,z3i,List.takeWhile_cons]
  exact q7a (fun _=>z8g) c hl r
 ·simp only [q4g,hl,if_true,List.takeWhile_cons,List.length_cons]
theorem y1e {c:UInt8} {r:List UInt8} (hl:q3a c=false) (hf:q3w c=true):tkW (c::r)=(c::r).takeWhile q3w∧q4g (c::r)=(decide (((c::r).takeWhile q3w).length≤6) && (c != 48 || (c::r).takeWhile q3w == [48])):=by
 refine ⟨?_,?_⟩
 ·simp only [tkW,q0o,hl,hf,if_true,Bool.false_eq_true,if_false,List.take_succ_cons,z3i,List.takeWhile_cons]
  exact q7a (fun _=>z7q) c hf r
 ·simp only [q4g,hl,hf,if_true,Bool.false_eq_true,if_false,List.takeWhile_cons,List.length_cons]
  congr 1
  by_cases h:c=48
  ·subst h
   cases hr:r.takeWhile q3w with
   | nil=>rfl
   | cons a b=>
    simp
  ·have:(c != 48)=true:=by simp [h]
   rw [this];rfl
theorem j9w {p:UInt8→Bool}:∀ l:List UInt8,(l.takeWhile p == l)=l.all p
 | []=>rfl
 | a::l=>by
  rw [List.takeWhile_cons,List.all_cons]
  cases h:p a with
  | true=>
   rw [if_pos rfl,←j9w l]
   simp
  | false=>simp
theorem v7g {c:UInt8} {r:List UInt8} (hl:q3a c=false) (hf:q3w c=false) (hn:c=35):tkW (c::r)=q1a ((c::r).takeWhile nlB)∧q4g (c::r)=((q1a ((c::r).takeWhile nlB)).takeWhile prB == q1a ((c::r).takeWhile nlB)):=by
 subst hn
 have e0:(35::r:List UInt8).takeWhile nlB=35::r.takeWhile nlB:=by rw [List.takeWhile_cons];rfl
 refine ⟨?_,?_⟩
 ·simp only [tkW,q0o,hl,hf,if_true,Bool.false_eq_true,if_false,List.take_succ_cons,z3i,beq_self_eq_true,e0]
 ·rw [j9w,e0]
  simp only [q4g,hl,hf,if_true,Bool.false_eq_true,if_false,beq_self_eq_true]
  obtain ⟨z,hz,h32⟩:=z4k (35::r.takeWhile nlB)
  have h1:(35::r.takeWhile nlB).all prB=((q1a (35::r.takeWhile nlB)).all prB && z.all prB):=by
   rw [←List.all_append,←hz]
  have h2:z.all prB=true:=by
   rw [List.all_eq_true]
   intro x hx
   rw [h32 x hx];decide
  rw [h2,Bool.and_true,List.all_cons] at h1
  rw [←h1]
  rfl
theorem v7f {c:UInt8} {r:List UInt8} (hs:spB c=false) (hl:q3a c=false) (hf:q3w c=false) (hn:(c == 35)=false):tkW (c::r)=[c]∧q4g (c::r)=y0m c:=by
 refine ⟨?_,?_⟩
 ·simp only [tkW,q0o,hl,hf,hn,Bool.false_eq_true,if_false,List.take_succ_cons,List.take_zero]
  exact q1i [] (k5y hs)
 ·simp only [q4g,hl,hf,hn,Bool.false_eq_true,if_false]
theorem j1h:∀ l:List UInt8,Lib.indexByte l 10 = -1→l.takeWhile nlB=l
 | [],_=>rfl
 | b::l,h=>by
  unfold Lib.indexByte at h
  have hge:=Lib.indexByte_ge l 10
  split at h
  ·cases h
  ·rename_i hb
   have hb':nlB b=true:=by simpa [nlB] using hb
   split at h
   ·rename_i h1
    rw [List.takeWhile_cons,if_pos hb',j1h l (by simpa using h1)]
   ·omega
theorem v0v:∀ (l:List UInt8) (i:Nat),Lib.indexByte l 10=i→l.takeWhile nlB=l.take i∧i+1≤l.length
 | [],i,h=>by simp [Lib.indexByte] at h
 | b::l,i,h=>by
  unfold Lib.indexByte at h
  have hge:=Lib.indexByte_ge l 10
  split at h
  ·rename_i hb
   have:i=0:=by omega
   subst this
   have hb':nlB b=false:=by simpa [nlB] using hb
   rw [List.takeWhile_cons,if_neg (by simp [hb'])]
   simp
  ·rename_i hb
   have hb':nlB b=true:=by simpa [nlB] using hb
   split at h
   ·omega
   ·rename_i h1
    have h1':Lib.indexByte l 10≠-1:=by simpa using h1
    obtain ⟨j,rfl⟩:∃ j,i=j+1:=⟨i - 1,by omega⟩
    obtain ⟨e1,e2⟩:=v0v l j (by omega)
    rw [List.takeWhile_cons,if_pos hb',e1,List.take_succ_cons]
    exact ⟨rfl,by simp;omega⟩
theorem v0k:∀ (l:List UInt8) (c:UInt8),decide (0≤Lib.indexByte l c)=l.any (· == c)
 | [],c=>rfl
 | b::l,c=>by
  unfold Lib.indexByte
  have hge:=Lib.indexByte_ge l c
  have ih:=v0k l c
  rw [List.any_cons,←ih]
  cases hb:(b == c) with
  | true=>simp
  | false=>
   simp only [Bool.false_eq_true,if_false,Bool.false_or]
   by_cases h:Lib.indexByte l c = -1
   ·simp [h]
   ·have h2:(Lib.indexByte l c == -1)=false:=by simpa using h
    rw [h2]
    simp only [Bool.false_eq_true,if_false]
    rw [decide_eq_true (by omega),decide_eq_true (by omega)]
end Go.Proofs.YtchdplceopegoaaGreatDoor
namespace Go.Proofs.YtchdplceopegoaaGreatDoor
open Go Go.RowKit Go.Lib Go.Shelf
set_option maxRecDepth 100000
set_option maxHeartbeats 1000000
theorem q8k (s:ByteArray) (w:World) :
  Calls Tryz.prog 172 #[.string s,.string ⟨#[10]⟩] w fun e w'=>e = .returned (.int .i64 (Lib.indexByte s.data.toList 10))∧w'=w:=by
 go_enter Tryz.func172,Tryz.ntmps172
 go_wp2_with (go_at_call 137;refine (q5f _ _ _).mono ?_;rintro e w' ⟨rfl,rfl⟩)
 ·have h:([10] == s.toList)=true:=by assumption
  go_ret
  refine ⟨?_,rfl⟩
  have e:s.data.toList=[10]:=by rw [←Lib.toList_data];exact (beq_iff_eq.1 h).symm
  rw [e]
  simp [Lib.indexByte]
 ·go_ret
  exact ⟨rfl,rfl⟩
theorem k4r (s:ByteArray) (w:World) (h:Lib.indexByte s.data.toList 10 = -1) :
  Calls Tryz.prog 139 #[.string s,.string ⟨#[10]⟩] w fun e w'=>e = .returned (.tuple #[.string s,.string ⟨#[]⟩,.bool false])∧∃ n,w'=w.drewN n:=by
 go_enter Tryz.func139,Tryz.ntmps139
 go_wp2_with (go_at_call 172;refine (q8k _ _).mono ?_;rintro e w' ⟨rfl,rfl⟩;rw [h])
 go_ret3
 exact ⟨rfl,0,rfl⟩
theorem k8m (s:ByteArray) (w:World) (i:Nat) (h:Lib.indexByte s.data.toList 10=i) (hi:i+1≤s.size) (hb:s.size≤60000) :
  Calls Tryz.prog 139 #[.string s,.string ⟨#[10]⟩] w fun e w'=>e = .returned (.tuple #[.string (s.extract 0 i),.string (s.extract (i+1) s.size),.bool true])∧∃ n,w'=w.drewN n:=by
 have c1:(0:Int)≤↑i:=by omega
 have c2:(↑i:Int)≤↑s.size:=by omega
 have c3:(0:Int)≤↑i+1:=by omega
 have c4:(↑i+1:Int)≤↑s.size:=by omega
 have c5:(↑i:Int)≤60000:=by omega
 go_enter Tryz.func139,Tryz.ntmps139
 go_wp2_with (go_at_call 172;refine (q8k _ _).mono ?_;rintro e w' ⟨rfl,rfl⟩;rw [h])
 go_region
 go_wp2
 go_ret3
 exact ⟨rfl,1,rfl⟩
end Go.Proofs.YtchdplceopegoaaGreatDoor
namespace Go.Proofs.YtchdplceopegoaaGreatDoor
open Go Go.RowKit
set_option maxRecDepth 100000
set_option maxHeartbeats 1000000
theorem k2q (t:ByteArray) (k:Nat):t.extract 0 k=wbS ((btL t).take k):=by
 rw [k1q,List.drop_zero,Nat.sub_zero]
theorem k2p (t:ByteArray) (k:Nat):btL (t.extract k t.size)=(btL t).drop k:=Lib.extract_to_end t k
def q7g (lo hi:Nat) (c:UInt8):Bool:=decide (lo≤c.toNat) && decide (c.toNat≤hi)
theorem z1s (w:World) (v:Value) (t:TypeId):(w.alloc (.cells #[v] t)).cell? ⟨w.heap.size,0,none⟩=some v:=by
 have h:(w.alloc (.cells #[v] t)).heap[w.heap.size]? = some (.cells #[v] t):=by
  show (w.heap.push (.cells #[v] t))[w.heap.size]? = _
  simp
 simp only [World.cell?,Option.isSome_none,Bool.false_eq_true,if_false,h]
 rfl
theorem k8b {w:World} {o:Obj} {b k:Nat} (h:b<w.heap.size):(w.alloc o).cell? ⟨b,k,none⟩=w.cell? ⟨b,k,none⟩:=by
 simp [World.cell?,Below.heap_alloc w o b h]
structure q3l (w:World) (a b lo hi:Nat):Prop where
 la:a<w.heap.size
 lb:b<w.heap.size
 ca:w.cell? ⟨a,0,none⟩=some (.int .u8 (lo:Int))
 cb:w.cell? ⟨b,0,none⟩=some (.int .u8 (hi:Int))
theorem q3l.below {w w':World} {a b lo hi:Nat} (h:q3l w a b lo hi) (hb:Below w.heap.size w w'):q3l w' a b lo hi:=
 { la:=Nat.lt_of_lt_of_le h.la hb.size,lb:=Nat.lt_of_lt_of_le h.lb hb.size,ca:=(hb.cell (p:=⟨a,0,none⟩) h.la).trans h.ca,cb:=(hb.cell (p:=⟨b,0,none⟩) h.lb).trans h.cb }
abbrev v7n (a b:Nat):Value:=.func (.func 138) #[] #[.pointer (some ⟨a,0,none⟩),.pointer (some ⟨b,0,none⟩)]
theorem q3q (lo hi:Nat) (w:World):Calls Tryz.prog 99 #[.int .u8 (lo:Int),.int .u8 (hi:Int)] w fun e w'=>(∃ a b,e = .returned (v7n a b)∧q3l w' a b lo hi)∧Below w.heap.size w w':=by
 go_enter Tryz.func99,Tryz.ntmps99
 go_wp2
 go_ret
 refine ⟨⟨w.heap.size,w.heap.size+1,rfl,?_⟩,?_⟩
 ·refine { la:=?_,lb:=?_,ca:=?_,cb:=?_ }
  ·rw [World.size_alloc,World.size_alloc];omega
  ·rw [World.size_alloc,World.size_alloc];omega
  ·rw [k8b (by rw [World.size_alloc];omega)]
   exact z1s w _ _
  ·have h:=z1s (w.alloc (.cells #[.int .u8 (lo:Int)] 5)) (.int .u8 (hi:Int)) 5
   rw [World.size_alloc] at h
   exact h
 ·exact ((Below.refl w.heap.size w).alloc (Nat.le_refl _) _).alloc (by rw [World.size_alloc];omega) _
theorem q2o (c:UInt8) {a b lo hi:Nat} {w:World} (h:q3l w a b lo hi):Calls Tryz.prog 138 #[.int .u8 (c.toNat:Int),.pointer (some ⟨a,0,none⟩),.pointer (some ⟨b,0,none⟩)] w fun e w'=>e = .returned (.bool (q7g lo hi c))∧w=w':=by
 obtain ⟨_,_,ca,cb⟩:=h
 by_cases h1:(lo:Int)≤(c.toNat:Int)
 ·by_cases h2:(c.toNat:Int)≤(hi:Int)
  ·have HE:Hid (q7g lo hi c=true):=by show q7g lo hi c=true;simp [q7g];omega
   go_enter Tryz.func138,Tryz.ntmps138
   go_wp2
   go_ret
   exact ⟨by rw [HE.out];rfl,rfl⟩
  ·have HE:Hid (q7g lo hi c=false):=by show q7g lo hi c=false;simp [q7g];omega
   go_enter Tryz.func138,Tryz.ntmps138
   go_wp2
   go_ret
   exact ⟨by rw [HE.out];rfl,rfl⟩
 ·have HE:Hid (q7g lo hi c=false):=by show q7g lo hi c=false;simp [q7g];omega
  go_enter Tryz.func138,Tryz.ntmps138
  go_wp2
  go_ret
  exact ⟨by rw [HE.out];rfl,rfl⟩
theorem k1k (t:ByteArray) {a b lo hi:Nat} {w:World} (h:q3l w a b lo hi) (hs:t.size≤60000) :
  Calls Tryz.prog 100 #[.string t,v7n a b] w fun e w'=>e = .returned (.string (wbS ((btL t).takeWhile (q7g lo hi))))∧w=w':=by
 have HF:Hid (q3l w a b lo hi):=h
 clear h
 go_enter Tryz.func100,Tryz.ntmps100
 go_wp2_with fail
 go_loopw [5] (fun n wr=>wr=w∧∃ k:Nat,n = .int .i64 (k:Int)∧k≤t.size∧k+twN (q7g lo hi) t k=twN (q7g lo hi) t 0) (fun n _=>t.size - (intOf n).toNat)
 case atStart=>exact ⟨rfl,0,rfl,Nat.zero_le _,by omega⟩
 case round=>
  obtain ⟨rfl,k,rfl,hk,htw⟩:=hrel
  have HT:Hid (k+twN (q7g lo hi) t k=twN (q7g lo hi) t 0):=htw
  clear htw
  have hsl:twN (q7g lo hi) t k=0→t.extract 0 k=wbS ((btL t).takeWhile (q7g lo hi)):=fun e1=>by
   have e2:=HT.out
   have e3:((btL t).takeWhile (q7g lo hi)).length=k:=by
    rw [twN,twN,List.drop_zero] at e2
    rw [twN] at e1
    omega
   rw [k2q,←e3,z3i]
  by_cases hlt:k<t.size
  ·have hki:(k:Int)<(t.size:Int):=by omega
   cases hp:q7g lo hi t[k] with
   | true=>
    have HN:Hid (k+1+twN (q7g lo hi) t (k+1)=twN (q7g lo hi) t 0):=by
     show _=_
     have:=v5y hlt hp
     have:=HT.out
     omega
    go_wp2_with fail
    refine (q2o t[k] HF.out).mono ?_
    rintro e w2 ⟨rfl,rfl⟩
    rw [hp]
    go_wp2
    go_roundw
    case rel=>exact ⟨by trivial,k+1,by go_num,by omega,HN.out⟩
    case measure=>simp [intOf];omega
   | false=>
    have HS:=(show Hid (_) from hsl (v9n hlt hp))
    go_wp2_with fail
    refine (q2o t[k] HF.out).mono ?_
    rintro e w2 ⟨rfl,rfl⟩
    rw [hp]
    go_wp2
    go_ret
    exact ⟨by rw [HS.out];rfl,rfl⟩
  ·have hki:¬ (k:Int)<(t.size:Int):=by omega
   have HS:=(show Hid (_) from hsl (v5x hlt))
   go_wp2
   go_ret
   exact ⟨by rw [HS.out];rfl,rfl⟩
def y1w:Value→Nat
 | .string u=>u.size
 | _=>0
theorem k7j (w:World) (n:Nat):Below w.heap.size w (w.drewN n):=(Below.refl w.heap.size w).trans ⟨rfl,rfl,rfl,Nat.le_refl _,fun _ _=>rfl⟩
theorem z3y (u:ByteArray) (h:0<u.size):btL u=btL (u.extract 0 (u.size - 1))++[u[u.size - 1]]:=by
 have hl:u.size - 1<(btL u).length:=by rw [q0b];omega
 have e1:btL (u.extract 0 (u.size - 1))=(btL u).take (u.size - 1):=by rw [k2q];rfl
 have e2:=List.take_succ_eq_append_getElem hl
 have e3:u.size - 1+1=(btL u).length:=by rw [q0b];omega
 rw [e3,List.take_length] at e2
 rw [e1]
 exact e2
theorem j3n (t:ByteArray) (w:World) (hs:t.size≤60000) :
  Calls Tryz.prog 140 #[.string t,.int .u8 32] w fun e w'=>e = .returned (.string (wbS (q1a (btL t))))∧w=w':=by
 go_enter Tryz.func140,Tryz.ntmps140
 go_wp2_with fail
 go_loopw [0] (fun x wr=>wr=w∧∃ u:ByteArray,x = .string u∧u.size≤60000∧q1a (btL u)=q1a (btL t)) (fun x _=>y1w x)
 case atStart=>exact ⟨rfl,t,rfl,hs,rfl⟩
 case round=>
  obtain ⟨rfl,u,rfl,hu,htr⟩:=hrel
  have HT:Hid (q1a (btL u)=q1a (btL t)):=htr
  clear htr
  by_cases h0:0<u.size
  ·have h0i:(0:Int)<(u.size:Int):=by omega
   have HL:Hid (btL u=btL (u.extract 0 (u.size - 1))++[u[u.size - 1]]):=z3y u h0
   cases hb:(u[u.size - 1] == 32) with
   | true=>
    have hbi:((u[u.size - 1].toNat:Int) == 32)=true:=by rw [show (32:Int)=((32:Nat):Int) from rfl,k6i _ 32 (by decide)];exact hb
    have HE:Hid (q1a (btL (u.extract 0 (u.size - 1)))=q1a (btL t)):=by
     show _=_
     rw [←HT.out,HL.out,beq_iff_eq.1 hb,z2s]
    have hsz:(u.extract 0 (u.size - 1)).size=u.size - 1:=by rw [ByteArray.size_extract];omega
    have HSZ:=(show Hid (_=_) from hsz)
    clear hb hsz
    go_wp2
    exact ⟨⟨by trivial,_,rfl,by rw [HSZ.out];omega,HE.out⟩,by show (u.extract 0 (u.size - 1)).size<u.size;rw [HSZ.out];omega⟩
   | false=>
    have hbi:((u[u.size - 1].toNat:Int) == 32)=false:=by rw [show (32:Int)=((32:Nat):Int) from rfl,k6i _ 32 (by decide)];exact hb
    have HE:Hid (u=wbS (q1a (btL t))):=by
     show _=_
     rw [←HT.out,HL.out,q1i _ (by simpa using hb),←z3y u h0]
     rfl
    clear hb
    go_wp2
    go_ret
    exact ⟨by rw [←HE.out];rfl,rfl⟩
  ·have h0i:¬ (0:Int)<(u.size:Int):=by omega
   have HE:Hid (u=wbS (q1a (btL t))):=by
    show _=_
    have e1:btL u=[]:=List.eq_nil_of_length_eq_zero (by rw [q0b];omega)
    rw [←HT.out,e1,j3o]
    show u=⟨#[]⟩
    apply ByteArray.ext
    exact Array.toList_inj.1 e1
   go_wp2
   go_ret
   exact ⟨by rw [←HE.out];rfl,rfl⟩
theorem j3p (t:ByteArray) (w:World) (h0:0<t.size) (hs:t.size≤60000) :
  Calls Tryz.prog 102 #[.string t,.string ⟨#[32]⟩] w fun e w'=>e = .returned (.string (wbS (q1a (btL t))))∧w=w':=by
 have h1:(t.toList == [])=false:=by
  rw [Lib.toList_data]
  have:=(show t.data.toList.length=t.size from q0b t)
  cases h:t.data.toList with
  | nil=>rw [h] at this;simp at this;omega
  | cons a b=>rfl
 go_enter Tryz.func102,Tryz.ntmps102
 go_wp2_with fail
 refine (j3n t _ hs).mono ?_
 rintro e w2 ⟨rfl,rfl⟩
 go_wp2
 go_ret
 exact ⟨rfl,rfl⟩
def z8c (t:ByteArray):ByteArray:=wbS ((btL t).takeWhile nlB)
theorem j8e (t:ByteArray) (w:World) (hs:t.size≤60000) :
  Calls Tryz.prog 101 #[.string t,.string ⟨#[10]⟩] w fun e w'=>(∃ r b,e = .returned (.tuple #[.string (z8c t),.string r,.bool b]))∧Below w.heap.size w w':=by
 have hge:=Lib.indexByte_ge t.data.toList 10
 by_cases hm:Lib.indexByte t.data.toList 10 = -1
 ·have HE:Hid (t=z8c t):=by
   show t=wbS ((btL t).takeWhile nlB)
   rw [j1h _ hm];rfl
  go_enter Tryz.func101,Tryz.ntmps101
  go_wp2_with (go_at_call 139;refine (k4r _ _ hm).mono ?_;rintro e w' ⟨rfl,n,rfl⟩)
  go_ret3
  exact ⟨⟨_,_,by rw [←HE.out];rfl⟩,k7j _ _⟩
 ·obtain ⟨i,hi⟩:∃ i:Nat,Lib.indexByte t.data.toList 10=i:=⟨(Lib.indexByte t.data.toList 10).toNat,by omega⟩
  obtain ⟨e1,e2⟩:=v0v _ i hi
  have hi1:i+1≤t.size:=by rw [←q0b];exact e2
  have HE:Hid (t.extract 0 i=z8c t):=by
   show t.extract 0 i=wbS ((btL t).takeWhile nlB)
   rw [k2q,e1]
  clear e1 e2 hge hm
  go_enter Tryz.func101,Tryz.ntmps101
  go_wp2_with (go_at_call 139;refine (k8m _ _ _ hi hi1 hs).mono ?_;rintro e w' ⟨rfl,n,rfl⟩)
  go_ret3
  exact ⟨⟨_,_,by rw [←HE.out];rfl⟩,k7j _ _⟩
abbrev y2s (a:Nat):Value:=.func (.func 97) #[] #[.pointer (some ⟨a,0,none⟩)]
def q9h (w:World) (a:Nat) (bs:ByteArray):Prop:=a<w.heap.size∧w.cell? ⟨a,0,none⟩=some (.string bs)
theorem q9h.below {B:Nat} {w w':World} {a:Nat} {bs:ByteArray} (h:q9h w a bs) (hB:a<B) (hb:Below B w w'):q9h w' a bs:=
 ⟨Nat.lt_of_lt_of_le h.1 hb.size,(hb.cell (p:=⟨a,0,none⟩) hB).trans h.2⟩
theorem z8t (bs:ByteArray) (w:World):Calls Tryz.prog 75 #[.string bs] w fun e w'=>e = .returned (y2s w.heap.size)∧w'=w.alloc (.cells #[.string bs] 9):=by
 go_enter Tryz.func75,Tryz.ntmps75
 go_wp2
 go_ret
 exact ⟨rfl,rfl⟩
theorem q9h.new (bs:ByteArray) (w:World):q9h (w.alloc (.cells #[.string bs] 9)) w.heap.size bs:=⟨by rw [World.size_alloc];omega,z1s w _ _⟩
theorem v5n (s:ByteArray) (c:Int) (w:World) :
  Calls Tryz.prog 98 #[.string s,.int .u8 c] w fun e w'=>e = .returned (.int .i64 (Lib.indexByte s.data.toList c.toNat.toUInt8))∧w'=w:=by
 go_enter Tryz.func98,Tryz.ntmps98
 go_wp2_with fail
 refine (q5f _ _ _).mono ?_
 rintro e w2 ⟨rfl,rfl⟩
 go_wp2
 go_ret
 exact ⟨rfl,rfl⟩
theorem q6w (c:UInt8) {a:Nat} {bs:ByteArray} {w:World} (h:q9h w a bs):Calls Tryz.prog 97 #[.int .u8 (c.toNat:Int),.pointer (some ⟨a,0,none⟩)] w fun e w'=>e = .returned (.bool ((btL bs).any (· == c)))∧w=w':=by
 have hc:=h.2
 have HI:=(show Hid (_=_) from v0k (btL bs) c)
 have hu:(c.toNat:Int).toNat.toUInt8=c:=by simp
 go_enter Tryz.func97,Tryz.ntmps97
 go_wp2_with fail
 refine (v5n bs _ _).mono ?_
 rintro e w2 ⟨rfl,rfl⟩
 rw [hu]
 generalize hz:Lib.indexByte bs.data.toList c=z
 have HZ:Hid (decide (0≤z)=(btL bs).any (· == c)):=by rw [←hz];exact HI
 clear hz HI
 go_wp2
 go_ret
 exact ⟨by rw [←HZ.out];rfl,rfl⟩
end Go.Proofs.YtchdplceopegoaaGreatDoor
