import Derived.Test.YthcpdohdppkmkaaGreatDoorPu00
import Derived.Lib.Bytealg
import Derived.Lib.IndexLaws
import Derived.OwnWalkIn
import Derived.TacticsInMore
import Derived.Lib.IndexBytes
import Derived.Shelf.RegionOpen
import Derived.Deep.RegionHeld3
open Go.Proofs.Tryz
namespace Go.Proofs.YthcpdohdppkmkaaGreatDoor
open Go Go.RowKit
theorem k3k:∀(z r:List UInt8)(i:Nat),(∀x∈z,x=32)->lx (z++r) i=lx r (i+z.length)
 | [],r,i,_=>by simp
 | c::z,r,i,h=>by
  have hc:c=32:=h c (by simp);subst hc;rw[List.cons_append,k3l _ _ (by decide),k3k z r (i+1) (fun x hx=>h x (by simp[hx])),List.length_cons]
  congr 1;omega
theorem y3d{p:UInt8->Bool}:∀(l:List UInt8)x,x∈l.takeWhile p->p x=true
 | [],x,hx=>by cases hx
 | a::l,x,hx=>by
  rw[List.takeWhile_cons]at hx;by_cases ha:p a=true
  ·rw[if_pos ha]at hx;rcases List.mem_cons.1 hx with rfl|hx
   ·exact ha
   ·exact y3d l x hx
  ·rw[if_neg ha]at hx;cases hx
theorem z8g(w:List UInt8):∃z,w=q1f w++z/\∀x∈z,x=32:=by
 refine⟨(w.reverse.takeWhile (·==32)).reverse,?_,fun x hx=>?_⟩
 ·rw[q1f,<-List.reverse_append,List.takeWhile_append_dropWhile,List.reverse_reverse]
 ·have:=y3d _ _ (List.mem_reverse.1 hx)
  exact beq_iff_eq.1 this
theorem z2x(s:List UInt8):(tkW s).length<=s.length:=by
 have h1:=z1l (s.take (q0t s));rw[List.length_take]at h1;rw[tkW];omega
theorem v7v(s:List UInt8)(i:Nat):lx (s.drop (tkW s).length) (i+(tkW s).length)=lx (s.drop (q0t s)) (i+q0t s):=by
 obtain⟨z,hz,h32⟩:=z8g (s.take (q0t s));have hle:=z1j s;have hlen:=congrArg List.length hz;rw[List.length_append,List.length_take,Nat.min_eq_left hle]at hlen
 have e:s.drop (tkW s).length=z++s.drop (q0t s):=by
  have h1:s=q1f (s.take (q0t s))++(z++s.drop (q0t s)):=by
   rw[<-List.append_assoc,<-hz,List.take_append_drop]
  have h2:s.drop (tkW s).length=(q1f (s.take (q0t s))++(z++s.drop (q0t s))).drop (tkW s).length:=congrArg (List.drop _) h1;rw[h2,tkW,List.drop_left]
 rw[e,k3k z _ _ h32]
 congr 1
 rw[tkW];omega
theorem y8h{c:UInt8}{r:List UInt8}(hs:spB c=false)(ho:q5f (c::r)=true):1<=(tkW (c::r)).length:=k0q (y3b hs ho)
theorem g5b{c:UInt8}{r:List UInt8}(hl:q3w c=true):tkW (c::r)=(c::r).takeWhile q3w/\q5f (c::r)=decide (((c::r).takeWhile q3w).length<=8):=by
 refine⟨?_,?_⟩
 ·simp only[tkW,q0t,hl,if_true,List.take_succ_cons,z6x,List.takeWhile_cons];exact q8w (fun _=>k3h) c hl r
 ·simp only[q5f,hl,if_true,List.takeWhile_cons,List.length_cons]
theorem g5a{c:UInt8}{r:List UInt8}(hl:q3w c=false)(hf:q4d c=true):tkW (c::r)=(c::r).takeWhile q4d/\q5f (c::r)=(decide (((c::r).takeWhile q4d).length<=6)&&(c != 48||(c::r).takeWhile q4d==[48])):=by
 refine⟨?_,?_⟩
 ·simp only[tkW,q0t,hl,hf,if_true,Bool.false_eq_true,if_false,List.take_succ_cons,z6x,List.takeWhile_cons];exact q8w (fun _=>k2g) c hf r
 ·simp only[q5f,hl,hf,if_true,Bool.false_eq_true,if_false,List.takeWhile_cons,List.length_cons]
  congr 1
  by_cases h:c=48
  ·subst h;cases hr:r.takeWhile q4d with
   | nil=>rfl
   | cons a b=>
    simp
  ·have:(c != 48)=true:=by simp[h]
   rw[this];rfl
theorem y1c{p:UInt8->Bool}:∀l:List UInt8,(l.takeWhile p==l)=l.all p
 | []=>rfl
 | a::l=>by
  rw[List.takeWhile_cons,List.all_cons];cases h:p a with
  | true=>
   rw[if_pos rfl,<-y1c l];simp
  | false=>simp
theorem g0h{c:UInt8}{r:List UInt8}(hl:q3w c=false)(hf:q4d c=false)(hn:c=35):tkW (c::r)=q1f ((c::r).takeWhile nlB)/\q5f (c::r)=((q1f ((c::r).takeWhile nlB)).takeWhile prB==q1f ((c::r).takeWhile nlB)):=by
 subst hn;have e0:(35::r:List UInt8).takeWhile nlB=35::r.takeWhile nlB:=by rw[List.takeWhile_cons];rfl
 refine⟨?_,?_⟩
 ·simp only[tkW,q0t,hl,hf,if_true,Bool.false_eq_true,if_false,List.take_succ_cons,z6x,beq_self_eq_true,e0]
 ·rw[y1c,e0];simp only[q5f,hl,hf,if_true,Bool.false_eq_true,if_false,beq_self_eq_true];obtain⟨z,hz,h32⟩:=z8g (35::r.takeWhile nlB)
  have h1:(35::r.takeWhile nlB).all prB=((q1f (35::r.takeWhile nlB)).all prB&&z.all prB):=by
   rw[<-List.all_append,<-hz]
  have h2:z.all prB=true:=by
   rw[List.all_eq_true];intro x hx;rw[h32 x hx];decide
  rw[h2,Bool.and_true,List.all_cons]at h1;rw[<-h1];rfl
theorem g0g{c:UInt8}{r:List UInt8}(hs:spB c=false)(hl:q3w c=false)(hf:q4d c=false)(hn:(c==35)=false):tkW (c::r)=[c]/\q5f (c::r)=y8y c:=by
 refine⟨?_,?_⟩
 ·simp only[tkW,q0t,hl,hf,hn,Bool.false_eq_true,if_false,List.take_succ_cons,List.take_zero];exact q1m [] (j3u hs)
 ·simp only[q5f,hl,hf,hn,Bool.false_eq_true,if_false]
theorem v0o:∀l:List UInt8,Lib.indexByte l 10=-1->l.takeWhile nlB=l
 | [],_=>rfl
 | b::l,h=>by
  unfold Lib.indexByte at h;have hge:=Lib.indexByte_ge l 10
  split at h
  ·cases h
  ·rename_i hb;have hb':nlB b=true:=by simpa[nlB]using hb
   split at h
   ·rename_i h1;rw[List.takeWhile_cons,if_pos hb',v0o l (by simpa using h1)]
   ·omega
theorem y2h:∀(l:List UInt8)(i:Nat),Lib.indexByte l 10=i->l.takeWhile nlB=l.take i/\i+1<=l.length
 | [],i,h=>by simp[Lib.indexByte]at h
 | b::l,i,h=>by
  unfold Lib.indexByte at h;have hge:=Lib.indexByte_ge l 10
  split at h
  ·rename_i hb
   have:i=0:=by omega
   subst this;have hb':nlB b=false:=by simpa[nlB]using hb
   rw[List.takeWhile_cons,if_neg (by simp[hb'])];simp
  ·rename_i hb;have hb':nlB b=true:=by simpa[nlB]using hb
   split at h
   ·omega
   ·rename_i h1;have h1':Lib.indexByte l 10≠-1:=by simpa using h1
    obtain⟨j,rfl⟩:∃j,i=j+1:=⟨i-1,by omega⟩;obtain⟨e1,e2⟩:=y2h l j (by omega);rw[List.takeWhile_cons,if_pos hb',e1,List.take_succ_cons];exact⟨rfl,by simp;omega⟩
theorem y1s:∀(l:List UInt8)(c:UInt8),decide (0<=Lib.indexByte l c)=l.any (·==c)
 | [],c=>rfl
 | b::l,c=>by
  unfold Lib.indexByte;have hge:=Lib.indexByte_ge l c;have ih:=y1s l c;rw[List.any_cons,<-ih];cases hb:(b==c)with
  | true=>simp
  | false=>
   simp only[Bool.false_eq_true,if_false,Bool.false_or];by_cases h:Lib.indexByte l c=-1
   ·simp[h]
   ·have h2:(Lib.indexByte l c==-1)=false:=by simpa using h
    rw[h2];simp only[Bool.false_eq_true,if_false];rw[decide_eq_true (by omega),decide_eq_true (by omega)]
end Go.Proofs.YthcpdohdppkmkaaGreatDoor
namespace Go.Proofs.YthcpdohdppkmkaaGreatDoor
open Go Go.RowKit Go.Lib Go.Shelf
set_option maxRecDepth 100000
set_option maxHeartbeats 1000000
theorem q6r(s:ByteArray)(c:Int)(w:World):
  Calls prog 141 #[.string s,.int .u8 c] w fun e w'=>e=.returned (.int .i64 (Lib.indexByte s.data.toList c.toNat.toUInt8))/\w'=w:=by
 go_in;go_wp2;rw[run_callFunc_extern func193 (by kernel_rfl) (by kernel_rfl) (by kernel_rfl) (e:=Extern.BytealgIndexByte.indexByte) (by kernel_rfl),Lib.run_indexByteString];simp only[Result.andThen];rw[Oper.upon_value];go_wp2;go_ret;exact⟨rfl,rfl⟩
theorem z0p(s:ByteArray)(w:World):
  Calls prog 194 #[.string s,.string ⟨#[10]⟩] w fun e w'=>e=.returned (.int .i64 (Lib.indexByte s.data.toList 10))/\w'=w:=by
 go_in;go_wp2_with(go_at_call 141;refine(q6r _ _ _).mono ?_;rintro e w'⟨rfl,rfl⟩)
 ·have h:([10]==s.toList)=true:=by assumption
  go_ret;refine⟨?_,rfl⟩;have e:s.data.toList=[10]:=by rw[<-Lib.toList_data];exact(beq_iff_eq.1 h).symm
  rw[e];simp[Lib.indexByte]
 ·go_ret;exact⟨rfl,rfl⟩
theorem z7d(s:ByteArray)(w:World)(h:Lib.indexByte s.data.toList 10=-1):
  Calls prog 143 #[.string s,.string ⟨#[10]⟩] w fun e w'=>e=.returned (.tuple #[.string s,.string ⟨#[]⟩,.bool false])/\∃n,w'=w.drewN n:=by
 go_in;go_wp2_with(go_at_call 194;refine(z0p _ _).mono ?_;rintro e w'⟨rfl,rfl⟩;rw[h]);go_ret3;exact⟨rfl,0,rfl⟩
theorem k2b(s:ByteArray)(w:World)(i:Nat)(h:Lib.indexByte s.data.toList 10=i)(hi:i+1<=s.size)(hb:s.size<=100000000):
  Calls prog 143 #[.string s,.string ⟨#[10]⟩] w fun e w'=>e=.returned (.tuple #[.string (s.extract 0 i),.string (s.extract (i+1) s.size),.bool true])/\∃n,w'=w.drewN n:=by
 have c1:(0:Int)<=↑i:=by omega
 have c2:(↑i:Int)<=↑s.size:=by omega
 have c3:(0:Int)<=↑i+1:=by omega
 have c4:(↑i+1:Int)<=↑s.size:=by omega
 have c5:(↑i:Int)<=100000000:=by omega
 go_in;go_wp2_with(go_at_call 194;refine(z0p _ _).mono ?_;rintro e w'⟨rfl,rfl⟩;rw[h])
 go_region
 go_wp2;go_ret3;exact⟨rfl,1,rfl⟩
end Go.Proofs.YthcpdohdppkmkaaGreatDoor
namespace Go.Proofs.YthcpdohdppkmkaaGreatDoor
open Go Go.RowKit
set_option maxRecDepth 100000
set_option maxHeartbeats 1000000
theorem k9w(t:ByteArray)(k:Nat):t.extract 0 k=wbS ((btL t).take k):=by
 rw[k8t,List.drop_zero,Nat.sub_zero]
theorem k9v(t:ByteArray)(k:Nat):btL (t.extract k t.size)=(btL t).drop k:=Lib.extract_to_end t k
def q9e(lo hi:Nat)(c:UInt8):Bool:=decide (lo<=c.toNat)&&decide (c.toNat<=hi)
theorem z4o(w:World)(v:Value)(t:TypeId):(w.alloc (.cells #[v] t)).cell? ⟨w,0,none⟩=some v:=by
 have h:(w.alloc (.cells #[v] t)).heap[w.heap.size]?=some (.cells #[v] t):=by
  show(w.heap.push (.cells #[v] t))[w.heap.size]?=_
  simp
 simp only[World.cell?,Option.isSome_none,Bool.false_eq_true,if_false,h];rfl
theorem j6m{w:World}{o:Obj}{b k:Nat}(h:b<w.heap.size):(w.alloc o).cell? ⟨b,k,none⟩=w.cell? ⟨b,k,none⟩:=by
 simp[World.cell?,Below.heap_alloc w o b h]
structure q4k(w:World)(a b lo hi:Nat):Prop where
 la:a<w.heap.size
 lb:b<w.heap.size
 ca:w.cell? ⟨a,0,none⟩=some (.int .u8 (lo:Int))
 cb:w.cell? ⟨b,0,none⟩=some (.int .u8 (hi:Int))
theorem q4k.W{w w':World}{a b lo hi:Nat}(h:q4k w a b lo hi)(hb:Below w w w'):q4k w' a b lo hi:=
 {la:=Nat.lt_of_lt_of_le h.la hb.size,lb:=Nat.lt_of_lt_of_le h.lb hb.size,ca:=(hb.cell (p:=⟨a,0,none⟩) h.la).trans h.ca,cb:=(hb.cell (p:=⟨b,0,none⟩) h.lb).trans h.cb}
abbrev g0v(a b:Nat):Value:=.func (.func 142) #[] #[.pointer (some ⟨a,0,none⟩),.pointer (some ⟨b,0,none⟩)]
theorem q4p(lo hi:Nat)(w:World):Calls prog 87 #[.int .u8 (lo:Int),.int .u8 (hi:Int)] w fun e w'=>(∃a b,e=.returned (g0v a b)/\q4k w' a b lo hi)/\Below w w w':=by
 go_in;go_wp2;go_ret;refine⟨⟨w.heap.size,w.heap.size+1,rfl,?_⟩,?_⟩
 ·refine{la:=?_,lb:=?_,ca:=?_,cb:=?_}
  ·rw[World.size_alloc,World.size_alloc];omega
  ·rw[World.size_alloc,World.size_alloc];omega
  ·rw[j6m (by rw[World.size_alloc];omega)];exact z4o w _ _
  ·have h:=z4o (w.alloc (.cells #[.int .u8 (lo:Int)] 5)) (.int .u8 (hi:Int)) 5;rw[World.size_alloc]at h;exact h
 ·exact((Below.refl w.heap.size w).alloc Zl _).alloc (by rw[World.size_alloc];omega) _
theorem q3l(c:UInt8){a b lo hi:Nat}{w:World}(h:q4k w a b lo hi):Calls prog 142 #[.int .u8 (c.toNat:Int),.pointer (some ⟨a,0,none⟩),.pointer (some ⟨b,0,none⟩)] w fun e w'=>e=.returned (.bool (q9e lo hi c))/\w=w':=by
 obtain⟨_,_,ca,cb⟩:=h;by_cases h1:(lo:Int)<=(c.toNat:Int)
 ·by_cases h2:(c.toNat:Int)<=(hi:Int)
  ·have HE:Hid (q9e lo hi c=true):=by show q9e lo hi c=true;simp[q9e];omega
   go_in;go_wp2;go_ret;exact⟨by rw[HE.o];rfl,rfl⟩
  ·have HE:Hid (q9e lo hi c=false):=by show q9e lo hi c=false;simp[q9e];omega
   go_in;go_wp2;go_ret;exact⟨by rw[HE.o];rfl,rfl⟩
 ·have HE:Hid (q9e lo hi c=false):=by show q9e lo hi c=false;simp[q9e];omega
  go_in;go_wp2;go_ret;exact⟨by rw[HE.o];rfl,rfl⟩
theorem k7h(t:ByteArray){a b lo hi:Nat}{w:World}(h:q4k w a b lo hi)(hs:t.size<=60000):
  Calls prog 88 #[.string t,g0v a b] w fun e w'=>e=.returned (.string (wbS ((btL t).takeWhile (q9e lo hi))))/\w=w':=by
 have HF:Hid (q4k w a b lo hi):=h;clear h;go_in;go_wp2_with fail
 go_loopw [5] (fun n wr=>wr=w/\∃k:Nat,n=.int .i64 (k:Int)/\k<=t.size/\k+twN (q9e lo hi) t k=twN (q9e lo hi) t 0) (fun n _=>t.size-(intOf n).toNat)
 case atStart=>exact⟨rfl,0,rfl,Nat.zero_le _,by omega⟩
 case round=>
  obtain⟨rfl,k,rfl,hk,htw⟩:=hrel;have HT:Hid (k+twN (q9e lo hi) t k=twN (q9e lo hi) t 0):=htw;clear htw
  have hsl:twN (q9e lo hi) t k=0->t.extract 0 k=wbS ((btL t).takeWhile (q9e lo hi)):=fun e1=>by
   have e2:=HT.o
   have e3:((btL t).takeWhile (q9e lo hi)).length=k:=by
    rw[twN,twN,List.drop_zero]at e2;rw[twN]at e1;omega
   rw[k9w,<-e3,z6x]
  by_cases hlt:k<t.size
  ·have hki:(k:Int)<(t.size:Int):=by omega
   cases hp:q9e lo hi t[k]with
   | true=>
    have HN:Hid (k+1+twN (q9e lo hi) t (k+1)=twN (q9e lo hi) t 0):=by
     show _=_
     have:=y8l hlt hp
     have:=HT.o
     omega
    go_wp2_with fail;refine(q3l t[k] HF.o).mono ?_;rintro e w2⟨rfl,rfl⟩;rw[hp];go_wp2
    go_roundw
    case rel=>exact⟨by trivial,k+1,by go_num,by omega,HN.o⟩
    case measure=>simp[intOf];omega
   | false=>
    have HS:=(show Hid (_)from hsl (g3g hlt hp));go_wp2_with fail;refine(q3l t[k] HF.o).mono ?_;rintro e w2⟨rfl,rfl⟩;rw[hp];go_wp2;go_ret;exact⟨by rw[HS.o];rfl,rfl⟩
  ·have hki:¬(k:Int)<(t.size:Int):=by omega
   have HS:=(show Hid (_)from hsl (y8k hlt));go_wp2;go_ret;exact⟨by rw[HS.o];rfl,rfl⟩
def g5u:Value->Nat
 | .string u=>u.size
 | _=>0
theorem j5r(w:World)(n:Nat):Below w w (w.drewN n):=(Below.refl w.heap.size w).trans ⟨rfl,rfl,rfl,Nat.le_refl _,fun _ _=>rfl⟩
theorem z7n(u:ByteArray)(h:0<u.size):btL u=btL (u.extract 0 (u.size-1))++[u[u.size-1]]:=by
 have hl:u.size-1<(btL u).length:=by rw[q0b];omega
 have e1:btL (u.extract 0 (u.size-1))=(btL u).take (u.size-1):=by rw[k9w];rfl
 have e2:=List.take_succ_eq_append_getElem hl;have e3:u.size-1+1=(btL u).length:=by rw[q0b];omega
 rw[e3,List.take_length]at e2;rw[e1];exact e2
theorem v3e(t:ByteArray)(w:World)(hs:t.size<=60000):
  Calls prog 144 #[.string t,.int .u8 32] w fun e w'=>e=.returned (.string (wbS (q1f (btL t))))/\w=w':=by
 go_in;go_wp2_with fail
 go_loopw [0] (fun x wr=>wr=w/\∃u:ByteArray,x=.string u/\u.size<=60000/\q1f (btL u)=q1f (btL t)) (fun x _=>g5u x)
 case atStart=>exact⟨rfl,t,rfl,hs,rfl⟩
 case round=>
  obtain⟨rfl,u,rfl,hu,htr⟩:=hrel;have HT:Hid (q1f (btL u)=q1f (btL t)):=htr;clear htr;by_cases h0:0<u.size
  ·have h0i:(0:Int)<(u.size:Int):=by omega
   have HL:Hid (btL u=btL (u.extract 0 (u.size-1))++[u[u.size-1]]):=z7n u h0;cases hb:(u[u.size-1]==32)with
   | true=>
    have hbi:((u[u.size-1].toNat:Int)==32)=true:=by rw[show(32:Int)=((32:Nat):Int)from rfl,j4p _ 32 (by decide)];exact hb
    have HE:Hid (q1f (btL (u.extract 0 (u.size-1)))=q1f (btL t)):=by
     show _=_;rw[<-HT.o,HL.o,beq_iff_eq.1 hb,z5x]
    have hsz:(u.extract 0 (u.size-1)).size=u.size-1:=by rw[ByteArray.size_extract];omega
    have HSZ:=(show Hid (_=_)from hsz);clear hb hsz;go_wp2;exact⟨⟨by trivial,_,rfl,by rw[HSZ.o];omega,HE.o⟩,by show(u.extract 0 (u.size-1)).size<u.size;rw[HSZ.o];omega⟩
   | false=>
    have hbi:((u[u.size-1].toNat:Int)==32)=false:=by rw[show(32:Int)=((32:Nat):Int)from rfl,j4p _ 32 (by decide)];exact hb
    have HE:Hid (u=wbS (q1f (btL t))):=by
     show _=_;rw[<-HT.o,HL.o,q1m _ (by simpa using hb),<-z7n u h0];rfl
    clear hb;go_wp2;go_ret;exact⟨by rw[<-HE.o];rfl,rfl⟩
  ·have h0i:¬(0:Int)<(u.size:Int):=by omega
   have HE:Hid (u=wbS (q1f (btL t))):=by
    show _=_;have e1:btL u=[]:=List.eq_nil_of_length_eq_zero (by rw[q0b];omega);rw[<-HT.o,e1,v3f];show u=⟨#[]⟩;apply ByteArray.ext;exact Array.toList_inj.1 e1
   go_wp2;go_ret;exact⟨by rw[<-HE.o];rfl,rfl⟩
theorem v3g(t:ByteArray)(w:World)(h0:0<t.size)(hs:t.size<=60000):
  Calls prog 90 #[.string t,.string ⟨#[32]⟩] w fun e w'=>e=.returned (.string (wbS (q1f (btL t))))/\w=w':=by
 have h1:(t.toList==[])=false:=by
  rw[Lib.toList_data]
  have:=(show t.data.toList.length=t.size from q0b t)
  cases h:t.data.toList with
  | nil=>rw[h]at this;simp at this;omega
  | cons a b=>rfl
 go_in;go_wp2_with fail;refine(v3e t _ hs).mono ?_;rintro e w2⟨rfl,rfl⟩;go_wp2;go_ret;exact⟨rfl,rfl⟩
def k2t(t:ByteArray):ByteArray:=wbS ((btL t).takeWhile nlB)
theorem v9h(t:ByteArray)(w:World)(hs:t.size<=60000):
  Calls prog 89 #[.string t,.string ⟨#[10]⟩] w fun e w'=>(∃r b,e=.returned (.tuple #[.string (k2t t),.string r,.bool b]))/\Below w w w':=by
 have hge:=Lib.indexByte_ge t.data.toList 10;by_cases hm:Lib.indexByte t.data.toList 10=-1
 ·have HE:Hid (t=k2t t):=by
   show t=wbS ((btL t).takeWhile nlB);rw[v0o _ hm];rfl
  go_in;go_wp2_with(go_at_call 143;refine(z7d _ _ hm).mono ?_;rintro e w'⟨rfl,n,rfl⟩);go_ret3;exact⟨⟨_,_,by rw[<-HE.o];rfl⟩,j5r _ _⟩
 ·obtain⟨i,hi⟩:∃i:Nat,Lib.indexByte t.data.toList 10=i:=⟨(Lib.indexByte t.data.toList 10).toNat,by omega⟩;obtain⟨e1,e2⟩:=y2h _ i hi;have hi1:i+1<=t.size:=by rw[<-q0b];exact e2
  have HE:Hid (t.extract 0 i=k2t t):=by
   show t.extract 0 i=wbS ((btL t).takeWhile nlB);rw[k9w,e1]
  clear e1 e2 hge hm;go_in;go_wp2_with(go_at_call 143;refine(k2b _ _ _ hi hi1 (by omega)).mono ?_;rintro e w'⟨rfl,n,rfl⟩);go_ret3;exact⟨⟨_,_,by rw[<-HE.o];rfl⟩,j5r _ _⟩
abbrev g6p(a:Nat):Value:=.func (.func 85) #[] #[.pointer (some ⟨a,0,none⟩)]
def z1x(w:World)(a:Nat)(bs:ByteArray):Prop:=a<w.heap.size/\w.cell? ⟨a,0,none⟩=some (.string bs)
theorem z1x.W{B:Nat}{w w':World}{a:Nat}{bs:ByteArray}(h:z1x w a bs)(hB:a<B)(hb:Below B w w'):z1x w' a bs:=
 ⟨Nat.lt_of_lt_of_le h.1 hb.size,(hb.cell (p:=⟨a,0,none⟩) hB).trans h.2⟩
theorem k3t(bs:ByteArray)(w:World):Calls prog 49 #[.string bs] w fun e w'=>e=.returned (g6p w.heap.size)/\w'=w.alloc (.cells #[.string bs] 9):=by
 go_in;go_wp2;go_ret;exact⟨rfl,rfl⟩
theorem z1x.new(bs:ByteArray)(w:World):z1x (w.alloc (.cells #[.string bs] 9)) w.heap.size bs:=⟨by rw[World.size_alloc];omega,z4o w _ _⟩
theorem y7w(s:ByteArray)(c:Int)(w:World):
  Calls prog 86 #[.string s,.int .u8 c] w fun e w'=>e=.returned (.int .i64 (Lib.indexByte s.data.toList c.toNat.toUInt8))/\w'=w:=by
 go_in;go_wp2_with fail;refine(q6r _ _ _).mono ?_;rintro e w2⟨rfl,rfl⟩;go_wp2;go_ret;exact⟨rfl,rfl⟩
theorem q8r(c:UInt8){a:Nat}{bs:ByteArray}{w:World}(h:z1x w a bs):Calls prog 85 #[.int .u8 (c.toNat:Int),.pointer (some ⟨a,0,none⟩)] w fun e w'=>e=.returned (.bool ((btL bs).any (·==c)))/\w=w':=by
 have hc:=h.2;have HI:=(show Hid (_=_)from y1s (btL bs) c);have hu:(c.toNat:Int).toNat.toUInt8=c:=by simp
 go_in;go_wp2_with fail;refine(y7w bs _ _).mono ?_;rintro e w2⟨rfl,rfl⟩;rw[hu];generalize hz:Lib.indexByte bs.data.toList c=z;have HZ:Hid (decide (0<=z)=(btL bs).any (·==c)):=by rw[<-hz];exact HI
 clear hz HI;go_wp2;go_ret;exact⟨by rw[<-HZ.o];rfl,rfl⟩
set_option maxHeartbeats 2000000
theorem q4b(l:List UInt8):(wbS l).size=l.length:=by
 rw[<-q0b];rfl
theorem q6n{t:ByteArray}(h:0<t.size):btL t=t[0]::(btL t).drop 1:=by
 have hd:=q2c h;rw[List.drop_zero,Nat.zero_add]at hd;exact hd
theorem j7k(n m:Nat):decide (n<=m)=decide ((n:Int)<=(m:Int)):=by
 by_cases h:n<=m
 ·rw[decide_eq_true h,decide_eq_true (by omega)]
 ·rw[decide_eq_false h,decide_eq_false (by omega)]
theorem v8n{w:World}{a:Nat}{bs:ByteArray}(h:z1x w a bs):z1x w.drew a bs:=h
abbrev z1u(t:ByteArray)(w:World)(e:Ending)(w':World):Prop:=e=.returned (.tuple #[.string (wbS (tkW (btL t))),.bool (q5f (btL t))])/\Below w w w'
theorem j7z(t:ByteArray)(w:World)(h0:0<t.size)(hs:t.size<=60000)(hl:q3w t[0]=true):Calls prog 50 #[.string t] w fun e w'=>z1u t w e w':=by
 obtain⟨e1,e2⟩:=g5b (c:=t[0]) (r:=(btL t).drop 1) hl;rw[<-q6n h0]at e1 e2;have HL:Hid (q9e 97 122 t[0]=true):=hl
 have HN:Hid (wbS ((btL t).takeWhile (q9e 97 122))=wbS (tkW (btL t))):=by
  show _=_;rw[e1];rfl
 have HS:Hid (q5f (btL t)=decide (((wbS (tkW (btL t))).size:Int)<=8)):=by
  show _=_;rw[e2,q4b,e1,j7k];rfl
 have hz:(wbS (tkW (btL t))).size<=60000:=by
  rw[q4b];exact Nat.le_trans (z2x _) (by rw[q0b];exact hs)
 generalize hW:wbS (tkW (btL t))=W at HN HS hz;generalize hO:q5f (btL t)=O at HS;have HW:=(show Hid (_=_)from hW);have HO:=(show Hid (_=_)from hO);clear e1 e2 hl hW hO;go_in;go_wp2_with fail;refine(q4p 97 122 _).mono ?_;rintro e w1⟨⟨a1,b1,rfl,hF1⟩,hb1⟩;go_wp2_with fail;refine(q4p 48 57 _).mono ?_;rintro e w2⟨⟨a2,b2,rfl,hF2⟩,hb2⟩;have HF:Hid (q4k w2 a1 b1 97 122):=hF1.W hb2;have HG:Hid (q4k w2 a2 b2 48 57):=hF2;have HB:Hid (Below w w w2):=q0c hb1 Zl hb2;clear hF1 hF2 hb1 hb2;go_wp2_with fail;refine(q3l t[0] HF.o).mono ?_;rintro e w3⟨rfl,rfl⟩;rw[HL.o];go_wp2_with fail;refine(k7h t HF.o hs).mono ?_;rintro e w3⟨rfl,rfl⟩;rw[HN.o];go_wp2;refine bodyPost_ret (v:=.tuple #[.string W,.bool O]) (by rw[HS.o];simp[results,Tryz.results50,go_sem]) rfl ?_;exact⟨by rw[HW.o,HO.o],HB.o⟩
theorem j7y(t:ByteArray)(w:World)(h0:0<t.size)(hs:t.size<=60000)(hl:q3w t[0]=false)(hf:q4d t[0]=true):Calls prog 50 #[.string t] w fun e w'=>z1u t w e w':=by
 obtain⟨e1,e2⟩:=g5a (c:=t[0]) (r:=(btL t).drop 1) hl hf;rw[<-q6n h0]at e1 e2;have HL:Hid (q9e 97 122 t[0]=false):=hl;have HD:Hid (q9e 48 57 t[0]=true):=hf
 have HN:Hid (wbS ((btL t).takeWhile (q9e 48 57))=wbS (tkW (btL t))):=by
  show _=_;rw[e1];rfl
 have HS:Hid (q5f (btL t)=(decide (((wbS (tkW (btL t))).size:Int)<=6)&&((t[0].toNat:Int) != 48||(wbS (tkW (btL t))).toList==[48]))):=by
  show _=_
  have e48:((t[0].toNat:Int) != 48)=(t[0] != 48):=by
   show(!((t[0].toNat:Int)==48))=(!(t[0]==48))
   rw[show(48:Int)=((48:Nat):Int)from rfl,j4p _ 48 (by decide)];rfl
  have el:(wbS (tkW (btL t))).toList=tkW (btL t):=by rw[Lib.toList_data];rfl
  rw[e48,el,e2,q4b,e1,j7k];rfl
 have hz:(wbS (tkW (btL t))).size<=60000:=by
  rw[q4b];exact Nat.le_trans (z2x _) (by rw[q0b];exact hs)
 generalize hW:wbS (tkW (btL t))=W at HN HS hz;generalize hO:q5f (btL t)=O at HS;have HW:=(show Hid (_=_)from hW);have HO:=(show Hid (_=_)from hO)
 have hcs:(¬(W.size:Int)<=6/\Hid (O=false))\/((W.size:Int)<=6/\((t[0].toNat:Int) != 48)=true/\Hid (O=true))\/((W.size:Int)<=6/\((t[0].toNat:Int) != 48)=false/\Hid (O=(W.toList==[48]))):=by
  have hS:=HS.o;by_cases g1:(W.size:Int)<=6
  ·rw[decide_eq_true g1,Bool.true_and]at hS;cases g2:((t[0].toNat:Int) != 48)with
   | true=>rw[g2,Bool.true_or]at hS;exact .inr (.inl ⟨g1,rfl,hS⟩)
   | false=>rw[g2,Bool.false_or]at hS;exact .inr (.inr ⟨g1,rfl,hS⟩)
  ·rw[decide_eq_false g1,Bool.false_and]at hS;exact .inl ⟨g1,hS⟩
 clear e1 e2 hl hf hW hO HS;go_in;go_wp2_with fail;refine(q4p 97 122 _).mono ?_;rintro e w1⟨⟨a1,b1,rfl,hF1⟩,hb1⟩;go_wp2_with fail;refine(q4p 48 57 _).mono ?_;rintro e w2⟨⟨a2,b2,rfl,hF2⟩,hb2⟩;have HF:Hid (q4k w2 a1 b1 97 122):=hF1.W hb2;have HG:Hid (q4k w2 a2 b2 48 57):=hF2;have HB:Hid (Below w w w2):=q0c hb1 Zl hb2;clear hF1 hF2 hb1 hb2;go_wp2_with fail;refine(q3l t[0] HF.o).mono ?_;rintro e w3⟨rfl,rfl⟩;rw[HL.o];go_wp2_with fail;refine(q3l t[0] HG.o).mono ?_;rintro e w3⟨rfl,rfl⟩;rw[HD.o];go_wp2_with fail;refine(k7h t HG.o hs).mono ?_;rintro e w3⟨rfl,rfl⟩;rw[HN.o];rcases hcs with⟨c1,HC⟩|⟨c1,c2,HC⟩|⟨c1,c2,HC⟩
 all_goals
  go_wp2;refine bodyPost_ret (v:=.tuple #[.string W,.bool O]) (by rw[HC.o];simp[results,Tryz.results50,go_sem]) rfl ?_;exact⟨by rw[HW.o,HO.o],HB.o⟩
theorem j2v(t:ByteArray)(w:World)(h0:0<t.size)(hs:t.size<=60000)(hl:q3w t[0]=false)(hf:q4d t[0]=false)(hn:t[0]=35):Calls prog 50 #[.string t] w fun e w'=>z1u t w e w':=by
 obtain⟨e1,e2⟩:=g0h (c:=t[0]) (r:=(btL t).drop 1) hl hf hn;rw[<-q6n h0]at e1 e2;have HL:Hid (q9e 97 122 t[0]=false):=hl;have HD:Hid (q9e 48 57 t[0]=false):=hf;have hni:((t[0].toNat:Int)==35)=true:=by rw[hn];rfl
 have HN:Hid (wbS (q1f (btL (k2t t)))=wbS (tkW (btL t))):=by
  show _=_;rw[e1];rfl
 have hll:(k2t t).size<=60000/\0<(k2t t).size:=by
  have h1:=j1v nlB (btL t);rw[q0b]at h1;rw[k2t,q4b];refine⟨by omega,?_⟩;rw[q6n h0,List.takeWhile_cons,if_pos (by rw[hn];rfl)];simp
 have HS:Hid (q5f (btL t)=((wbS ((btL (wbS (tkW (btL t)))).takeWhile (q9e 32 126))).toList==(wbS (tkW (btL t))).toList)):=by
  show _=_;rw[Lib.toList_data,Lib.toList_data,e2,e1];rfl
 have hz:(wbS (tkW (btL t))).size<=60000:=by
  rw[q4b];exact Nat.le_trans (z2x _) (by rw[q0b];exact hs)
 generalize hW:wbS (tkW (btL t))=W at HN HS hz;generalize hO:q5f (btL t)=O at HS;have HW:=(show Hid (_=_)from hW);have HO:=(show Hid (_=_)from hO);generalize hM:wbS ((btL W).takeWhile (q9e 32 126))=M at HS;have HM:=(show Hid (_=_)from hM);obtain⟨hl1,hl2⟩:=hll;clear e1 e2 hl hf hn hW hO hM;go_in;go_wp2_with fail;refine(q4p 97 122 _).mono ?_;rintro e w1⟨⟨a1,b1,rfl,hF1⟩,hb1⟩;go_wp2_with fail;refine(q4p 48 57 _).mono ?_;rintro e w2⟨⟨a2,b2,rfl,hF2⟩,hb2⟩;have HF:Hid (q4k w2 a1 b1 97 122):=hF1.W hb2;have HG:Hid (q4k w2 a2 b2 48 57):=hF2;have HB:Hid (Below w w w2):=q0c hb1 Zl hb2;clear hF1 hF2 hb1 hb2;go_wp2_with fail;refine(q3l t[0] HF.o).mono ?_;rintro e w3⟨rfl,rfl⟩;rw[HL.o];go_wp2_with fail;refine(q3l t[0] HG.o).mono ?_;rintro e w3⟨rfl,rfl⟩;rw[HD.o];go_wp2_with fail;refine(v9h t _ hs).mono ?_;rintro e w3⟨⟨r,b,rfl⟩,hb3⟩;go_wp2_with fail;refine(v3g (k2t t) _ hl2 hl1).mono ?_;rintro e w4⟨rfl,rfl⟩;rw[HN.o];go_wp2_with fail;refine(q4p 32 126 _).mono ?_;rintro e w4⟨⟨a4,b4,rfl,hF4⟩,hb4⟩;have HK:Hid (q4k w4 a4 b4 32 126):=hF4;have HB4:Hid (Below w w w4):=q0c (q0c HB.o Zl hb3) Zl hb4;clear hF4 hb3 hb4;go_wp2_with fail;refine(k7h W HK.o hz).mono ?_;rintro e w5⟨rfl,rfl⟩;rw[HM.o];go_wp2;refine bodyPost_ret (v:=.tuple #[.string W,.bool O]) (by rw[HS.o];simp[results,Tryz.results50,go_sem]) rfl ?_;exact⟨by rw[HW.o,HO.o],HB4.o⟩
theorem j2u(t:ByteArray)(w:World)(h0:0<t.size)(hs:t.size<=60000)(hsp:spB t[0]=false)(hl:q3w t[0]=false)(hf:q4d t[0]=false)(hn:(t[0]==35)=false):Calls prog 50 #[.string t] w fun e w'=>z1u t w e w':=by
 obtain⟨e1,e2⟩:=g0g (c:=t[0]) (r:=(btL t).drop 1) hsp hl hf hn;rw[<-q6n h0]at e1 e2;have HL:Hid (q9e 97 122 t[0]=false):=hl;have HD:Hid (q9e 48 57 t[0]=false):=hf;have h1i:(1:Int)<=(t.size:Int):=by omega
 have h2i:(0:Int)<(t.size:Int):=by omega
 have hni:((t[0].toNat:Int)==35)=false:=by rw[show(35:Int)=((35:Nat):Int)from rfl,j4p _ 35 (by decide)];exact hn
 have HN:Hid (t.extract 0 1=wbS (tkW (btL t))):=by
  show _=_
  have e3:(btL t).take 1=[t[0]]:=by
   have h3:=congrArg (List.take 1) (q6n h0);rw[List.take_succ_cons,List.take_zero]at h3;exact h3
  rw[e1,k9w,e3]
 have HS:Hid (q5f (btL t)=(btL (⟨#[40,41,91,93,44,43,42,61,59]⟩:ByteArray)).any (·==t[0])):=by
  show _=_;rw[e2];rfl
 have hz:(wbS (tkW (btL t))).size<=60000:=by
  rw[q4b];exact Nat.le_trans (z2x _) (by rw[q0b];exact hs)
 generalize hW:wbS (tkW (btL t))=W at HN HS hz;generalize hO:q5f (btL t)=O at HS;have HW:=(show Hid (_=_)from hW);have HO:=(show Hid (_=_)from hO);clear e1 e2 hl hf hn hsp hW hO;go_in;go_wp2_with fail;refine(q4p 97 122 _).mono ?_;rintro e w1⟨⟨a1,b1,rfl,hF1⟩,hb1⟩;go_wp2_with fail;refine(q4p 48 57 _).mono ?_;rintro e w2⟨⟨a2,b2,rfl,hF2⟩,hb2⟩;have HF:Hid (q4k w2 a1 b1 97 122):=hF1.W hb2;have HG:Hid (q4k w2 a2 b2 48 57):=hF2;have HB:Hid (Below w w w2):=q0c hb1 Zl hb2;clear hF1 hF2 hb1 hb2;go_wp2_with fail;refine(q3l t[0] HF.o).mono ?_;rintro e w3⟨rfl,rfl⟩;rw[HL.o];go_wp2_with fail;refine(q3l t[0] HG.o).mono ?_;rintro e w3⟨rfl,rfl⟩;rw[HD.o];go_wp2_with fail
 go_region_held3 (fun _=>True) (trivial) (first|(go_at_call 49;refine(k3t _ _).mono ?_;rintro e w3⟨rfl,rfl⟩)|(go_at_call 85;refine(q8r t[0] (z1x.new _ _)).mono ?_;rintro e w4⟨rfl,rfl⟩;rw[<-HS.o])|(go_at_call 85;refine(q8r t[0] (v8n (z1x.new _ _))).mono ?_;rintro e w4⟨rfl,rfl⟩;rw[<-HS.o]))
 all_goals
  go_wp2;refine bodyPost_ret (v:=.tuple #[.string (t.extract 0 1),.bool O]) (by simp[results,Tryz.results50,go_sem]) rfl ?_;exact⟨by rw[HN.o,HW.o,HO.o],(HB.o.alloc HB.o.size _).trans ⟨rfl,rfl,rfl,Nat.le_refl _,fun _ _=>rfl⟩⟩
theorem j7x(t:ByteArray)(w:World)(h0:0<t.size)(hs:t.size<=60000)(hsp:spB t[0]=false):Calls prog 50 #[.string t] w fun e w'=>z1u t w e w':=by
 cases hl:q3w t[0]with
 | true=>exact j7z t w h0 hs hl
 | false=>
  cases hf:q4d t[0]with
  | true=>exact j7y t w h0 hs hl hf
  | false=>
   cases hn:(t[0]==35)with
   | true=>exact j2v t w h0 hs hl hf (beq_iff_eq.1 hn)
   | false=>exact j2u t w h0 hs hsp hl hf hn
end Go.Proofs.YthcpdohdppkmkaaGreatDoor
