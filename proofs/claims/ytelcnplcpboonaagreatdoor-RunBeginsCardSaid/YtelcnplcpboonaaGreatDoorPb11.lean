import Derived.Test.YtelcnplcpboonaaGreatDoorPb07
import Derived.Test.YtelcnplcpboonaaGreatDoorPb02
import Derived.Deep.RegionHeld3
import Derived.Laws.AppendOwn
import Derived.OwnWalk
open Go.Proofs.Tryz
namespace Go.Proofs.YtelcnplcpboonaaGreatDoor
open Go Go.RowKit
set_option maxRecDepth 100000
set_option maxHeartbeats 1000000
theorem k5g(t:ByteArray)(k:Nat):t.extract 0 k=wbS ((btL t).take k):=by
 rw[k4b,List.drop_zero,Nat.sub_zero]
theorem k5f(t:ByteArray)(k:Nat):btL (t.extract k t.size)=(btL t).drop k:=Lib.extract_to_end t k
def q7s(lo hi:Nat)(c:UInt8):Bool:=decide (lo<=c.toNat)&&decide (c.toNat<=hi)
theorem z2n(w:World)(v:Value)(t:TypeId):(w.alloc (.cells #[v] t)).cell? ⟨w,0,none⟩=some v:=by
 have h:(w.alloc (.cells #[v] t)).heap[w.heap.size]?=some (.cells #[v] t):=by
  show(w.heap.push (.cells #[v] t))[w.heap.size]?=_
  simp
 simp only[World.cell?,Option.isSome_none,Bool.false_eq_true,if_false,h];rfl
theorem j2b{w:World}{o:Obj}{b k:Nat}(h:b<w.heap.size):(w.alloc o).cell? ⟨b,k,none⟩=w.cell? ⟨b,k,none⟩:=by
 simp[World.cell?,Below.heap_alloc w o b h]
structure q3s(w:World)(a b lo hi:Nat):Prop where
 la:a<w.heap.size
 lb:b<w.heap.size
 ca:w.cell? ⟨a,0,none⟩=some (.int .u8 (lo:Int))
 cb:w.cell? ⟨b,0,none⟩=some (.int .u8 (hi:Int))
theorem q3s.W{w w':World}{a b lo hi:Nat}(h:q3s w a b lo hi)(hb:Below w w w'):q3s w' a b lo hi:=
 {la:=Nat.lt_of_lt_of_le h.la hb.size,lb:=Nat.lt_of_lt_of_le h.lb hb.size,ca:=(hb.cell (p:=⟨a,0,none⟩) h.la).trans h.ca,cb:=(hb.cell (p:=⟨b,0,none⟩) h.lb).trans h.cb}
abbrev y4r(a b:Nat):Value:=.func (.func 176) #[] #[.pointer (some ⟨a,0,none⟩),.pointer (some ⟨b,0,none⟩)]
theorem q3x(lo hi:Nat)(w:World):Calls prog 142 #[.int .u8 (lo:Int),.int .u8 (hi:Int)] w fun e w'=>(∃a b,e=.returned (y4r a b)/\q3s w' a b lo hi)/\Below w w w':=by
 go_in;go_wp2;go_ret;refine⟨⟨w.heap.size,w.heap.size+1,rfl,?_⟩,?_⟩
 ·refine{la:=?_,lb:=?_,ca:=?_,cb:=?_}
  ·rw[World.size_alloc,World.size_alloc];omega
  ·rw[World.size_alloc,World.size_alloc];omega
  ·rw[j2b (by rw[World.size_alloc];omega)];exact z2n w _ _
  ·have h:=z2n (w.alloc (.cells #[.int .u8 (lo:Int)] 5)) (.int .u8 (hi:Int)) 5;rw[World.size_alloc]at h;exact h
 ·exact((Below.refl w.heap.size w).alloc Zl _).alloc (by rw[World.size_alloc];omega) _
theorem q2t(c:UInt8){a b lo hi:Nat}{w:World}(h:q3s w a b lo hi):Calls prog 176 #[.int .u8 (c.toNat:Int),.pointer (some ⟨a,0,none⟩),.pointer (some ⟨b,0,none⟩)] w fun e w'=>e=.returned (.bool (q7s lo hi c))/\w=w':=by
 obtain⟨_,_,B,C⟩:=h;by_cases D:(lo:Int)<=(c.toNat:Int)
 ·by_cases E:(c.toNat:Int)<=(hi:Int)
  ·have A:Hid (q7s lo hi c=true):=by show q7s lo hi c=true;simp[q7s];omega
   go_in;go_wp2;go_ret;exact⟨by rw[A.o];rfl,rfl⟩
  ·have A:Hid (q7s lo hi c=false):=by show q7s lo hi c=false;simp[q7s];omega
   go_in;go_wp2;go_ret;exact⟨by rw[A.o];rfl,rfl⟩
 ·have A:Hid (q7s lo hi c=false):=by show q7s lo hi c=false;simp[q7s];omega
  go_in;go_wp2;go_ret;exact⟨by rw[A.o];rfl,rfl⟩
theorem k3w(t:ByteArray){a b lo hi:Nat}{w:World}(h:q3s w a b lo hi)(hs:t.size<=60000):
  Calls prog 143 #[.string t,y4r a b] w fun e w'=>e=.returned (.string (wbS ((btL t).takeWhile (q7s lo hi))))/\w=w':=by
 have H:Hid (q3s w a b lo hi):=h;clear h;go_in;go_wp2_with fail
 go_loopw [5] (fun n wr=>wr=w/\∃k:Nat,n=.int .i64 (k:Int)/\k<=t.size/\k+twN (q7s lo hi) t k=twN (q7s lo hi) t 0) (fun n _=>t.size-(intOf n).toNat)
 case atStart=>exact⟨rfl,0,rfl,Nat.zero_le _,by omega⟩
 case round=>
  obtain⟨rfl,k,rfl,N,C⟩:=hrel;have I:Hid (k+twN (q7s lo hi) t k=twN (q7s lo hi) t 0):=C;clear C
  have B:twN (q7s lo hi) t k=0->t.extract 0 k=wbS ((btL t).takeWhile (q7s lo hi)):=fun e1=>by
   have K:=I.o
   have L:((btL t).takeWhile (q7s lo hi)).length=k:=by
    rw[twN,twN,List.drop_zero]at K;rw[twN]at e1;omega
   rw[k5g,<-L,z4u]
  by_cases A:k<t.size
  ·have G:(k:Int)<(t.size:Int):=by omega
   cases D:q7s lo hi t[k]with
   | true=>
    have J:Hid (k+1+twN (q7s lo hi) t (k+1)=twN (q7s lo hi) t 0):=by
     show _=_
     have:=y2y A D
     have:=I.o
     omega
    go_wp2_with fail;refine(q2t t[k] H.o).mono ?_;rintro e M⟨rfl,rfl⟩;rw[D];go_wp2
    go_roundw
    case rel=>exact⟨by trivial,k+1,by go_num,by omega,J.o⟩
    case measure=>simp[intOf];omega
   | false=>
    have E:=hid (B (y6x A D));go_wp2_with fail;refine(q2t t[k] H.o).mono ?_;rintro e M⟨rfl,rfl⟩;rw[D];go_wp2;go_ret;exact⟨by rw[E.o];rfl,rfl⟩
  ·have G:¬(k:Int)<(t.size:Int):=by omega
   have E:=hid (B (y2x A));go_wp2;go_ret;exact⟨by rw[E.o];rfl,rfl⟩
def y9f:Value->Nat
 | .string u=>u.size
 | _=>0
theorem j1j(w:World)(n:Nat):Below w w (w.drewN n):=(Below.refl w.heap.size w).trans ⟨rfl,rfl,rfl,Nat.le_refl _,fun _ _=>rfl⟩
theorem z5n(u:ByteArray)(h:0<u.size):btL u=btL (u.extract 0 (u.size-1))++[u[u.size-1]]:=by
 have D:u.size-1<(btL u).length:=by rw[q0b];omega
 have B:btL (u.extract 0 (u.size-1))=(btL u).take (u.size-1):=by rw[k5g];rfl
 have A:=List.take_succ_eq_append_getElem D;have C:u.size-1+1=(btL u).length:=by rw[q0b];omega
 rw[C,List.take_length]at A;rw[B];exact A
theorem j8k(t:ByteArray)(w:World)(hs:t.size<=60000):
  Calls prog 177 #[.string t,.int .u8 32] w fun e w'=>e=.returned (.string (wbS (q1d (btL t))))/\w=w':=by
 go_in;go_wp2_with fail
 go_loopw [0] (fun x wr=>wr=w/\∃u:ByteArray,x=.string u/\u.size<=60000/\q1d (btL u)=q1d (btL t)) (fun x _=>y9f x)
 case atStart=>exact⟨rfl,t,rfl,hs,rfl⟩
 case round=>
  obtain⟨rfl,u,rfl,M,E⟩:=hrel;have G:Hid (q1d (btL u)=q1d (btL t)):=E;clear E;by_cases L:0<u.size
  ·have H:(0:Int)<(u.size:Int):=by omega
   have J:Hid (btL u=btL (u.extract 0 (u.size-1))++[u[u.size-1]]):=z5n u L;cases A:(u[u.size-1]==32)with
   | true=>
    have I:((u[u.size-1].toNat:Int)==32)=true:=by rw[show(32:Int)=((32:Nat):Int)from rfl,j0f _ 32 (by decide)];exact A
    have B:Hid (q1d (btL (u.extract 0 (u.size-1)))=q1d (btL t)):=by
     show _=_;rw[<-G.o,J.o,beq_iff_eq.1 A,z3v]
    have D:(u.extract 0 (u.size-1)).size=u.size-1:=by rw[ByteArray.size_extract];omega
    have C:=(show Hid (_=_)from D);clear A D;go_wp2;exact⟨⟨by trivial,_,rfl,by rw[C.o];omega,B.o⟩,by show(u.extract 0 (u.size-1)).size<u.size;rw[C.o];omega⟩
   | false=>
    have I:((u[u.size-1].toNat:Int)==32)=false:=by rw[show(32:Int)=((32:Nat):Int)from rfl,j0f _ 32 (by decide)];exact A
    have B:Hid (u=wbS (q1d (btL t))):=by
     show _=_;rw[<-G.o,J.o,q1k _ (by simpa using A),<-z5n u L];rfl
    clear A;go_wp2;go_ret;exact⟨by rw[<-B.o];rfl,rfl⟩
  ·have H:¬(0:Int)<(u.size:Int):=by omega
   have B:Hid (u=wbS (q1d (btL t))):=by
    show _=_;have K:btL u=[]:=List.eq_nil_of_length_eq_zero (by rw[q0b];omega);rw[<-G.o,K,j8l];show u=⟨#[]⟩;apply ByteArray.ext;exact Array.toList_inj.1 K
   go_wp2;go_ret;exact⟨by rw[<-B.o];rfl,rfl⟩
theorem j8m(t:ByteArray)(w:World)(h0:0<t.size)(hs:t.size<=60000):
  Calls prog 144 #[.string t,.string ⟨#[32]⟩] w fun e w'=>e=.returned (.string (wbS (q1d (btL t))))/\w=w':=by
 have A:(t.toList==[])=false:=by
  rw[Lib.toList_data]
  have:=(show t.data.toList.length=t.size from q0b t)
  cases h:t.data.toList with
  | nil=>rw[h]at this;simp at this;omega
  | cons a b=>rfl
 go_in;go_wp2_with fail;refine(j8k t _ hs).mono ?_;rintro e B⟨rfl,rfl⟩;go_wp2;go_ret;exact⟨rfl,rfl⟩
def z9p(t:ByteArray):ByteArray:=wbS ((btL t).takeWhile nlB)
theorem v4a(t:ByteArray)(w:World)(hs:t.size<=60000):
  Calls prog 23 #[.string t,.string ⟨#[10]⟩] w fun e w'=>(∃r b,e=.returned (.tuple #[.string (z9p t),.string r,.bool b]))/\Below w w w':=by
 have B:=Lib.indexByte_ge t.data.toList 10;by_cases D:Lib.indexByte t.data.toList 10=-1
 ·have A:Hid (t=z9p t):=by
   show t=wbS ((btL t).takeWhile nlB);rw[j5z _ D];rfl
  go_in;go_wp2_with(go_at_call 39;refine(z5c _ _ D).mono ?_;rintro e w'⟨rfl,n,rfl⟩);go_ret3;exact⟨⟨_,_,by rw[<-A.o];rfl⟩,j1j _ _⟩
 ·obtain⟨i,H⟩:∃i:Nat,Lib.indexByte t.data.toList 10=i:=⟨(Lib.indexByte t.data.toList 10).toNat,by omega⟩;obtain⟨E,G⟩:=v7b _ i H;have C:i+1<=t.size:=by rw[<-q0b];exact G
  have A:Hid (t.extract 0 i=z9p t):=by
   show t.extract 0 i=wbS ((btL t).takeWhile nlB);rw[k5g,E]
  clear E G B D;go_in;go_wp2_with(go_at_call 39;refine(z8z _ _ _ H C (by omega)).mono ?_;rintro e w'⟨rfl,n,rfl⟩);go_ret3;exact⟨⟨_,_,by rw[<-A.o];rfl⟩,j1j _ _⟩
abbrev g0h(a:Nat):Value:=.func (.func 140) #[] #[.pointer (some ⟨a,0,none⟩)]
def q9w(w:World)(a:Nat)(bs:ByteArray):Prop:=a<w.heap.size/\w.cell? ⟨a,0,none⟩=some (.string bs)
theorem q9w.W{B:Nat}{w w':World}{a:Nat}{bs:ByteArray}(h:q9w w a bs)(hB:a<B)(hb:Below B w w'):q9w w' a bs:=
 ⟨Nat.lt_of_lt_of_le h.1 hb.size,(hb.cell (p:=⟨a,0,none⟩) hB).trans h.2⟩
theorem k0f(bs:ByteArray)(w:World):Calls prog 113 #[.string bs] w fun e w'=>e=.returned (g0h w.heap.size)/\w'=w.alloc (.cells #[.string bs] 9):=by
 go_in;go_wp2;go_ret;exact⟨rfl,rfl⟩
theorem q9w.new(bs:ByteArray)(w:World):q9w (w.alloc (.cells #[.string bs] 9)) w.heap.size bs:=⟨by rw[World.size_alloc];omega,z2n w _ _⟩
theorem y2n(s:ByteArray)(c:Int)(w:World):
  Calls prog 141 #[.string s,.int .u8 c] w fun e w'=>e=.returned (.int .i64 (Lib.indexByte s.data.toList c.toNat.toUInt8))/\w'=w:=by
 go_in;go_wp2_with fail;refine(q5r _ _ _).mono ?_;rintro e A⟨rfl,rfl⟩;go_wp2;go_ret;exact⟨rfl,rfl⟩
theorem q7h(c:UInt8){a:Nat}{bs:ByteArray}{w:World}(h:q9w w a bs):Calls prog 140 #[.int .u8 (c.toNat:Int),.pointer (some ⟨a,0,none⟩)] w fun e w'=>e=.returned (.bool ((btL bs).any (·==c)))/\w=w':=by
 have E:=h.2;have A:=(show Hid (_=_)from v6n (btL bs) c);have D:(c.toNat:Int).toNat.toUInt8=c:=by simp
 go_in;go_wp2_with fail;refine(y2n bs _ _).mono ?_;rintro e G⟨rfl,rfl⟩;rw[D];generalize B:Lib.indexByte bs.data.toList c=z;have C:Hid (decide (0<=z)=(btL bs).any (·==c)):=by rw[<-B];exact A
 clear B A;go_wp2;go_ret;exact⟨by rw[<-C.o];rfl,rfl⟩
set_option maxHeartbeats 2000000
theorem q3h(l:List UInt8):(wbS l).size=l.length:=by
 rw[<-q0b];rfl
theorem q5n{t:ByteArray}(h:0<t.size):btL t=t[0]::(btL t).drop 1:=by
 have A:=q1t h;rw[List.drop_zero,Nat.zero_add]at A;exact A
theorem j2w(n m:Nat):decide (n<=m)=decide ((n:Int)<=(m:Int)):=by
 by_cases h:n<=m
 ·rw[decide_eq_true h,decide_eq_true (by omega)]
 ·rw[decide_eq_false h,decide_eq_false (by omega)]
theorem v3m{w:World}{a:Nat}{bs:ByteArray}(h:q9w w a bs):q9w w.drew a bs:=h
abbrev q9u(t:ByteArray)(w:World)(e:Ending)(w':World):Prop:=e=.returned (.tuple #[.string (wbS (tkW (btL t))),.bool (q4o (btL t))])/\Below w w w'
theorem j3p(t:ByteArray)(w:World)(h0:0<t.size)(hs:t.size<=60000)(hl:q3g t[0]=true):Calls prog 114 #[.string t] w fun e w'=>q9u t w e w':=by
 obtain⟨E,H⟩:=y8r (c:=t[0]) (r:=(btL t).drop 1) hl;rw[<-q5n h0]at E H;have P:Hid (q7s 97 122 t[0]=true):=hl
 have K:Hid (wbS ((btL t).takeWhile (q7s 97 122))=wbS (tkW (btL t))):=by
  show _=_;rw[E];rfl
 have G:Hid (q4o (btL t)=decide (((wbS (tkW (btL t))).size:Int)<=8)):=by
  show _=_;rw[H,q3h,E,j2w];rfl
 have Y:(wbS (tkW (btL t))).size<=60000:=by
  rw[q3h];exact Nat.le_trans (z0w _) (by rw[q0b];exact hs)
 generalize M:wbS (tkW (btL t))=W at K G Y;generalize L:q4o (btL t)=O at G;have R:=(show Hid (_=_)from M);have Q:=(show Hid (_=_)from L);clear E H hl M L;go_in;go_wp2_with fail;refine(q3x 97 122 _).mono ?_;rintro e b⟨⟨S,V,rfl,B⟩,D⟩;go_wp2_with fail;refine(q3x 48 57 _).mono ?_;rintro e I⟨⟨U,X,rfl,C⟩,A⟩;have J:Hid (q3s I S V 97 122):=B.W A;have a:Hid (q3s I U X 48 57):=C;have N:Hid (Below w w I):=q0g D Zl A;clear B C D A;go_wp2_with fail;refine(q2t t[0] J.o).mono ?_;rintro e Z⟨rfl,rfl⟩;rw[P.o];go_wp2_with fail;refine(k3w t J.o hs).mono ?_;rintro e Z⟨rfl,rfl⟩;rw[K.o];go_wp2;refine bodyPost_ret (v:=.tuple #[.string W,.bool O]) (by rw[G.o];simp[results,Tryz.results114,go_sem]) rfl ?_;exact⟨by rw[R.o,Q.o],N.o⟩
theorem j3o(t:ByteArray)(w:World)(h0:0<t.size)(hs:t.size<=60000)(hl:q3g t[0]=false)(hf:q2s t[0]=true):Calls prog 114 #[.string t] w fun e w'=>q9u t w e w':=by
 obtain⟨I,K⟩:=y8q (c:=t[0]) (r:=(btL t).drop 1) hl hf;rw[<-q5n h0]at I K;have b:Hid (q7s 97 122 t[0]=false):=hl;have Z:Hid (q7s 48 57 t[0]=true):=hf
 have Q:Hid (wbS ((btL t).takeWhile (q7s 48 57))=wbS (tkW (btL t))):=by
  show _=_;rw[I];rfl
 have H:Hid (q4o (btL t)=(decide (((wbS (tkW (btL t))).size:Int)<=6)&&((t[0].toNat:Int) != 48||(wbS (tkW (btL t))).toList==[48]))):=by
  show _=_
  have L:((t[0].toNat:Int) != 48)=(t[0] != 48):=by
   show(!((t[0].toNat:Int)==48))=(!(t[0]==48))
   rw[show(48:Int)=((48:Nat):Int)from rfl,j0f _ 48 (by decide)];rfl
  have l:(wbS (tkW (btL t))).toList=tkW (btL t):=by rw[Lib.toList_data];rfl
  rw[L,l,K,q3h,I,j2w];rfl
 have m:(wbS (tkW (btL t))).size<=60000:=by
  rw[q3h];exact Nat.le_trans (z0w _) (by rw[q0b];exact hs)
 generalize V:wbS (tkW (btL t))=W at Q H m;generalize U:q4o (btL t)=O at H;have f:=(show Hid (_=_)from V);have d:=(show Hid (_=_)from U)
 have M:(¬(W.size:Int)<=6/\Hid (O=false))\/((W.size:Int)<=6/\((t[0].toNat:Int) != 48)=true/\Hid (O=true))\/((W.size:Int)<=6/\((t[0].toNat:Int) != 48)=false/\Hid (O=(W.toList==[48]))):=by
  have A:=H.o;by_cases C:(W.size:Int)<=6
  ·rw[decide_eq_true C,Bool.true_and]at A;cases S:((t[0].toNat:Int) != 48)with
   | true=>rw[S,Bool.true_or]at A;exact .inr (.inl ⟨C,rfl,A⟩)
   | false=>rw[S,Bool.false_or]at A;exact .inr (.inr ⟨C,rfl,A⟩)
  ·rw[decide_eq_false C,Bool.false_and]at A;exact .inl ⟨C,A⟩
 clear I K hl hf V U H;go_in;go_wp2_with fail;refine(q3x 97 122 _).mono ?_;rintro e n⟨⟨g,i,rfl,D⟩,G⟩;go_wp2_with fail;refine(q3x 48 57 _).mono ?_;rintro e N⟨⟨h,j,rfl,E⟩,B⟩;have a:Hid (q3s N g i 97 122):=D.W B;have P:Hid (q3s N h j 48 57):=E;have Y:Hid (Below w w N):=q0g G Zl B;clear D E G B;go_wp2_with fail;refine(q2t t[0] a.o).mono ?_;rintro e X⟨rfl,rfl⟩;rw[b.o];go_wp2_with fail;refine(q2t t[0] P.o).mono ?_;rintro e X⟨rfl,rfl⟩;rw[Z.o];go_wp2_with fail;refine(k3w t P.o hs).mono ?_;rintro e X⟨rfl,rfl⟩;rw[Q.o];rcases M with⟨R,J⟩|⟨R,k,J⟩|⟨R,k,J⟩
 all_goals
  go_wp2;refine bodyPost_ret (v:=.tuple #[.string W,.bool O]) (by rw[J.o];simp[results,Tryz.results114,go_sem]) rfl ?_;exact⟨by rw[f.o,d.o],Y.o⟩
theorem k8h(t:ByteArray)(w:World)(h0:0<t.size)(hs:t.size<=60000)(hl:q3g t[0]=false)(hf:q2s t[0]=false)(hn:t[0]=35):Calls prog 114 #[.string t] w fun e w'=>q9u t w e w':=by
 obtain⟨J,L⟩:=y4k (c:=t[0]) (r:=(btL t).drop 1) hl hf hn;rw[<-q5n h0]at J L;have j:Hid (q7s 97 122 t[0]=false):=hl;have f:Hid (q7s 48 57 t[0]=false):=hf;have y:((t[0].toNat:Int)==35)=true:=by rw[hn];rfl
 have U:Hid (wbS (q1d (btL (z9p t)))=wbS (tkW (btL t))):=by
  show _=_;rw[J];rfl
 have Q:(z9p t).size<=60000/\0<(z9p t).size:=by
  have x:=k7f nlB (btL t);rw[q0b]at x;rw[z9p,q3h];refine⟨by omega,?_⟩;rw[q5n h0,List.takeWhile_cons,if_pos (by rw[hn];rfl)];simp
 have I:Hid (q4o (btL t)=((wbS ((btL (wbS (tkW (btL t)))).takeWhile (q7s 32 126))).toList==(wbS (tkW (btL t))).toList)):=by
  show _=_;rw[Lib.toList_data,Lib.toList_data,L,J];rfl
 have Z:(wbS (tkW (btL t))).size<=60000:=by
  rw[q3h];exact Nat.le_trans (z0w _) (by rw[q0b];exact hs)
 generalize Y:wbS (tkW (btL t))=W at U I Z;generalize X:q4o (btL t)=O at I;have m:=(show Hid (_=_)from Y);have l:=(show Hid (_=_)from X);generalize V:wbS ((btL W).takeWhile (q7s 32 126))=M at I;have k:=(show Hid (_=_)from V);obtain⟨N,P⟩:=Q;clear J L hl hf hn Y X V;go_in;go_wp2_with fail;refine(q3x 97 122 _).mono ?_;rintro e z⟨⟨n,q,rfl,B⟩,E⟩;go_wp2_with fail;refine(q3x 48 57 _).mono ?_;rintro e R⟨⟨o,s,rfl,C⟩,A⟩;have g:Hid (q3s R n q 97 122):=B.W A;have h:Hid (q3s R o s 48 57):=C;have d:Hid (Below w w R):=q0g E Zl A;clear B C E A;go_wp2_with fail;refine(q2t t[0] g.o).mono ?_;rintro e a⟨rfl,rfl⟩;rw[j.o];go_wp2_with fail;refine(q2t t[0] h.o).mono ?_;rintro e a⟨rfl,rfl⟩;rw[f.o];go_wp2_with fail;refine(v4a t _ hs).mono ?_;rintro e a⟨⟨r,b,rfl⟩,G⟩;go_wp2_with fail;refine(j8m (z9p t) _ P N).mono ?_;rintro e S⟨rfl,rfl⟩;rw[U.o];go_wp2_with fail;refine(q3x 32 126 _).mono ?_;rintro e S⟨⟨p,u,rfl,D⟩,H⟩;have i:Hid (q3s S p u 32 126):=D;have K:Hid (Below w w S):=q0g (q0g d.o Zl G) Zl H;clear D G H;go_wp2_with fail;refine(k3w W i.o Z).mono ?_;rintro e w5⟨rfl,rfl⟩;rw[k.o];go_wp2;refine bodyPost_ret (v:=.tuple #[.string W,.bool O]) (by rw[I.o];simp[results,Tryz.results114,go_sem]) rfl ?_;exact⟨by rw[m.o,l.o],K.o⟩
theorem k8g(t:ByteArray)(w:World)(h0:0<t.size)(hs:t.size<=60000)(E:spB t[0]=false)(hl:q3g t[0]=false)(hf:q2s t[0]=false)(hn:(t[0]==35)=false):Calls prog 114 #[.string t] w fun e w'=>q9u t w e w':=by
 obtain⟨H,I⟩:=y4j (c:=t[0]) (r:=(btL t).drop 1) E hl hf hn;rw[<-q5n h0]at H I;have V:Hid (q7s 97 122 t[0]=false):=hl;have R:Hid (q7s 48 57 t[0]=false):=hf;have g:(1:Int)<=(t.size:Int):=by omega
 have h:(0:Int)<(t.size:Int):=by omega
 have i:((t[0].toNat:Int)==35)=false:=by rw[show(35:Int)=((35:Nat):Int)from rfl,j0f _ 35 (by decide)];exact hn
 have L:Hid (t.extract 0 1=wbS (tkW (btL t))):=by
  show _=_
  have f:(btL t).take 1=[t[0]]:=by
   have M:=congrArg (List.take 1) (q5n h0);rw[List.take_succ_cons,List.take_zero]at M;exact M
  rw[H,k5g,f]
 have G:Hid (q4o (btL t)=(btL (⟨#[40,41,91,93,44,43,42,61,59]⟩:ByteArray)).any (·==t[0])):=by
  show _=_;rw[I];rfl
 have j:(wbS (tkW (btL t))).size<=60000:=by
  rw[q3h];exact Nat.le_trans (z0w _) (by rw[q0b];exact hs)
 generalize P:wbS (tkW (btL t))=W at L G j;generalize N:q4o (btL t)=O at G;have Y:=(show Hid (_=_)from P);have X:=(show Hid (_=_)from N);clear H I hl hf hn E P N;go_in;go_wp2_with fail;refine(q3x 97 122 _).mono ?_;rintro e l⟨⟨Z,b,rfl,B⟩,D⟩;go_wp2_with fail;refine(q3x 48 57 _).mono ?_;rintro e J⟨⟨a,d,rfl,C⟩,A⟩;have S:Hid (q3s J Z b 97 122):=B.W A;have U:Hid (q3s J a d 48 57):=C;have K:Hid (Below w w J):=q0g D Zl A;clear B C D A;go_wp2_with fail;refine(q2t t[0] S.o).mono ?_;rintro e Q⟨rfl,rfl⟩;rw[V.o];go_wp2_with fail;refine(q2t t[0] U.o).mono ?_;rintro e Q⟨rfl,rfl⟩;rw[R.o];go_wp2_with fail
 go_region_held3 (fun _=>True) (trivial) (first|(go_at_call 113;refine(k0f _ _).mono ?_;rintro e Q⟨rfl,rfl⟩)|(go_at_call 140;refine(q7h t[0] (q9w.new _ _)).mono ?_;rintro e k⟨rfl,rfl⟩;rw[<-G.o])|(go_at_call 140;refine(q7h t[0] (v3m (q9w.new _ _))).mono ?_;rintro e k⟨rfl,rfl⟩;rw[<-G.o]))
 all_goals
  go_wp2;refine bodyPost_ret (v:=.tuple #[.string (t.extract 0 1),.bool O]) (by simp[results,Tryz.results114,go_sem]) rfl ?_;exact⟨by rw[L.o,Y.o,X.o],(K.o.alloc K.o.size _).trans ⟨rfl,rfl,rfl,Nat.le_refl _,fun _ _=>rfl⟩⟩
theorem j3n(t:ByteArray)(w:World)(h0:0<t.size)(hs:t.size<=60000)(C:spB t[0]=false):Calls prog 114 #[.string t] w fun e w'=>q9u t w e w':=by
 cases A:q3g t[0]with
 | true=>exact j3p t w h0 hs A
 | false=>
  cases B:q2s t[0]with
  | true=>exact j3o t w h0 hs A B
  | false=>
   cases D:(t[0]==35)with
   | true=>exact k8h t w h0 hs A B (beq_iff_eq.1 D)
   | false=>exact k8g t w h0 hs C A B D
def q1g(ds:List Nd):List Value:=ds.flatMap fun x=>[.int .i64 x.op,.string x.tx,.int .i64 x.n]
theorem q7z:∀ds:List Nd,(q1g ds).length=ds.length*3
 | []=>rfl
 | x::r=>by
  have:=q7z r
  unfold q1g at this⊢;rw[List.flatMap_cons,List.length_append,this,List.length_cons];simp;omega
theorem k3e(a b:List Nd):q1g (a++b)=q1g a++q1g b:=by simp[q1g,List.flatMap_append]
theorem z0r:∀(ds:List Nd)(i:Nat)(h:i<ds.length),(q1g ds)[i*3]?=some (.int .i64 ds[i].op)/\(q1g ds)[i*3+1]?=some (.string ds[i].tx)/\(q1g ds)[i*3+2]?=some (.int .i64 ds[i].n)
 | x::r,0,_=>by simp[q1g]
 | x::r,i+1,h=>by
  have h1:=z0r r i (by simpa using h);have e:q1g (x::r)=.int .i64 x.op::.string x.tx::.int .i64 x.n::q1g r:=by simp[q1g]
  rw[e,show(i+1)*3=i*3+1+1+1 by omega];exact h1
theorem k3g(ds:List Nd):∀u∈q1g ds,u.oneCell'=true:=by
 intro u B;obtain⟨x,_,A⟩:=List.mem_flatMap.1 B;simp at A;rcases A with rfl|rfl|rfl<;>rfl
theorem k3f(ds:List Nd)(j:Nat)(u:Value)(h:(q1g ds)[j]?=some u):∃i,∃hi:i<ds.length,(j=i*3/\u=.int .i64 ds[i].op)\/(j=i*3+1/\u=.string ds[i].tx)\/(j=i*3+2/\u=.int .i64 ds[i].n):=by
 have E:j<ds.length*3:=by rw[<-q7z];exact(List.getElem?_eq_some_iff.1 h).1
 have hi:j / 3<ds.length:=by omega
 obtain⟨A,B,C⟩:=z0r ds (j / 3) hi;refine⟨j / 3,hi,?_⟩;have D:j=j / 3*3\/j=j / 3*3+1\/j=j / 3*3+2:=by omega
 rcases D with e|e|e
 ·rw[<-e,h]at A;exact .inl ⟨e,Option.some.inj A⟩
 ·rw[<-e,h]at B;exact .inr (.inl ⟨e,Option.some.inj B⟩)
 ·rw[<-e,h]at C;exact .inr (.inr ⟨e,Option.some.inj C⟩)
theorem v6z:(prog.info? 150).map (fun i=>(i.zero,i.size,i.bytes))=some (some (.agg #[.int .i64 0,.string ⟨#[]⟩,.int .i64 0]),3,32):=by kernel_rfl
theorem k6j{B:Nat}{w:World}{a:Option Addr}{n D:Nat}{ds:List Nd}(h:w.ownsRow B 150 3 (.slice a n D) ds.length (q1g ds)):n=ds.length/\ds.length<=D/\q2z w a ds:=by
 rcases h.2 with⟨E,I⟩|⟨g,c,N,E,_,M,L,_,Q,C⟩
 ·simp only[Value.slice.injEq]at E;obtain⟨rfl,rfl,rfl⟩:=E;refine⟨I.symm,by omega,fun i hi=>?_⟩;omega
 ·simp only[Value.slice.injEq]at E;obtain⟨rfl,rfl,rfl⟩:=E;refine⟨rfl,L,fun i hi=>?_⟩
  have K:g<w.heap.size:=by
   rcases Nat.lt_or_ge g w.heap.size with H|H
   ·exact H
   ·simp[Array.getElem?_eq_none H]at M
  have A:∀k u,(q1g ds)[k]?=some u->w.cell? ⟨g,k,none⟩=some u:=by
   intro k u G;rw[<-C]at G
   have J:k<ds.length*3:=by
    have:=(List.getElem?_eq_some_iff.1 G).1
    simp at this;omega
   rw[List.getElem?_take_of_lt J]at G;simp only[World.cell?,M];simpa using G
  obtain⟨I,O,P⟩:=z0r ds i hi;refine⟨g,0,rfl,K,?_,?_,?_⟩
  ·rw[Nat.zero_add];exact A _ _ I
  ·rw[Nat.zero_add];exact A _ _ O
  ·rw[Nat.zero_add];exact A _ _ P
theorem j6b{w:World}{b o:Nat}{ds:List Nd}(h:q2z w (some ⟨b,o,none⟩) ds):∀j u,(q1g ds)[j]?=some u->w.cell? ((⟨b,o,none⟩:Addr).add j)=some u:=by
 intro j u H;obtain⟨i,G,E⟩:=k3f ds j u H;obtain⟨I,J,e,_,A,B,C⟩:=h i G;simp only[Option.some.injEq,Addr.mk.injEq,and_true]at e;obtain⟨rfl,rfl⟩:=e
 have D:∀k,(⟨b,o,none⟩:Addr).add k=⟨b,o+k,none⟩:=by
  intro k;unfold Addr.add
  split
  ·rename_i h;subst h;rfl
  ·rfl
 rw[D];rcases E with⟨rfl,rfl⟩|⟨rfl,rfl⟩|⟨rfl,rfl⟩
 ·exact A
 ·rw[show o+(i*3+1)=o+i*3+1 by omega];exact B
 ·rw[show o+(i*3+2)=o+i*3+2 by omega];exact C
abbrev wdD(s:List UInt8):Tr:=.leaf ⟨1,wbS s,0⟩
abbrev blD:Tr:=.leaf ⟨2,⟨#[]⟩,0⟩
abbrev sfD:Tr:=.leaf ⟨3,⟨#[]⟩,0⟩
abbrev twD(a b:Tr):Tr:=.two ⟨6,⟨#[]⟩,0⟩ a b
abbrev dpD(a:Tr):Tr:=.one ⟨7,⟨#[]⟩,2⟩ a
abbrev grD(a:Tr):Tr:=.one ⟨8,⟨#[]⟩,0⟩ a
def inD(l:Nat)(x:Td)(d:Tr):Tr:=if prc x<l then twD (wdD [40]) (twD d (wdD [41]))else d
def kdD:List (Td × Tr)->Tr
 | []=>wdD []
 | p::r=>match r with
  | []=>p.2
  | _::_=>twD (twD p.2 (wdD [44])) (twD blD (kdD r))
def tw2(f:Td->Tr->Td->Tr->Tr):List (Td × Tr)->Tr
 | [a,b]=>f a.1 a.2 b.1 b.2
 | _=>wdD []
def q2m(op cl:List UInt8)(ks:List (Td × Tr)):Tr:=if ks.length=0 then wdD (op++cl)else grD (twD (wdD op) (twD (dpD (twD sfD (kdD ks))) (twD sfD (wdD cl))))
def q0n(x:Td)(ks:List (Td × Tr)):Tr:=
 if x.op=1 then wdD (q1u x.n.toNat)
 else if x.op=2 then wdD (btL x.tx)
 else if x.op=3 then q2m (btL x.tx++[40]) [41] ks
 else if x.op=4 then q2m [91] [93] ks
 else if x.op=5 then tw2 (fun x a y b=>grD (twD (inD 0 x a) (dpD (twD blD (twD (wdD [43,32]) (inD 1 y b)))))) ks
 else tw2 (fun x a y b=>grD (twD (inD 1 x a) (dpD (twD blD (twD (wdD [42,32]) (inD 2 y b)))))) ks
def Fo.D:Fo->List (Td × Tr)
 | .nil=>[]
 | .cons x k n=>(x,q0n x k.D)::n.D
theorem z0e:∀F:Fo,F.D.length=F.len
 | .nil=>rfl
 | .cons _ _ n=>by simp[Fo.D,Fo.len,z0e n]
def stD(x:Td)(d:Tr):Tr:=
 if x.op=7 then grD (twD (wdD ([108,101,116,32]++btL x.tx++[32,61])) (dpD (twD blD (twD d (wdD [59])))))else twD d (wdD [59])
theorem z2x(s:List UInt8):(wdD s).flat=some s:=rfl
theorem q5e{a b:Tr}{s t:List UInt8}(ha:a.flat=some s)(hb:b.flat=some t):(twD a b).flat=some (s++t):=by
 simp only[Tr.flat,if_true,ha,hb]
theorem v1q(a:Tr):(dpD a).flat=a.flat:=rfl
theorem v1r(a:Tr):(grD a).flat=a.flat:=rfl
theorem v1p:blD.flat=some [32]:=rfl
theorem y4p:sfD.flat=some []:=rfl
def Mt(p:Td × Tr)(t:Tn):Prop:=p.1=t.x/\p.2.flat=some t.tx
theorem v1s{p:Td × Tr}{t:Tn}(h:Mt p t)(l:Nat):(inD l p.1 p.2).flat=some (brx l t):=by
 unfold inD brx;rw[h.1]
 split
 ·rw[q5e (z2x _) (q5e h.2 (z2x _))];rfl
 ·exact h.2
inductive Mts:List (Td × Tr)->List Tn->Prop where
 | nil:Mts [] []
 | cons {p t ps ts}:Mt p t->Mts ps ts->Mts (p::ps) (t::ts)
theorem y4n:∀{ps:List (Td × Tr)}{ts:List Tn},Mts ps ts->ps≠[]->(kdD ps).flat=some (cmx ts)
 | _,_,.cons h .nil,_=>by simp only[kdD,cmx,List.append_nil];exact h.2
 | _,_,.cons (ps:=p::ps) (ts:=t::ts) h (.cons h2 h3),_=>by
  have ih:=y4n (Mts.cons h2 h3) (by simp)
  show(twD (twD _ (wdD [44])) (twD blD (kdD (p::ps)))).flat=_
  rw[q5e (q5e h.2 (z2x _)) (q5e v1p ih)];simp[cmx]
theorem j3r{ps:List (Td × Tr)}{ts:List Tn}(h:Mts ps ts)(op cl:List UInt8):(q2m op cl ps).flat=some (op++cmx ts++cl):=by
 unfold q2m
 split
 ·rename_i h0;cases h with
  | nil=>rw[z2x];simp[cmx]
  | cons=>simp at h0
 ·rename_i h0;have A:ps≠[]:=fun e=>h0 (by rw[e];rfl)
  rw[v1r,q5e (z2x _) (q5e (by rw[v1q];exact q5e y4p (y4n h A)) (q5e y4p (z2x _)))];simp
theorem y4o{x:Td}{ps:List (Td × Tr)}{ts:List Tn}(h:Mts ps ts)(hx:exN x)(hk:ps.length=kdT x):(q0n x ps).flat=some (q2v x ts):=by
 have E:kdT x=2->∃a b c d,ps=[a,b]/\ts=[c,d]/\Mt a c/\Mt b d:=fun e=>by
  rw[e]at hk;cases h with
  | nil=>simp at hk
  | cons h1 B=>cases B with
   | nil=>simp at hk
   | cons C D=>cases D with
    | nil=>exact⟨_,_,_,_,rfl,rfl,h1,C⟩
    | cons=>simp at hk
 rcases q3i hx with⟨A,_⟩|⟨A,_⟩|⟨A,_⟩|⟨A,_⟩|⟨A,_,_,B⟩|⟨A,_,_,B⟩
 ·rw[show q0n x ps=wdD (q1u x.n.toNat) by simp[q0n,A],show q2v x ts=q1u x.n.toNat by simp[q2v,A]];rfl
 ·rw[show q0n x ps=wdD (btL x.tx) by simp[q0n,A],show q2v x ts=btL x.tx by simp[q2v,A]];rfl
 ·rw[show q0n x ps=q2m (btL x.tx++[40]) [41] ps by simp[q0n,A],show q2v x ts=btL x.tx++40::(cmx ts++[41]) by simp[q2v,A],j3r h];simp
 ·rw[show q0n x ps=q2m [91] [93] ps by simp[q0n,A],show q2v x ts=91::(cmx ts++[93]) by simp[q2v,A],j3r h];simp
 ·obtain⟨a,b,c,d,rfl,rfl,C,D⟩:=E B;rw[show q0n x [a,b]=grD (twD (inD 0 a.1 a.2) (dpD (twD blD (twD (wdD [43,32]) (inD 1 b.1 b.2))))) by simp[q0n,tw2,A],show q2v x [c,d]=brx 0 c++32::43::32::brx 1 d by simp[q2v,two2,A]];rw[v1r,q5e (v1s C 0) (by rw[v1q];exact q5e v1p (q5e (z2x _) (v1s D 1)))];rfl
 ·obtain⟨a,b,c,d,rfl,rfl,C,D⟩:=E B;rw[show q0n x [a,b]=grD (twD (inD 1 a.1 a.2) (dpD (twD blD (twD (wdD [42,32]) (inD 2 b.1 b.2))))) by simp[q0n,tw2,A],show q2v x [c,d]=brx 1 c++32::42::32::brx 2 d by simp[q2v,two2,A]];rw[v1r,q5e (v1s C 1) (by rw[v1q];exact q5e v1p (q5e (z2x _) (v1s D 2)))];rfl
theorem z1y:∀F:Fo,F.ok->F.exs->Mts F.D F.R
 | .nil,_,_=>.nil
 | .cons x k n,hok,hex=>by
  have h1:=z1y k hok.2.1 fun y hy=>hex y (by simp[Fo.N,hy])
  have h2:=z1y n hok.2.2 fun y hy=>hex y (by simp[Fo.N,hy])
  exact .cons ⟨rfl,y4o h1 (hex x (by simp[Fo.N])) (by rw[z0e];exact hok.1)⟩ h2
def Tr.noE:Tr->Prop
 | .leaf x=>x.op≠4
 | .one _ a=>a.noE
 | .two x a b=>x.op=6/\a.noE/\b.noE
theorem v2s{c:UInt8}(h:q3g c=true):q4x c=true:=by
 simp only[q3g,Bool.and_eq_true,decide_eq_true_eq]at h;simp only[q4x,Bool.and_eq_true,decide_eq_true_eq];omega
theorem v1o{c:UInt8}(h:q2s c=true):q4x c=true:=by
 simp only[q2s,Bool.and_eq_true,decide_eq_true_eq]at h;simp only[q4x,Bool.and_eq_true,decide_eq_true_eq];omega
theorem z1q{s:List UInt8}(h1:1<=s.length)(h2:s.length<=20)(h3:∀c∈s,q4x c=true):(wdD s).Wf:=by
 have e:(wbS s).size=s.length:=by rw[<-q0b];rfl
 have A:isW (wbS s)=true:=by
  simp only[isW,Bool.and_eq_true,decide_eq_true_eq,List.all_eq_true];exact⟨⟨by omega,by omega⟩,h3⟩
 refine⟨?_,rfl⟩;simp only[q0r,A];rfl
theorem v5e:blD.Wf:=⟨rfl,rfl⟩
theorem y7e:sfD.Wf:=⟨rfl,rfl⟩
theorem q6c{a b:Tr}(ha:a.Wf)(hb:b.Wf):(twD a b).Wf:=⟨rfl,rfl,ha,hb⟩
theorem v5f{a:Tr}(ha:a.Wf):(dpD a).Wf:=⟨rfl,rfl,ha⟩
theorem v5g{a:Tr}(ha:a.Wf):(grD a).Wf:=⟨rfl,rfl,ha⟩
theorem v5h{l:Nat}{x:Td}{d:Tr}(h:d.Wf):(inD l x d).Wf:=by
 unfold inD
 split
 ·exact q6c (z1q (by decide) (by decide) (by decide)) (q6c h (z1q (by decide) (by decide) (by decide)))
 ·exact h
theorem y7d:∀ps:List (Td × Tr),(∀p∈ps,p.2.Wf)->ps≠[]->(kdD ps).Wf
 | [p],h,_=>h p (by simp)
 | p::q::r,h,_=>q6c (q6c (h p (by simp)) (z1q (by decide) (by decide) (by decide))) (q6c v5e (y7d (q::r) (fun z hz=>h z (by simp at hz⊢;right;exact hz)) (by simp)))
theorem j8y{op cl:List UInt8}{ps:List (Td × Tr)}(h:∀p∈ps,p.2.Wf)(h1:1<=op.length)(h2:op.length+cl.length<=20)(h3:∀c∈op,q4x c=true)(h4:1<=cl.length)(h5:∀c∈cl,q4x c=true):(q2m op cl ps).Wf:=by
 unfold q2m
 split
 ·refine z1q (by simp;omega) (by simp;omega) fun c A=>?_
  rcases List.mem_append.1 A with A|A
  ·exact h3 c A
  ·exact h5 c A
 ·rename_i h0;exact v5g (q6c (z1q h1 (by omega) h3) (q6c (v5f (q6c y7e (y7d ps h fun e=>h0 (by rw[e];rfl)))) (q6c y7e (z1q h4 (by omega) h5))))
theorem z3i{s:ByteArray}(h:q1f s=true):1<=(btL s).length/\(btL s).length<=8/\∀c∈btL s,q4x c=true:=by
 have A:=q4a h;simp only[q1f,Bool.and_eq_true,decide_eq_true_eq,List.all_eq_true]at h;exact⟨by rw[q0b];exact h.1.1.1,A,fun c hc=>v2s (h.2 c hc)⟩
theorem y9o{x:Td}{ps:List (Td × Tr)}(h:∀p∈ps,p.2.Wf)(hx:exN x)(hk:ps.length=kdT x):(q0n x ps).Wf:=by
 have C:kdT x=2->∃a b,ps=[a,b]/\a.2.Wf/\b.2.Wf:=fun e=>by
  rw[e]at hk
  match ps,hk with
  | [a,b],_=>exact⟨a,b,rfl,h a (by simp),h b (by simp)⟩
 rcases q3i hx with⟨A,_,L,N,_⟩|⟨A,H,_⟩|⟨A,H,_⟩|⟨A,_⟩|⟨A,_,_,D⟩|⟨A,_,_,D⟩
 ·rw[show q0n x ps=wdD (q1u x.n.toNat) by simp[q0n,A]];have M:=q3f 5 x.n.toNat (by omega);have D:=List.length_pos_iff.2 (z6p x.n.toNat);exact z1q (by omega) (by omega) fun c B=>v1o (z1z _ c B)
 ·obtain⟨J,K,I⟩:=z3i H;rw[show q0n x ps=wdD (btL x.tx) by simp[q0n,A]];exact z1q J (by omega) I
 ·obtain⟨J,K,I⟩:=z3i H;rw[show q0n x ps=q2m (btL x.tx++[40]) [41] ps by simp[q0n,A]];refine j8y h (by simp) (by rw[List.length_append];simp only[List.length_cons,List.length_nil];omega) (fun c B=>?_) (by decide) (by decide);rcases List.mem_append.1 B with B|B
  ·exact I c B
  ·simp at B;subst B;decide
 ·rw[show q0n x ps=q2m [91] [93] ps by simp[q0n,A]];exact j8y h (by decide) (by decide) (by decide) (by decide) (by decide)
 ·obtain⟨a,b,rfl,E,G⟩:=C D;rw[show q0n x [a,b]=grD (twD (inD 0 a.1 a.2) (dpD (twD blD (twD (wdD [43,32]) (inD 1 b.1 b.2))))) by simp[q0n,tw2,A]];exact v5g (q6c (v5h E) (v5f (q6c v5e (q6c (z1q (by decide) (by decide) (by decide)) (v5h G)))))
 ·obtain⟨a,b,rfl,E,G⟩:=C D;rw[show q0n x [a,b]=grD (twD (inD 1 a.1 a.2) (dpD (twD blD (twD (wdD [42,32]) (inD 2 b.1 b.2))))) by simp[q0n,tw2,A]];exact v5g (q6c (v5h E) (v5f (q6c v5e (q6c (z1q (by decide) (by decide) (by decide)) (v5h G)))))
theorem j2v:∀F:Fo,F.ok->F.exs->∀p∈F.D,p.2.Wf
 | .nil,_,_,p,hp=>by cases hp
 | .cons x k n,hok,hex,p,hp=>by
  have h1:=j2v k hok.2.1 fun y hy=>hex y (by simp[Fo.N,hy])
  have h2:=j2v n hok.2.2 fun y hy=>hex y (by simp[Fo.N,hy])
  rcases List.mem_cons.1 hp with rfl|hp
  ·exact y9o h1 (hex x (by simp[Fo.N])) (by rw[z0e];exact hok.1)
  ·exact h2 p hp
theorem v3a{l:Nat}{x:Td}{d:Tr}(h:d.noE):(inD l x d).noE:=by
 unfold inD
 split
 ·exact⟨rfl,by show(1:Int)≠4;decide,rfl,h,by show(1:Int)≠4;decide⟩
 ·exact h
theorem y5l:∀ps:List (Td × Tr),(∀p∈ps,p.2.noE)->(kdD ps).noE
 | [],_=>by show(1:Int)≠4;decide
 | [p],h=>h p (by simp)
 | p::q::r,h=>⟨rfl,⟨rfl,h p (by simp),by show(1:Int)≠4;decide⟩,rfl,by show(2:Int)≠4;decide,y5l (q::r) (fun z hz=>h z (by simp at hz⊢;right;exact hz))⟩
theorem j5y{op cl:List UInt8}{ps:List (Td × Tr)}(h:∀p∈ps,p.2.noE):(q2m op cl ps).noE:=by
 unfold q2m
 split
 ·show(1:Int)≠4;decide
 ·exact⟨rfl,by show(1:Int)≠4;decide,rfl,⟨rfl,by show(3:Int)≠4;decide,y5l ps h⟩,rfl,by show(3:Int)≠4;decide,by show(1:Int)≠4;decide⟩
theorem v7a{f:Td->Tr->Td->Tr->Tr}{ps:List (Td × Tr)}(h:∀p∈ps,p.2.noE)(hf:∀x a y b,a.noE->b.noE->(f x a y b).noE):(tw2 f ps).noE:=by
 unfold tw2
 split
 ·exact hf _ _ _ _ (h _ (by simp)) (h _ (by simp))
 ·show(1:Int)≠4;decide
theorem y9b{x:Td}{ps:List (Td × Tr)}(h:∀p∈ps,p.2.noE):(q0n x ps).noE:=by
 have A:(1:Int)≠4:=by decide
 have B:(2:Int)≠4:=by decide
 unfold q0n
 split
 ·exact A
 ·split
  ·exact A
  ·split
   ·exact j5y h
   ·split
    ·exact j5y h
    ·split
     ·exact v7a h fun x a y b ha hb=>⟨rfl,v3a ha,rfl,B,rfl,A,v3a hb⟩
     ·exact v7a h fun x a y b ha hb=>⟨rfl,v3a ha,rfl,B,rfl,A,v3a hb⟩
theorem k2f:∀F:Fo,∀p∈F.D,p.2.noE
 | .nil,p,hp=>by cases hp
 | .cons x k n,p,hp=>by
  rcases List.mem_cons.1 hp with rfl|hp
  ·exact y9b (k2f k)
  ·exact k2f n p hp
def z4t(ps:List (Td × Tr)):Nat:=(ps.map fun p=>p.2.N.length+5).sum
theorem q3m(p:Td × Tr)(r:List (Td × Tr)):z4t (p::r)=p.2.N.length+5+z4t r:=by simp[z4t]
theorem v3c(l:Nat)(x:Td)(d:Tr):(inD l x d).N.length<=d.N.length+4:=by
 unfold inD
 split
 ·simp only[Tr.N,List.length_cons,List.length_append,List.length_nil];omega
 ·omega
theorem v3d:∀ps:List (Td × Tr),(kdD ps).N.length<=z4t ps+1
 | []=>by simp[kdD,z4t,Tr.N]
 | [p]=>by simp only[kdD,q3m];omega
 | p::q::r=>by
  have ih:=v3d (q::r)
  show(twD (twD p.2 (wdD [44])) (twD blD (kdD (q::r)))).N.length<=_
  rw[q3m];simp only[Tr.N,List.length_cons,List.length_append,List.length_nil];omega
theorem y9c{x:Td}{ps:List (Td × Tr)}:(q0n x ps).N.length<=15+z4t ps:=by
 have A:∀op cl:List UInt8,(q2m op cl ps).N.length<=15+z4t ps:=fun op cl=>by
  have G:=v3d ps;unfold q2m
  split
  ·simp only[Tr.N,List.length_cons,List.length_nil];omega
  ·simp only[Tr.N,List.length_cons,List.length_append,List.length_nil];omega
 have C:∀f:Td->Tr->Td->Tr->Tr,(∀x a y b,(f x a y b).N.length<=15+a.N.length+b.N.length)->(tw2 f ps).N.length<=15+z4t ps:=fun f hf=>by
  unfold tw2
  split
  ·rename_i a b
   have:=hf a.1 a.2 b.1 b.2
   rw[q3m,q3m];omega
  ·simp only[Tr.N,List.length_cons,List.length_nil];omega
 have B:∀(l m:Nat)(sg:List UInt8)(x:Td)(a:Tr)(y:Td)(b:Tr),(grD (twD (inD l x a) (dpD (twD blD (twD (wdD sg) (inD m y b)))))).N.length<=15+a.N.length+b.N.length:=fun l m sg x a y b=>by
  have D:=v3c l x a;have E:=v3c m y b;simp only[Tr.N,List.length_cons,List.length_append,List.length_nil];omega
 unfold q0n
 split
 ·simp only[Tr.N,List.length_cons,List.length_nil];omega
 ·split
  ·simp only[Tr.N,List.length_cons,List.length_nil];omega
  ·split
   ·exact A _ _
   ·split
    ·exact A _ _
    ·split
     ·exact C _ (B 0 1 [43,32])
     ·exact C _ (B 1 2 [42,32])
theorem z9a:∀F:Fo,z4t F.D<=20*F.N.length
 | .nil=>by simp[Fo.D,z4t]
 | .cons x k n=>by
  have h1:=z9a k;have h2:=z9a n;have h3:=y9c (x:=x) (ps:=k.D);rw[Fo.D,q3m,Fo.N];simp only[List.length_cons,List.length_append];omega
theorem z3l(v:Wd)(d:UInt8):q4m (v++[d])=q4m v*10+(d.toNat-48):=by
 simp[q4m,List.foldl_append]
theorem j3l{d:UInt8}(h:q2s d=true):48<=d.toNat/\d.toNat<=57:=by
 simp only[q2s,Bool.and_eq_true,decide_eq_true_eq]at h;omega
theorem k5c{d:UInt8}(h:q2s d=true):UInt8.ofNat (48+(d.toNat-48))=d:=by
 have A:=j3l h;apply UInt8.toNat_inj.1;rw[UInt8.toNat_ofNat'];omega
theorem j2x:∀(n:Nat)(w:Wd),w.length=n->(∀b∈w,q2s b=true)->w≠[]->(w.headD 0≠48\/w.length=1)->q1u (q4m w)=w
 | n,w,hl,hf,hne,hc=>by
  rcases List.eq_nil_or_concat w with e|⟨v,d,e⟩
  ·exact absurd e hne
  ·have hd:q2s d=true:=hf d (by rw[e];simp);have h1:=j3l hd;by_cases hv:v=[]
   ·subst hv;rw[e];have e2:q4m ([]++[d])=d.toNat-48:=by rw[z3l];simp[q4m]
    rw[List.concat_eq_append,e2,q1u,dif_pos (by omega),k5c hd];rfl
   ·have D:=List.length_pos_iff.2 hv;have E:w.length=v.length+1:=by rw[e,List.concat_eq_append];simp
    have C:v.headD 0≠48:=by
     rcases hc with hc|hc
     ·rw[e,List.concat_eq_append]at hc;cases v with
      | nil=>exact absurd rfl hv
      | cons a r=>exact hc
     ·omega
    have A:=j2x v.length v rfl (fun b hb=>hf b (by rw[e];simp[hb])) hv (.inl C)
    have G:q4m v≠0:=fun e0=>by
     rw[e0]at A;have B:q1u 0=[48]:=by rw[q1u,dif_pos (by omega)];rfl
     rw[B]at A;rw[<-A]at C;exact C rfl
    rw[e,List.concat_eq_append,z3l,q1u,dif_neg (by omega)];rw[show(q4m v*10+(d.toNat-48)) / 10=q4m v by omega,show(q4m v*10+(d.toNat-48)) % 10=d.toNat-48 by omega,A,k5c hd]
termination_by n=>n
decreasing_by rw[<-hl,E];omega
end Go.Proofs.YtelcnplcpboonaaGreatDoor
