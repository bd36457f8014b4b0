import Derived.Test.YthcpdohdppkmkaaGreatDoorPl20
open Go.Proofs.Tryz
namespace Go.Proofs.YthcpdohdppkmkaaGreatDoor
open Go Go.RowKit
set_option maxRecDepth 100000
set_option maxHeartbeats 1000000
theorem k6l(t:ByteArray)(k:Nat):t.extract 0 k=wbS ((btL t).take k):=by
 rw[q9p,List.drop_zero,Nat.sub_zero]
theorem k6k(t:ByteArray)(k:Nat):btL (t.extract k t.size)=(btL t).drop k:=Lib.extract_to_end t k
def q9c(lo hi:Nat)(c:UInt8):Bool:=decide (lo<=c.toNat)&&decide (c.toNat<=hi)
theorem z3o(w:World)(v:Value)(t:TypeId):(w.alloc (.cells #[v] t)).cell? ⟨w,0,none⟩=some v:=by
 have h:(w.alloc (.cells #[v] t)).heap[w.heap.size]?=some (.cells #[v] t):=by
  show(w.heap.push (.cells #[v] t))[w.heap.size]?=_
  simp
 simp only[World.cell?,Option.isSome_none,Bool.false_eq_true,if_false,h];rfl
theorem j2y{w:World}{o:Obj}{b k:Nat}(h:b<w.heap.size):(w.alloc o).cell? ⟨b,k,none⟩=w.cell? ⟨b,k,none⟩:=by
 simp[World.cell?,Below.heap_alloc w o b h]
structure q4o(w:World)(a b lo hi:Nat):Prop where
 la:a<w.heap.size
 lb:b<w.heap.size
 ca:w.cell? ⟨a,0,none⟩=some (.int .u8 (lo:Int))
 cb:w.cell? ⟨b,0,none⟩=some (.int .u8 (hi:Int))
theorem q4o.W{w w':World}{a b lo hi:Nat}(h:q4o w a b lo hi)(hb:Below w w w'):q4o w' a b lo hi:=
 {la:=Nat.lt_of_lt_of_le h.la hb.size,lb:=Nat.lt_of_lt_of_le h.lb hb.size,ca:=(hb.cell (p:=⟨a,0,none⟩) h.la).trans h.ca,cb:=(hb.cell (p:=⟨b,0,none⟩) h.lb).trans h.cb}
abbrev y5a(a b:Nat):Value:=.func (.func 142) #[] #[.pointer (some ⟨a,0,none⟩),.pointer (some ⟨b,0,none⟩)]
theorem q4s(lo hi:Nat)(w:World):Calls prog 87 #[.int .u8 (lo:Int),.int .u8 (hi:Int)] w fun e w'=>(∃a b,e=.returned (y5a a b)/\q4o w' a b lo hi)/\Below w w w':=by
 go_in;go_wp2;go_ret;refine⟨⟨w.heap.size,w.heap.size+1,rfl,?_⟩,?_⟩
 ·refine{la:=?_,lb:=?_,ca:=?_,cb:=?_}
  ·rw[World.size_alloc,World.size_alloc];omega
  ·rw[World.size_alloc,World.size_alloc];omega
  ·rw[j2y (by rw[World.size_alloc];omega)];exact z3o w _ _
  ·have h:=z3o (w.alloc (.cells #[.int .u8 (lo:Int)] 5)) (.int .u8 (hi:Int)) 5;rw[World.size_alloc]at h;exact h
 ·exact((Below.refl w.heap.size w).alloc Zl _).alloc (by rw[World.size_alloc];omega) _
theorem q3m(c:UInt8){a b lo hi:Nat}{w:World}(h:q4o w a b lo hi):Calls prog 142 #[.int .u8 (c.toNat:Int),.pointer (some ⟨a,0,none⟩),.pointer (some ⟨b,0,none⟩)] w fun e w'=>e=.returned (.bool (q9c lo hi c))/\w=w':=by
 obtain⟨_,_,B,C⟩:=h;by_cases D:(lo:Int)<=(c.toNat:Int)
 ·by_cases E:(c.toNat:Int)<=(hi:Int)
  ·have A:Hid (q9c lo hi c=true):=by show q9c lo hi c=true;simp[q9c];omega
   go_in;go_wp2;go_ret;exact⟨by rw[A.o];rfl,rfl⟩
  ·have A:Hid (q9c lo hi c=false):=by show q9c lo hi c=false;simp[q9c];omega
   go_in;go_wp2;go_ret;exact⟨by rw[A.o];rfl,rfl⟩
 ·have A:Hid (q9c lo hi c=false):=by show q9c lo hi c=false;simp[q9c];omega
  go_in;go_wp2;go_ret;exact⟨by rw[A.o];rfl,rfl⟩
theorem k5b(t:ByteArray){a b lo hi:Nat}{w:World}(h:q4o w a b lo hi)(hs:t.size<=60000):
  Calls prog 88 #[.string t,y5a a b] w fun e w'=>e=.returned (.string (wbS ((btL t).takeWhile (q9c lo hi))))/\w=w':=by
 have H:Hid (q4o w a b lo hi):=h;clear h;go_in;go_wp2_with fail
 go_loopw [5] (fun n wr=>wr=w/\∃k:Nat,n=.int .i64 (k:Int)/\k<=t.size/\k+twN (q9c lo hi) t k=twN (q9c lo hi) t 0) (fun n _=>t.size-(intOf n).toNat)
 case atStart=>exact⟨rfl,0,rfl,Nat.zero_le _,by omega⟩
 case round=>
  obtain⟨rfl,k,rfl,N,C⟩:=hrel;have I:Hid (k+twN (q9c lo hi) t k=twN (q9c lo hi) t 0):=C;clear C
  have B:twN (q9c lo hi) t k=0->t.extract 0 k=wbS ((btL t).takeWhile (q9c lo hi)):=fun e1=>by
   have K:=I.o
   have L:((btL t).takeWhile (q9c lo hi)).length=k:=by
    rw[twN,twN,List.drop_zero]at K;rw[twN]at e1;omega
   rw[k6l,<-L,z5a]
  by_cases A:k<t.size
  ·have G:(k:Int)<(t.size:Int):=by omega
   cases D:q9c lo hi t[k]with
   | true=>
    have J:Hid (k+1+twN (q9c lo hi) t (k+1)=twN (q9c lo hi) t 0):=by
     show _=_
     have:=z9q A D
     have:=I.o
     omega
    go_wp2_with fail;refine(q3m t[k] H.o).mono ?_;rintro e M⟨rfl,rfl⟩;rw[D];go_wp2
    go_roundw
    case rel=>exact⟨by trivial,k+1,by go_num,by omega,J.o⟩
    case measure=>simp[intOf];omega
   | false=>
    have E:=hid (B (k8f A D));go_wp2_with fail;refine(q3m t[k] H.o).mono ?_;rintro e M⟨rfl,rfl⟩;rw[D];go_wp2;go_ret;exact⟨by rw[E.o];rfl,rfl⟩
  ·have G:¬(k:Int)<(t.size:Int):=by omega
   have E:=hid (B (z9p A));go_wp2;go_ret;exact⟨by rw[E.o];rfl,rfl⟩
def y9f:Value->Nat
 | .string u=>u.size
 | _=>0
theorem j2i(w:World)(n:Nat):Below w w (w.drewN n):=(Below.refl w.heap.size w).trans ⟨rfl,rfl,rfl,Nat.le_refl _,fun _ _=>rfl⟩
theorem z6i(u:ByteArray)(h:0<u.size):btL u=btL (u.extract 0 (u.size-1))++[u[u.size-1]]:=by
 have D:u.size-1<(btL u).length:=by rw[q0b];omega
 have B:btL (u.extract 0 (u.size-1))=(btL u).take (u.size-1):=by rw[k6l];rfl
 have A:=List.take_succ_eq_append_getElem D;have C:u.size-1+1=(btL u).length:=by rw[q0b];omega
 rw[C,List.take_length]at A;rw[B];exact A
theorem v0k(t:ByteArray)(w:World)(hs:t.size<=60000):
  Calls prog 144 #[.string t,.int .u8 32] w fun e w'=>e=.returned (.string (wbS (q1m (btL t))))/\w=w':=by
 go_in;go_wp2_with fail
 go_loopw [0] (fun x wr=>wr=w/\∃u:ByteArray,x=.string u/\u.size<=60000/\q1m (btL u)=q1m (btL t)) (fun x _=>y9f x)
 case atStart=>exact⟨rfl,t,rfl,hs,rfl⟩
 case round=>
  obtain⟨rfl,u,rfl,M,E⟩:=hrel;have G:Hid (q1m (btL u)=q1m (btL t)):=E;clear E;by_cases L:0<u.size
  ·have H:(0:Int)<(u.size:Int):=by omega
   have J:Hid (btL u=btL (u.extract 0 (u.size-1))++[u[u.size-1]]):=z6i u L;cases A:(u[u.size-1]==32)with
   | true=>
    have I:((u[u.size-1].toNat:Int)==32)=true:=by rw[show(32:Int)=((32:Nat):Int)from rfl,q5w _ 32 (by decide)];exact A
    have B:Hid (q1m (btL (u.extract 0 (u.size-1)))=q1m (btL t)):=by
     show _=_;rw[<-G.o,J.o,beq_iff_eq.1 A,q9o]
    have D:(u.extract 0 (u.size-1)).size=u.size-1:=by rw[ByteArray.size_extract];omega
    have C:=(show Hid (_=_)from D);clear A D;go_wp2;exact⟨⟨by trivial,_,rfl,by rw[C.o];omega,B.o⟩,by show(u.extract 0 (u.size-1)).size<u.size;rw[C.o];omega⟩
   | false=>
    have I:((u[u.size-1].toNat:Int)==32)=false:=by rw[show(32:Int)=((32:Nat):Int)from rfl,q5w _ 32 (by decide)];exact A
    have B:Hid (u=wbS (q1m (btL t))):=by
     show _=_;rw[<-G.o,J.o,q2r _ (by simpa using A),<-z6i u L];rfl
    clear A;go_wp2;go_ret;exact⟨by rw[<-B.o];rfl,rfl⟩
  ·have H:¬(0:Int)<(u.size:Int):=by omega
   have B:Hid (u=wbS (q1m (btL t))):=by
    show _=_;have K:btL u=[]:=List.eq_nil_of_length_eq_zero (by rw[q0b];omega);rw[<-G.o,K,v0l];show u=⟨#[]⟩;apply ByteArray.ext;exact Array.toList_inj.1 K
   go_wp2;go_ret;exact⟨by rw[<-B.o];rfl,rfl⟩
theorem v0m(t:ByteArray)(w:World)(h0:0<t.size)(hs:t.size<=60000):
  Calls prog 90 #[.string t,.string ⟨#[32]⟩] w fun e w'=>e=.returned (.string (wbS (q1m (btL t))))/\w=w':=by
 have A:(t.toList==[])=false:=by
  rw[Lib.toList_data]
  have:=(show t.data.toList.length=t.size from q0b t)
  cases h:t.data.toList with
  | nil=>rw[h]at this;simp at this;omega
  | cons a b=>rfl
 go_in;go_wp2_with fail;refine(v0k t _ hs).mono ?_;rintro e B⟨rfl,rfl⟩;go_wp2;go_ret;exact⟨rfl,rfl⟩
def k1j(t:ByteArray):ByteArray:=wbS ((btL t).takeWhile nlB)
theorem v5r(t:ByteArray)(w:World)(hs:t.size<=60000):
  Calls prog 89 #[.string t,.string ⟨#[10]⟩] w fun e w'=>(∃r b,e=.returned (.tuple #[.string (k1j t),.string r,.bool b]))/\Below w w w':=by
 have B:=Lib.indexByte_ge t.data.toList 10;by_cases D:Lib.indexByte t.data.toList 10=-1
 ·have A:Hid (t=k1j t):=by
   show t=wbS ((btL t).takeWhile nlB);rw[j6y _ D];rfl
  go_in;go_wp2_with(go_at_call 143;refine(z5w _ _ D).mono ?_;rintro e w'⟨rfl,n,rfl⟩);go_ret3;exact⟨⟨_,_,by rw[<-A.o];rfl⟩,j2i _ _⟩
 ·obtain⟨i,H⟩:∃i:Nat,Lib.indexByte t.data.toList 10=i:=⟨(Lib.indexByte t.data.toList 10).toNat,by omega⟩;obtain⟨E,G⟩:=v8m _ i H;have C:i+1<=t.size:=by rw[<-q0b];exact G
  have A:Hid (t.extract 0 i=k1j t):=by
   show t.extract 0 i=wbS ((btL t).takeWhile nlB);rw[k6l,E]
  clear E G B D;go_in;go_wp2_with(go_at_call 143;refine(k0n _ _ _ H C (by omega)).mono ?_;rintro e w'⟨rfl,n,rfl⟩);go_ret3;exact⟨⟨_,_,by rw[<-A.o];rfl⟩,j2i _ _⟩
abbrev g0m(a:Nat):Value:=.func (.func 85) #[] #[.pointer (some ⟨a,0,none⟩)]
def z1h(w:World)(a:Nat)(bs:ByteArray):Prop:=a<w.heap.size/\w.cell? ⟨a,0,none⟩=some (.string bs)
theorem z1h.W{B:Nat}{w w':World}{a:Nat}{bs:ByteArray}(h:z1h w a bs)(hB:a<B)(hb:Below B w w'):z1h w' a bs:=
 ⟨Nat.lt_of_lt_of_le h.1 hb.size,(hb.cell (p:=⟨a,0,none⟩) hB).trans h.2⟩
theorem k2a(bs:ByteArray)(w:World):Calls prog 49 #[.string bs] w fun e w'=>e=.returned (g0m w.heap.size)/\w'=w.alloc (.cells #[.string bs] 9):=by
 go_in;go_wp2;go_ret;exact⟨rfl,rfl⟩
theorem z1h.new(bs:ByteArray)(w:World):z1h (w.alloc (.cells #[.string bs] 9)) w.heap.size bs:=⟨by rw[World.size_alloc];omega,z3o w _ _⟩
theorem y2s(s:ByteArray)(c:Int)(w:World):
  Calls prog 86 #[.string s,.int .u8 c] w fun e w'=>e=.returned (.int .i64 (Lib.indexByte s.data.toList c.toNat.toUInt8))/\w'=w:=by
 go_in;go_wp2_with fail;refine(q6u _ _ _).mono ?_;rintro e A⟨rfl,rfl⟩;go_wp2;go_ret;exact⟨rfl,rfl⟩
theorem q8o(c:UInt8){a:Nat}{bs:ByteArray}{w:World}(h:z1h w a bs):Calls prog 85 #[.int .u8 (c.toNat:Int),.pointer (some ⟨a,0,none⟩)] w fun e w'=>e=.returned (.bool ((btL bs).any (·==c)))/\w=w':=by
 have E:=h.2;have A:=(show Hid (_=_)from v8b (btL bs) c);have D:(c.toNat:Int).toNat.toUInt8=c:=by simp
 go_in;go_wp2_with fail;refine(y2s bs _ _).mono ?_;rintro e G⟨rfl,rfl⟩;rw[D];generalize B:Lib.indexByte bs.data.toList c=z;have C:Hid (decide (0<=z)=(btL bs).any (·==c)):=by rw[<-B];exact A
 clear B A;go_wp2;go_ret;exact⟨by rw[<-C.o];rfl,rfl⟩
set_option maxHeartbeats 2000000
theorem q4f(l:List UInt8):(wbS l).size=l.length:=by
 rw[<-q0b];rfl
theorem q6p{t:ByteArray}(h:0<t.size):btL t=t[0]::(btL t).drop 1:=by
 have A:=q1i h;rw[List.drop_zero,Nat.zero_add]at A;exact A
theorem j3o(n m:Nat):decide (n<=m)=decide ((n:Int)<=(m:Int)):=by
 by_cases h:n<=m
 ·rw[decide_eq_true h,decide_eq_true (by omega)]
 ·rw[decide_eq_false h,decide_eq_false (by omega)]
theorem v5d{w:World}{a:Nat}{bs:ByteArray}(h:z1h w a bs):z1h w.drew a bs:=h
abbrev z1f(t:ByteArray)(w:World)(e:Ending)(w':World):Prop:=e=.returned (.tuple #[.string (wbS (tkW (btL t))),.bool (q6o (btL t))])/\Below w w w'
theorem j4d(t:ByteArray)(w:World)(h0:0<t.size)(hs:t.size<=60000)(hl:q2j t[0]=true):Calls prog 50 #[.string t] w fun e w'=>z1f t w e w':=by
 obtain⟨E,H⟩:=y8l (c:=t[0]) (r:=(btL t).drop 1) hl;rw[<-q6p h0]at E H;have P:Hid (q9c 97 122 t[0]=true):=hl
 have K:Hid (wbS ((btL t).takeWhile (q9c 97 122))=wbS (tkW (btL t))):=by
  show _=_;rw[E];rfl
 have G:Hid (q6o (btL t)=decide (((wbS (tkW (btL t))).size:Int)<=8)):=by
  show _=_;rw[H,q4f,E,j3o];rfl
 have Y:(wbS (tkW (btL t))).size<=60000:=by
  rw[q4f];exact Nat.le_trans (z2g _) (by rw[q0b];exact hs)
 generalize M:wbS (tkW (btL t))=W at K G Y;generalize L:q6o (btL t)=O at G;have R:=(show Hid (_=_)from M);have Q:=(show Hid (_=_)from L);clear E H hl M L;go_in;go_wp2_with fail;refine(q4s 97 122 _).mono ?_;rintro e b⟨⟨S,V,rfl,B⟩,D⟩;go_wp2_with fail;refine(q4s 48 57 _).mono ?_;rintro e I⟨⟨U,X,rfl,C⟩,A⟩;have J:Hid (q4o I S V 97 122):=B.W A;have a:Hid (q4o I U X 48 57):=C;have N:Hid (Below w w I):=q0e D Zl A;clear B C D A;go_wp2_with fail;refine(q3m t[0] J.o).mono ?_;rintro e Z⟨rfl,rfl⟩;rw[P.o];go_wp2_with fail;refine(k5b t J.o hs).mono ?_;rintro e Z⟨rfl,rfl⟩;rw[K.o];go_wp2;refine bodyPost_ret (v:=.tuple #[.string W,.bool O]) (by rw[G.o];simp[results,Tryz.results50,go_sem]) rfl ?_;exact⟨by rw[R.o,Q.o],N.o⟩
theorem j4c(t:ByteArray)(w:World)(h0:0<t.size)(hs:t.size<=60000)(hl:q2j t[0]=false)(hf:q2a t[0]=true):Calls prog 50 #[.string t] w fun e w'=>z1f t w e w':=by
 obtain⟨I,K⟩:=y8k (c:=t[0]) (r:=(btL t).drop 1) hl hf;rw[<-q6p h0]at I K;have b:Hid (q9c 97 122 t[0]=false):=hl;have Z:Hid (q9c 48 57 t[0]=true):=hf
 have Q:Hid (wbS ((btL t).takeWhile (q9c 48 57))=wbS (tkW (btL t))):=by
  show _=_;rw[I];rfl
 have H:Hid (q6o (btL t)=(decide (((wbS (tkW (btL t))).size:Int)<=6)&&((t[0].toNat:Int) != 48||(wbS (tkW (btL t))).toList==[48]))):=by
  show _=_
  have L:((t[0].toNat:Int) != 48)=(t[0] != 48):=by
   show(!((t[0].toNat:Int)==48))=(!(t[0]==48))
   rw[show(48:Int)=((48:Nat):Int)from rfl,q5w _ 48 (by decide)];rfl
  have l:(wbS (tkW (btL t))).toList=tkW (btL t):=by rw[Lib.toList_data];rfl
  rw[L,l,K,q4f,I,j3o];rfl
 have m:(wbS (tkW (btL t))).size<=60000:=by
  rw[q4f];exact Nat.le_trans (z2g _) (by rw[q0b];exact hs)
 generalize V:wbS (tkW (btL t))=W at Q H m;generalize U:q6o (btL t)=O at H;have f:=(show Hid (_=_)from V);have d:=(show Hid (_=_)from U)
 have M:(¬(W.size:Int)<=6/\Hid (O=false))\/((W.size:Int)<=6/\((t[0].toNat:Int) != 48)=true/\Hid (O=true))\/((W.size:Int)<=6/\((t[0].toNat:Int) != 48)=false/\Hid (O=(W.toList==[48]))):=by
  have A:=H.o;by_cases C:(W.size:Int)<=6
  ·rw[decide_eq_true C,Bool.true_and]at A;cases S:((t[0].toNat:Int) != 48)with
   | true=>rw[S,Bool.true_or]at A;exact .inr (.inl ⟨C,rfl,A⟩)
   | false=>rw[S,Bool.false_or]at A;exact .inr (.inr ⟨C,rfl,A⟩)
  ·rw[decide_eq_false C,Bool.false_and]at A;exact .inl ⟨C,A⟩
 clear I K hl hf V U H;go_in;go_wp2_with fail;refine(q4s 97 122 _).mono ?_;rintro e n⟨⟨g,i,rfl,D⟩,G⟩;go_wp2_with fail;refine(q4s 48 57 _).mono ?_;rintro e N⟨⟨h,j,rfl,E⟩,B⟩;have a:Hid (q4o N g i 97 122):=D.W B;have P:Hid (q4o N h j 48 57):=E;have Y:Hid (Below w w N):=q0e G Zl B;clear D E G B;go_wp2_with fail;refine(q3m t[0] a.o).mono ?_;rintro e X⟨rfl,rfl⟩;rw[b.o];go_wp2_with fail;refine(q3m t[0] P.o).mono ?_;rintro e X⟨rfl,rfl⟩;rw[Z.o];go_wp2_with fail;refine(k5b t P.o hs).mono ?_;rintro e X⟨rfl,rfl⟩;rw[Q.o];rcases M with⟨R,J⟩|⟨R,k,J⟩|⟨R,k,J⟩
 all_goals
  go_wp2;refine bodyPost_ret (v:=.tuple #[.string W,.bool O]) (by rw[J.o];simp[results,Tryz.results50,go_sem]) rfl ?_;exact⟨by rw[f.o,d.o],Y.o⟩
theorem k9h(t:ByteArray)(w:World)(h0:0<t.size)(hs:t.size<=60000)(hl:q2j t[0]=false)(hf:q2a t[0]=false)(hn:t[0]=35):Calls prog 50 #[.string t] w fun e w'=>z1f t w e w':=by
 obtain⟨J,L⟩:=y4v (c:=t[0]) (r:=(btL t).drop 1) hl hf hn;rw[<-q6p h0]at J L;have j:Hid (q9c 97 122 t[0]=false):=hl;have f:Hid (q9c 48 57 t[0]=false):=hf;have y:((t[0].toNat:Int)==35)=true:=by rw[hn];rfl
 have U:Hid (wbS (q1m (btL (k1j t)))=wbS (tkW (btL t))):=by
  show _=_;rw[J];rfl
 have Q:(k1j t).size<=60000/\0<(k1j t).size:=by
  have x:=k8g nlB (btL t);rw[q0b]at x;rw[k1j,q4f];refine⟨by omega,?_⟩;rw[q6p h0,List.takeWhile_cons,if_pos (by rw[hn];rfl)];simp
 have I:Hid (q6o (btL t)=((wbS ((btL (wbS (tkW (btL t)))).takeWhile (q9c 32 126))).toList==(wbS (tkW (btL t))).toList)):=by
  show _=_;rw[Lib.toList_data,Lib.toList_data,L,J];rfl
 have Z:(wbS (tkW (btL t))).size<=60000:=by
  rw[q4f];exact Nat.le_trans (z2g _) (by rw[q0b];exact hs)
 generalize Y:wbS (tkW (btL t))=W at U I Z;generalize X:q6o (btL t)=O at I;have m:=(show Hid (_=_)from Y);have l:=(show Hid (_=_)from X);generalize V:wbS ((btL W).takeWhile (q9c 32 126))=M at I;have k:=(show Hid (_=_)from V);obtain⟨N,P⟩:=Q;clear J L hl hf hn Y X V;go_in;go_wp2_with fail;refine(q4s 97 122 _).mono ?_;rintro e z⟨⟨n,q,rfl,B⟩,E⟩;go_wp2_with fail;refine(q4s 48 57 _).mono ?_;rintro e R⟨⟨o,s,rfl,C⟩,A⟩;have g:Hid (q4o R n q 97 122):=B.W A;have h:Hid (q4o R o s 48 57):=C;have d:Hid (Below w w R):=q0e E Zl A;clear B C E A;go_wp2_with fail;refine(q3m t[0] g.o).mono ?_;rintro e a⟨rfl,rfl⟩;rw[j.o];go_wp2_with fail;refine(q3m t[0] h.o).mono ?_;rintro e a⟨rfl,rfl⟩;rw[f.o];go_wp2_with fail;refine(v5r t _ hs).mono ?_;rintro e a⟨⟨r,b,rfl⟩,G⟩;go_wp2_with fail;refine(v0m (k1j t) _ P N).mono ?_;rintro e S⟨rfl,rfl⟩;rw[U.o];go_wp2_with fail;refine(q4s 32 126 _).mono ?_;rintro e S⟨⟨p,u,rfl,D⟩,H⟩;have i:Hid (q4o S p u 32 126):=D;have K:Hid (Below w w S):=q0e (q0e d.o Zl G) Zl H;clear D G H;go_wp2_with fail;refine(k5b W i.o Z).mono ?_;rintro e w5⟨rfl,rfl⟩;rw[k.o];go_wp2;refine bodyPost_ret (v:=.tuple #[.string W,.bool O]) (by rw[I.o];simp[results,Tryz.results50,go_sem]) rfl ?_;exact⟨by rw[m.o,l.o],K.o⟩
theorem k9g(t:ByteArray)(w:World)(h0:0<t.size)(hs:t.size<=60000)(E:spB t[0]=false)(hl:q2j t[0]=false)(hf:q2a t[0]=false)(hn:(t[0]==35)=false):Calls prog 50 #[.string t] w fun e w'=>z1f t w e w':=by
 obtain⟨H,I⟩:=y4u (c:=t[0]) (r:=(btL t).drop 1) E hl hf hn;rw[<-q6p h0]at H I;have V:Hid (q9c 97 122 t[0]=false):=hl;have R:Hid (q9c 48 57 t[0]=false):=hf;have g:(1:Int)<=(t.size:Int):=by omega
 have h:(0:Int)<(t.size:Int):=by omega
 have i:((t[0].toNat:Int)==35)=false:=by rw[show(35:Int)=((35:Nat):Int)from rfl,q5w _ 35 (by decide)];exact hn
 have L:Hid (t.extract 0 1=wbS (tkW (btL t))):=by
  show _=_
  have f:(btL t).take 1=[t[0]]:=by
   have M:=congrArg (List.take 1) (q6p h0);rw[List.take_succ_cons,List.take_zero]at M;exact M
  rw[H,k6l,f]
 have G:Hid (q6o (btL t)=(btL (⟨#[40,41,91,93,44,43,42,61,59]⟩:ByteArray)).any (·==t[0])):=by
  show _=_;rw[I];rfl
 have j:(wbS (tkW (btL t))).size<=60000:=by
  rw[q4f];exact Nat.le_trans (z2g _) (by rw[q0b];exact hs)
 generalize P:wbS (tkW (btL t))=W at L G j;generalize N:q6o (btL t)=O at G;have Y:=(show Hid (_=_)from P);have X:=(show Hid (_=_)from N);clear H I hl hf hn E P N;go_in;go_wp2_with fail;refine(q4s 97 122 _).mono ?_;rintro e l⟨⟨Z,b,rfl,B⟩,D⟩;go_wp2_with fail;refine(q4s 48 57 _).mono ?_;rintro e J⟨⟨a,d,rfl,C⟩,A⟩;have S:Hid (q4o J Z b 97 122):=B.W A;have U:Hid (q4o J a d 48 57):=C;have K:Hid (Below w w J):=q0e D Zl A;clear B C D A;go_wp2_with fail;refine(q3m t[0] S.o).mono ?_;rintro e Q⟨rfl,rfl⟩;rw[V.o];go_wp2_with fail;refine(q3m t[0] U.o).mono ?_;rintro e Q⟨rfl,rfl⟩;rw[R.o];go_wp2_with fail
 go_region_held3 (fun _=>True) (trivial) (first|(go_at_call 49;refine(k2a _ _).mono ?_;rintro e Q⟨rfl,rfl⟩)|(go_at_call 85;refine(q8o t[0] (z1h.new _ _)).mono ?_;rintro e k⟨rfl,rfl⟩;rw[<-G.o])|(go_at_call 85;refine(q8o t[0] (v5d (z1h.new _ _))).mono ?_;rintro e k⟨rfl,rfl⟩;rw[<-G.o]))
 all_goals
  go_wp2;refine bodyPost_ret (v:=.tuple #[.string (t.extract 0 1),.bool O]) (by simp[results,Tryz.results50,go_sem]) rfl ?_;exact⟨by rw[L.o,Y.o,X.o],(K.o.alloc K.o.size _).trans ⟨rfl,rfl,rfl,Nat.le_refl _,fun _ _=>rfl⟩⟩
theorem j4b(t:ByteArray)(w:World)(h0:0<t.size)(hs:t.size<=60000)(C:spB t[0]=false):Calls prog 50 #[.string t] w fun e w'=>z1f t w e w':=by
 cases A:q2j t[0]with
 | true=>exact j4d t w h0 hs A
 | false=>
  cases B:q2a t[0]with
  | true=>exact j4c t w h0 hs A B
  | false=>
   cases D:(t[0]==35)with
   | true=>exact k9h t w h0 hs A B (beq_iff_eq.1 D)
   | false=>exact k9g t w h0 hs C A B D
set_option maxHeartbeats 4000000
theorem q8k(s:ByteArray)(w:World)(h:s.size<=281474976710656):
  Calls prog 51 #[.string s] w fun e w'=>e=.returned (.string s)/\Below w w w':=by
 go_in;go_wp2_with fail;refine(clone_sh s _ h).mono ?_;rintro e B⟨rfl,A⟩;go_wp2;go_ret;exact⟨rfl,A⟩
theorem v9f(c:UInt8):(btL (⟨#[32,10]⟩:ByteArray)).any (·==c)=spB c:=by
 show((32==c)||((10==c)||false))=(c==32||c==10)
 rw[Bool.or_false,BEq.comm (a:=(32:UInt8)),BEq.comm (a:=(10:UInt8))]
theorem q3j.later{s:ByteArray}{w:World}{i:Nat}{dn:List (Nat × List UInt8)}{A P:Option Addr}{ac pc:Nat}{wr wr':World}(h:q3j s w i dn A P ac pc wr)(hb:Below wr wr wr'):q3j s w i dn A P ac pc wr':=
 {b:=h.b.trans (hb.mono h.b.size),le:=h.le,ln:=h.ln,eq:=h.eq,ws:=q3o h.ws hb,ps:=q3o h.ps hb}
theorem y4t{s:ByteArray}{k:Nat}(h:k<s.size):0<(s.extract k s.size).size/\∀h0:0<(s.extract k s.size).size,(s.extract k s.size)[0]=s[k]:=by
 have B:0<(s.extract k s.size).size:=by rw[ByteArray.size_extract];omega
 refine⟨B,fun h0=>?_⟩;have A:=q6p h0;rw[k6k,q1i h,List.cons.injEq]at A;exact A.1.symm
theorem j5s{s:ByteArray}{k:Nat}(h:k<s.size)(hs:s.size<=60000)(A:spB s[k]=false)(W:World):
  Calls prog 50 #[.string (s.extract k s.size)] W fun e w'=>e=.returned (.tuple #[.string (wbS (tkW ((btL s).drop k))),.bool (tOk s k)])/\Below W W w':=by
 obtain⟨B,C⟩:=y4t h
 have:=j4b (s.extract k s.size) W B (by rw[ByteArray.size_extract];omega) (by rw[C B];exact A)
 unfold z1f at this;rw[k6k]at this;exact this
theorem y3m{l:List UInt8}{c:UInt8}{z:List UInt8}(h:l=c::z)(h0:0<(wbS l).size):(wbS l)[0]=c:=by
 subst h;rfl
theorem v1a{s:ByteArray}{k:Nat}(h:k<s.size)(A:spB s[k]=false):0<(wbS (tkW ((btL s).drop k))).size/\∀h0:0<(wbS (tkW ((btL s).drop k))).size,(wbS (tkW ((btL s).drop k)))[0]=s[k]:=by
 have C:∃z,tkW ((btL s).drop k)=s[k]::z:=by
  rw[tkW,q1i h];have E:=q5i s[k] ((btL s).drop (k+1));obtain⟨m,D⟩:∃m,q1d (s[k]::(btL s).drop (k+1))=m+1:=⟨_,(Nat.sub_add_cancel E).symm⟩;rw[D,List.take_succ_cons];exact z2h (k5e A) _
 obtain⟨z,B⟩:=C;exact⟨by rw[q4f,B];simp,fun h0=>y3m B h0⟩
theorem q3j.next{s:ByteArray}{w:World}{i:Nat}{dn:List (Nat × List UInt8)}{A P:Option Addr}{ac pc:Nat}{wr:World}(h:q3j s w i dn A P ac pc wr)(hi:i<s.size)(hs:spB s[i]=false)(ho:tOk s i=true){A' P':Option Addr}{B C:Nat}{w':World}(hb:Below w w w')
  (h1:w'.ownsRow w.heap.size 9 1 (.slice A' (dn.length+1) B) (dn.length+1) (strCells (dn.map fun x=>wbS x.2)++[.string (wbS (tkW ((btL s).drop i)))])) (h2:w'.ownsRow w.heap.size 3 1 (.slice P' (dn.length+1) C) (dn.length+1) (q2g (dn.map (·.1))++[.int .i64 (i:Int)])):
  q3j s w (i+(tkW ((btL s).drop i)).length) (dn++[(i,tkW ((btL s).drop i))]) A' P' B C w':=by
 have D:=h.word hi hs ho hb h1 h2
 have H:1<=(tkW ((btL s).drop i)).length:=by
  rw[tOk,q1i hi]at ho;rw[q1i hi];exact y3d hs ho
 have G:(tkW ((btL s).drop i)).length+i<=s.size:=by
  have:=z2g ((btL s).drop i)
  rw[List.length_drop,q0b]at this;omega
 have e:=D.eq;have E:=v4q ((btL s).drop i) i;rw[List.drop_drop,List.drop_drop]at E;refine{b:=D.b,le:=by omega,ln:=by have:=h.ln;simp;omega,eq:=?_,ws:=D.ws,ps:=D.ps};rw[e,lxW,lxF,lxW,lxF,E];rfl
theorem k7o{w:World}{B B' e A n:Nat}{v:Value}{xs:List Value}(h:w.ownsRow B e A v n xs)(hB:B'<=B):w.ownsRow B' e A v n xs:=by
 refine⟨h.1,?_⟩;rcases h.2 with E|⟨g,c,D,G,H,C⟩
 ·exact .inl E
 ·exact .inr ⟨g,c,D,G,by omega,C⟩
def z7o(s:ByteArray)(w:World)(e:Ending)(w':World):Prop:=
 (q5o (btL s)≠0/\e=.returned (.tuple #[.slice none 0 0,.slice none 0 0,.int .i64 ((z3c (btL s):Nat):Int),q1r (q5o (btL s))]))\/
 (q5o (btL s)=0/\∃A P ac pc,e=.returned (.tuple #[.slice A (q2m (btL s)).length ac,.slice P (q2m (btL s)).length pc,.int .i64 0,.nilIface])/\q1x w (.slice A (q2m (btL s)).length ac) ((q2m (btL s)).map wbS) w'/\z1g w.heap.size (.slice P (q2m (btL s)).length pc) (z1z (btL s)) w')
theorem k5l(s:ByteArray)(w:World)(hl:(btL s).length<=60000):Calls prog 19 #[.string s] w fun e w'=>z7o s w e w'/\Below w w w':=by
 have t:s.size<=60000:=by rw[<-q0b];exact hl
 clear hl;have A0:¬60000<(s.size:Int):=by omega
 go_in;go_wp2_with fail;refine(k2a _ _).mono ?_;rintro e L⟨rfl,Aj⟩;have HO:Hid (z1h L w.heap.size ⟨#[32,10]⟩):=by rw[Aj];exact z1h.new _ _
 have Ab:Hid (Below w w L):=by rw[Aj];exact Zb.alloc Zl _
 have r:=HO.o.1;generalize Ar:w.heap.size=bk at HO Ab r⊢;have Y:Hid (w.heap.size=bk):=Ar;clear Aj Ar;go_wp2_with fail
 go_loopw [2,3,7,8] (fun x p m i wr=>∃(k:Nat)(E:List (Nat × List UInt8))(A P:Option Addr)(a X:Nat),x=.slice A E.length a/\p=.slice P E.length X/\m=.int .i64 ((many (E.map (·.2)):Nat):Int)/\i=.int .i64 (k:Int)/\q3j s L k E A P a X wr) (fun _ _ _ i _=>s.size-(intOf i).toNat)
 case atStart=>exact⟨0,[],none,none,0,0,rfl,rfl,rfl,rfl,{b:=Below.refl _ _,le:=Nat.zero_le _,ln:=Nat.le_refl _,eq:=rfl,ws:=World.ownsRow_nil _ _ _ _,ps:=World.ownsRow_nil _ _ _ _}⟩
 case round=>
  obtain⟨k,E,A,P,a,X,rfl,rfl,rfl,rfl,hR⟩:=hrel;have HR:Hid (q3j s L k E A P a X wr):=hR;have Af:Hid (z1h wr bk ⟨#[32,10]⟩):=HO.o.W r hR.b;have Ac:Hid (Below bk w wr):=Ab.o.trans (hR.b.mono (Nat.le_of_lt r));have A3:=hR.le;have A4:=hR.ln
  have Aw:many (E.map (·.2))<=60000:=by
   have h1:many (E.map (·.2))<=(E.map (·.2)).length:=List.length_filter_le _ _;rw[List.length_map]at h1;omega
  clear hR;generalize As:many (E.map (·.2))=mm at Aw;have Ad:Hid (many (E.map (·.2))=mm):=As;clear As;by_cases O:k<s.size
  ·have Au:(k:Int)<(s.size:Int):=by omega
   cases hs:spB s[k]with
   | true=>
    have HN:Hid (q3j s L (k+1) E A P a X wr):=HR.o.space O hs;have HP:=(show Hid (_=_)from v9f s[k]);go_wp2_with fail;refine(q8o s[k] Af.o).mono ?_;rintro e w2⟨rfl,rfl⟩;rw[HP.o,hs];clear hs;go_wp2
    go_roundw
    case rel=>exact⟨k+1,E,A,P,a,X,rfl,rfl,by rw[Ad.o],by go_num,HN.o⟩
    case measure=>simp[intOf];omega
   | false=>
    have HP:=(show Hid (_=_)from v9f s[k]);have HS:Hid (spB s[k]=false):=hs;have A2:(k:Int)<=(s.size:Int):=by omega
    clear hs;go_wp2_with fail;refine(q8o s[k] Af.o).mono ?_;rintro e w2⟨rfl,rfl⟩;rw[HP.o,HS.o];go_wp2_with fail;refine(j5s O t HS.o _).mono ?_;rintro e w2⟨rfl,K⟩;have U:Hid (q3j s L k E A P a X w2):=HR.o.later K;have R:Hid (Below bk w w2):=Ab.o.trans (U.o.b.mono (Nat.le_of_lt r));clear HR Ac Af K;cases q:tOk s k with
    | false=>
     have n:Hid (q5o (btL s)=5/\z3c (btL s)=k):=k6v (by rw[q0b];exact t) (k1h U.o O HS.o q);generalize Q:wbS (tkW ((btL s).drop k))=u;clear q Q;go_wp2;refine bodyPost_ret (v:=.tuple #[.slice none 0 0,.slice none 0 0,.int .i64 (k:Int),.iface 22 (.int .i64 5)]) (by simp[results,Tryz.results19,go_sem]) rfl ?_;exact⟨.inl ⟨by rw[n.o.1];decide,by rw[n.o.1,n.o.2,v7z]⟩,by rw[Y.o];exact R.o⟩
    | true=>
     have Aq:Hid (tOk s k=true):=q;obtain⟨y,V⟩:=v1a O HS.o
     have At:(wbS (tkW ((btL s).drop k))).size+k<=s.size:=by
      have:=z2g ((btL s).drop k)
      rw[List.length_drop,q0b]at this;rw[q4f];omega
     have Z:Hid (many (E.map (·.2)++[tkW ((btL s).drop k)])=mm+(if s[k] != 35 then 1 else 0)):=by
      show _=_;rw[k7d,Ad.o,k7e O HS.o]
     have o:Hid ((tkW ((btL s).drop k)).length=(wbS (tkW ((btL s).drop k))).size):=(q4f _).symm;generalize hW:tkW ((btL s).drop k)=W at Z o y V At⊢;have HW:Hid (tkW ((btL s).drop k)=W):=hW;generalize Q:wbS W=u at o y V At⊢;have HU:Hid (wbS W=u):=Q;have A1:(0:Int)<(u.size:Int):=by omega
     clear q hW Q;cases hn:(s[k] != 35)with
     | true=>
      have Ax:((u[0].toNat:Int) != 35)=true:=by
       rw[V y]
       show(!((s[k].toNat:Int)==35))=true
       rw[show(35:Int)=((35:Nat):Int)from rfl,q5w _ 35 (by decide)];exact hn
      have Ae:Hid (many ((E++[(k,W)]).map (·.2))=mm+1):=by
       show _=_;rw[List.map_append]
       have:=Z.o
       rw[hn]at this;exact this
      clear hn V Z;go_wp2_with fail;refine(q8k u _ (by omega)).mono ?_;rintro e z⟨rfl,H⟩;have G:Hid (q3j s L k E A P a X z):=U.o.later H;have Az:=G.o.b.size;clear U R H;obtain⟨i0,Ah,An,Ao,Ap⟩:=info_parts q9d;go_wp2_with(at_builtin;refine wpList_append_lies _ rfl _ _ 42 rfl L.heap.size 9 i0 _ 1 16 Tryz.underlying42 Ah An Ao Ap rfl (by decide) _ _ _ rfl (World.ownsRow.alloc G.o.ws _) ⟨z,0,none⟩ 1 1 [.string u] rfl rfl (cell_one_new z _ _) (by intro u Q;simp at Q;subst Q;rfl) (by decide) (by unfold maxLen;omega) (by omega) (by simp;omega) (z.heap.size+1) (by simp) ?_);intro g2 M l I C d g;have K:=(G.o.b.alloc (by omega) (.cells #[.string u] 9)).grown C (by simp;omega) (fun j hj=>(World.ownsRow.lt G.o.ws j hj).1);have R:=(show Hid (Below _ _ _)from K);have S:Hid (l.ownsRow L.heap.size 3 1 (.slice P E.length X) E.length (q2g (E.map (·.1)))):=z1y (World.ownsRow.alloc G.o.ps _) (World.ownsRow.alloc G.o.ws _) (by decide) C;have Ag:=(show Hid (l.ownsRow _ _ _ _ _ _)from I);have Ay:=K.size;clear I C K d g;obtain⟨i1,Ai,Ak,Al,Am⟩:=info_parts z2l;go_wp2_with(at_builtin;refine wpList_append_lies _ rfl _ _ 43 rfl L.heap.size 3 i1 _ 1 8 Tryz.underlying43 Ai Ak Al Am rfl (by decide) _ _ _ rfl (World.ownsRow.alloc S.o _) ⟨l,0,none⟩ 1 1 [.int .i64 (k:Int)] rfl rfl (cell_one_new l _ _) (by intro u Q;simp at Q;subst Q;rfl) (by decide) (by unfold maxLen;omega) (by omega) (by simp;omega) (l.heap.size+1) (by simp) ?_);intro g3 N w5 J D f h;have H:=(R.o.alloc (by omega) (.cells #[.int .i64 (k:Int)] 3)).grown D (by simp;omega) (fun j hj=>(World.ownsRow.lt S.o j hj).1);have c:=z1y (World.ownsRow.alloc Ag.o _) (World.ownsRow.alloc S.o _) (by decide) D
      have HN:Hid (q3j s L (k+u.size) (E++[(k,W)]) (some ⟨g2,0,none⟩) (some ⟨g3,0,none⟩) M N w5):=by
       show q3j _ _ _ _ _ _ _ _ _;rw[<-o.o,<-HW.o];refine G.o.next O HS.o Aq.o H ?_ ?_
       ·rw[HW.o,HU.o];exact c
       ·exact J
      clear J D f h H c;go_wp2
      go_roundw
      case rel=>exact⟨k+u.size,E++[(k,W)],some ⟨g2,0,none⟩,some ⟨g3,0,none⟩,M,N,by rw[List.length_append];rfl,by rw[List.length_append];rfl,by rw[Ae.o];go_num,by go_num,HN.o⟩
      case measure=>simp[intOf];omega
     | false=>
      have Ax:((u[0].toNat:Int) != 35)=false:=by
       rw[V y]
       show(!((s[k].toNat:Int)==35))=false
       rw[show(35:Int)=((35:Nat):Int)from rfl,q5w _ 35 (by decide)];exact hn
      have Ae:Hid (many ((E++[(k,W)]).map (·.2))=mm):=by
       show _=_;rw[List.map_append]
       have:=Z.o
       rw[hn]at this;exact this
      clear hn V Z;go_wp2_with fail;refine(q8k u _ (by omega)).mono ?_;rintro e z⟨rfl,H⟩;have G:Hid (q3j s L k E A P a X z):=U.o.later H;have Az:=G.o.b.size;clear U R H;obtain⟨i0,Ah,An,Ao,Ap⟩:=info_parts q9d;go_wp2_with(at_builtin;refine wpList_append_lies _ rfl _ _ 42 rfl L.heap.size 9 i0 _ 1 16 Tryz.underlying42 Ah An Ao Ap rfl (by decide) _ _ _ rfl (World.ownsRow.alloc G.o.ws _) ⟨z,0,none⟩ 1 1 [.string u] rfl rfl (cell_one_new z _ _) (by intro u Q;simp at Q;subst Q;rfl) (by decide) (by unfold maxLen;omega) (by omega) (by simp;omega) (z.heap.size+1) (by simp) ?_);intro g2 M l I C d g;have K:=(G.o.b.alloc (by omega) (.cells #[.string u] 9)).grown C (by simp;omega) (fun j hj=>(World.ownsRow.lt G.o.ws j hj).1);have R:=(show Hid (Below _ _ _)from K);have S:Hid (l.ownsRow L.heap.size 3 1 (.slice P E.length X) E.length (q2g (E.map (·.1)))):=z1y (World.ownsRow.alloc G.o.ps _) (World.ownsRow.alloc G.o.ws _) (by decide) C;have Ag:=(show Hid (l.ownsRow _ _ _ _ _ _)from I);have Ay:=K.size;clear I C K d g;obtain⟨i1,Ai,Ak,Al,Am⟩:=info_parts z2l;go_wp2_with(at_builtin;refine wpList_append_lies _ rfl _ _ 43 rfl L.heap.size 3 i1 _ 1 8 Tryz.underlying43 Ai Ak Al Am rfl (by decide) _ _ _ rfl (World.ownsRow.alloc S.o _) ⟨l,0,none⟩ 1 1 [.int .i64 (k:Int)] rfl rfl (cell_one_new l _ _) (by intro u Q;simp at Q;subst Q;rfl) (by decide) (by unfold maxLen;omega) (by omega) (by simp;omega) (l.heap.size+1) (by simp) ?_);intro g3 N w5 J D f h;have H:=(R.o.alloc (by omega) (.cells #[.int .i64 (k:Int)] 3)).grown D (by simp;omega) (fun j hj=>(World.ownsRow.lt S.o j hj).1);have c:=z1y (World.ownsRow.alloc Ag.o _) (World.ownsRow.alloc S.o _) (by decide) D
      have HN:Hid (q3j s L (k+u.size) (E++[(k,W)]) (some ⟨g2,0,none⟩) (some ⟨g3,0,none⟩) M N w5):=by
       show q3j _ _ _ _ _ _ _ _ _;rw[<-o.o,<-HW.o];refine G.o.next O HS.o Aq.o H ?_ ?_
       ·rw[HW.o,HU.o];exact c
       ·exact J
      clear J D f h H c;go_wp2
      go_roundw
      case rel=>exact⟨k+u.size,E++[(k,W)],some ⟨g2,0,none⟩,some ⟨g3,0,none⟩,M,N,by rw[List.length_append];rfl,by rw[List.length_append];rfl,by rw[Ae.o],by go_num,HN.o⟩
      case measure=>simp[intOf];omega
  ·have Au:¬(k:Int)<(s.size:Int):=by omega
   have HX:Hid (lxF (btL s) 0=none/\lxW (btL s) 0=E):=k1i HR.o O
   have HL:Hid ((q2m (btL s)).length=E.length/\many (q2m (btL s))=mm):=by
    refine⟨?_,?_⟩
    ·rw[q2m,HX.o.2,List.length_map]
    ·rw[q2m,HX.o.2];exact Ad.o
   by_cases Aa:300<mm
   ·have Av:(300:Int)<(mm:Int):=by omega
    have n:Hid (q5o (btL s)=3/\z3c (btL s)=0):=k1f (by rw[q0b];exact t) HX.o.1 (by rw[HL.o.2];exact Aa);go_wp2;refine bodyPost_ret (v:=.tuple #[.slice none 0 0,.slice none 0 0,.int .i64 0,.iface 22 (.int .i64 3)]) (by simp[results,Tryz.results19,go_sem]) rfl ?_;exact⟨.inl ⟨by rw[n.o.1];decide,by rw[n.o.1,n.o.2,k6j];rfl⟩,by rw[Y.o];exact Ac.o⟩
   ·have Av:¬(300:Int)<(mm:Int):=by omega
    have n:Hid (q5o (btL s)=0/\z3c (btL s)=0):=k1g (by rw[q0b];exact t) HX.o.1 (by rw[HL.o.2];exact Aa);go_wp2;refine bodyPost_ret (v:=.tuple #[.slice A E.length a,.slice P E.length X,.int .i64 0,.nilIface]) (by simp[results,Tryz.results19,go_sem]) rfl ?_;refine⟨.inr ⟨n.o.1,A,P,a,X,by rw[HL.o.1],k7o (B:=L.heap.size) ?_ (by rw[Y.o];omega),k7o (B:=L.heap.size) ?_ (by rw[Y.o];omega)⟩,by rw[Y.o];exact Ac.o⟩
    ·show wr.ownsRow _ _ _ _ _ _;rw[List.length_map,HL.o.1,q2m,HX.o.2,List.map_map];exact HR.o.ws
    ·show wr.ownsRow _ _ _ _ _ _;rw[<-z2p,HL.o.1,z1z,HX.o.2];exact HR.o.ps
theorem v1c(s:ByteArray)(w:World):Calls prog 19 #[.string s] w fun e w'=>z7o s w e w'/\Below w w w':=by
 by_cases h:(btL s).length<=60000
 ·exact k5l s w h
 ·have A:Hid (q5o (btL s)=3/\z3c (btL s)=0):=k1e (by omega);have B:60000<(s.size:Int):=by rw[q0b]at h;omega
  clear h;go_in;go_wp2;refine bodyPost_ret (v:=.tuple #[.slice none 0 0,.slice none 0 0,.int .i64 0,.iface 22 (.int .i64 3)]) (by simp[results,Tryz.results19,go_sem]) rfl ?_;exact⟨.inl ⟨by rw[A.o.1];decide,by rw[A.o.1,A.o.2,k6j];rfl⟩,Below.refl _ _⟩
end Go.Proofs.YthcpdohdppkmkaaGreatDoor
