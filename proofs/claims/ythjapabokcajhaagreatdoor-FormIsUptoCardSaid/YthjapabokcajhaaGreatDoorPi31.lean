/- Texts as one: LexX, LexY, LexW. -/
import Derived.Test.YthjapabokcajhaaGreatDoorPi30
open Go.Proofs.Tryz
namespace Go.Proofs.YthjapabokcajhaaGreatDoor
open Go Go.RowKit
set_option maxRecDepth 100000
set_option maxHeartbeats 1000000
theorem k6b(t:ByteArray)(k:Nat):t.extract 0 k=wbS ((btL t).take k):=by
 rw[q9s,List.drop_zero,Nat.sub_zero]
theorem k6a(t:ByteArray)(k:Nat):btL (t.extract k t.size)=(btL t).drop k:=Lib.extract_to_end t k
def q9d(lo hi:Nat)(c:UInt8):Bool:=decide (lo<=c.toNat)&&decide (c.toNat<=hi)
theorem z3o(w:World)(v:Value)(t:TypeId):(w.alloc (.cells #[v] t)).cell? w.heap.size=some v:=by
 have h:(w.alloc (.cells #[v] t)).heap[w.heap.size]?=some (.cells #[v] t):=by
  show(w.heap.push (.cells #[v] t))[w.heap.size]?=_
  simp
 simp only[World.cell?,Option.isSome_none,Bool.false_eq_true,if_false,h];rfl
theorem j2m{w:World}{o:Obj}{b k:Nat}(h:b<w.heap.size):(w.alloc o).cell? (b,k)=w.cell? (b,k):=by
 simp[World.cell?,Below.heap_alloc w o b h]
structure q4j(w:World)(a b lo hi:Nat):Prop where
 la:a<w.heap.size
 lb:b<w.heap.size
 ca:w.cell? ⟨a,0,none⟩=some (.int .u8 (lo:Int))
 cb:w.cell? ⟨b,0,none⟩=some (.int .u8 (hi:Int))
theorem q4j.below{w w':World}{a b lo hi:Nat}(h:q4j w a b lo hi)(hb:Below w w w'):q4j w' a b lo hi:=
 {la:=Nat.lt_of_lt_of_le h.la hb.size,lb:=Nat.lt_of_lt_of_le h.lb hb.size,ca:=(hb.cell (p:=⟨a,0,none⟩) h.la).trans h.ca,cb:=(hb.cell (p:=⟨b,0,none⟩) h.lb).trans h.cb}
abbrev y4c(a b:Nat):Value:=.func (.func 169) #[] #[.pointer (some ⟨a,0,none⟩),.pointer (some ⟨b,0,none⟩)]
theorem q4n(lo hi:Nat)(w:World):Calls prog 120 #[.int .u8 (lo:Int),.int .u8 (hi:Int)] w fun e w'=>(∃a b,e=.returned (y4c a b)/\q4j w' a b lo hi)/\Below w w w':=by
 go_in;go_wp2;go_ret;refine⟨⟨w.heap.size,w.heap.size+1,rfl,?_⟩,?_⟩
 ·refine{la:=?_,lb:=?_,ca:=?_,cb:=?_}
  ·rw[World.size_alloc,World.size_alloc];omega
  ·rw[World.size_alloc,World.size_alloc];omega
  ·rw[j2m (by rw[World.size_alloc];omega)];exact z3o w _ _
  ·have h:=z3o (w.alloc (.cells #[.int .u8 (lo:Int)] 5)) (.int .u8 (hi:Int)) 5;rw[World.size_alloc]at h;exact h
 ·exact((Below.refl w.heap.size w).alloc Zl _).alloc (by rw[World.size_alloc];omega) _
theorem q3j(c:UInt8){a b lo hi:Nat}{w:World}(h:q4j w a b lo hi):Calls prog 169 #[.int .u8 (c.toNat:Int),.pointer a,.pointer b] w fun e w'=>e=.returned (.bool (q9d lo hi c))/\w=w':=by
 obtain⟨_,_,ca,cb⟩:=h;by_cases h1:(lo:Int)<=(c.toNat:Int)
 ·by_cases h2:(c.toNat:Int)<=(hi:Int)
  ·have HE:Hid (q9d lo hi c=true):=by show q9d lo hi c=true;simp[q9d];omega
   go_in;go_wp2;go_ret;exact⟨by rw[HE.o];rfl,rfl⟩
  ·have HE:Hid (q9d lo hi c=false):=by show q9d lo hi c=false;simp[q9d];omega
   go_in;go_wp2;go_ret;exact⟨by rw[HE.o];rfl,rfl⟩
 ·have HE:Hid (q9d lo hi c=false):=by show q9d lo hi c=false;simp[q9d];omega
  go_in;go_wp2;go_ret;exact⟨by rw[HE.o];rfl,rfl⟩
theorem k4t(t:ByteArray){a b lo hi:Nat}{w:World}(h:q4j w a b lo hi)(hs:t.size<=60000):
  Calls prog 121 #[.string t,y4c a b] w fun e w'=>e=.returned (.string (wbS ((btL t).takeWhile (q9d lo hi))))/\w=w':=by
 have HF:Hid (q4j w a b lo hi):=h;clear h;go_in;go_wp2_with fail
 go_loopw [5] (fun n wr=>wr=w/\∃k:Nat,n=(k:Int)/\k<=t.size/\k+twN (q9d lo hi) t k=twN (q9d lo hi) t 0) (fun n _=>t.size-(intOf n).toNat)
 case atStart=>exact⟨rfl,0,rfl,Nat.zero_le _,by omega⟩
 case round=>
  obtain⟨rfl,k,rfl,hk,htw⟩:=hrel;have HT:Hid (k+twN (q9d lo hi) t k=twN (q9d lo hi) t 0):=htw;clear htw
  have hsl:twN (q9d lo hi) t k=0->t.extract 0 k=wbS ((btL t).takeWhile (q9d lo hi)):=fun e1=>by
   have e2:=HT.o
   have e3:((btL t).takeWhile (q9d lo hi)).length=k:=by
    rw[twN,twN,List.drop_zero]at e2;rw[twN]at e1;omega
   rw[k6b,<-e3,z5e]
  by_cases hlt:k<t.size
  ·have hki:(k:Int)<(t.size:Int):=by omega
   cases hp:q9d lo hi t[k]with
   | true=>
    have HN:Hid (k+1+twN (q9d lo hi) t (k+1)=twN (q9d lo hi) t 0):=by
     show _=_
     have:=z9q hlt hp
     have:=HT.o
     omega
    go_wp2_with fail;refine(q3j t[k] HF.o).mono ?_;rintro e w2⟨rfl,rfl⟩;rw[hp];go_wp2
    go_roundw
    case rel=>exact⟨by trivial,k+1,by go_num,by omega,HN.o⟩
    case measure=>simp[intOf];omega
   | false=>
    have HS:=(show Hid (_)from hsl (k7t hlt hp));go_wp2_with fail;refine(q3j t[k] HF.o).mono ?_;rintro e w2⟨rfl,rfl⟩;rw[hp];go_wp2;go_ret;exact⟨by rw[HS.o];rfl,rfl⟩
  ·have hki:¬(k:Int)<(t.size:Int):=by omega
   have HS:=(show Hid (_)from hsl (z9p hlt));go_wp2;go_ret;exact⟨by rw[HS.o];rfl,rfl⟩
def y8l:Value->Nat
 | .string u=>u.size
 | _=>0
theorem j1v(w:World)(n:Nat):Below w w (w.drewN n):=(Below.refl w.heap.size w).trans ⟨rfl,rfl,rfl,Nat.le_refl _,fun _ _=>rfl⟩
theorem z6q(u:ByteArray)(h:0<u.size):btL u=btL (u.extract 0 (u.size-1))++[u[u.size-1]]:=by
 have hl:u.size-1<(btL u).length:=by rw[q0c];omega
 have e1:btL (u.extract 0 (u.size-1))=(btL u).take (u.size-1):=by rw[k6b];rfl
 have e2:=List.take_succ_eq_append_getElem hl;have e3:u.size-1+1=(btL u).length:=by rw[q0c];omega
 rw[e3,List.take_length]at e2;rw[e1];exact e2
theorem j9i(t:ByteArray)(w:World)(hs:t.size<=60000):
  Calls prog 171 #[.string t,.int .u8 32] w fun e w'=>e=.returned (.string (wbS (q1l (btL t))))/\w=w':=by
 go_in;go_wp2_with fail
 go_loopw [0] (fun x wr=>wr=w/\∃u:ByteArray,x=.string u/\u.size<=60000/\q1l (btL u)=q1l (btL t)) (fun x _=>y8l x)
 case atStart=>exact⟨rfl,t,rfl,hs,rfl⟩
 case round=>
  obtain⟨rfl,u,rfl,hu,htr⟩:=hrel;have HT:Hid (q1l (btL u)=q1l (btL t)):=htr;clear htr;by_cases h0:0<u.size
  ·have h0i:(0:Int)<(u.size:Int):=by omega
   have HL:Hid (btL u=btL (u.extract 0 (u.size-1))++[u[u.size-1]]):=z6q u h0;cases hb:(u[u.size-1]==32)with
   | true=>
    have hbi:((u[u.size-1].toNat:Int)==32)=true:=by rw[show(32:Int)=((32:Nat):Int)from rfl,q5w _ 32 (by decide)];exact hb
    have HE:Hid (q1l (btL (u.extract 0 (u.size-1)))=q1l (btL t)):=by
     show _=_;rw[<-HT.o,HL.o,beq_iff_eq.1 hb,q9r]
    have hsz:(u.extract 0 (u.size-1)).size=u.size-1:=by rw[ByteArray.size_extract];omega
    have HSZ:=(show Hid (_=_)from hsz);clear hb hsz;go_wp2;exact⟨⟨by trivial,_,rfl,by rw[HSZ.o];omega,HE.o⟩,by show(u.extract 0 (u.size-1)).size<u.size;rw[HSZ.o];omega⟩
   | false=>
    have hbi:((u[u.size-1].toNat:Int)==32)=false:=by rw[show(32:Int)=((32:Nat):Int)from rfl,q5w _ 32 (by decide)];exact hb
    have HE:Hid (u=wbS (q1l (btL t))):=by
     show _=_;rw[<-HT.o,HL.o,q2n _ (by simpa using hb),<-z6q u h0];rfl
    clear hb;go_wp2;go_ret;exact⟨by rw[<-HE.o];rfl,rfl⟩
  ·have h0i:¬(0:Int)<(u.size:Int):=by omega
   have HE:Hid (u=wbS (q1l (btL t))):=by
    show _=_;have e1:btL u=[]:=List.eq_nil_of_length_eq_zero (by rw[q0c];omega);rw[<-HT.o,e1,j9j];show u=⟨#[]⟩;apply ByteArray.ext;exact Array.toList_inj.1 e1
   go_wp2;go_ret;exact⟨by rw[<-HE.o];rfl,rfl⟩
theorem j9k(t:ByteArray)(w:World)(h0:0<t.size)(hs:t.size<=60000):
  Calls prog 123 #[.string t,.string ⟨#[32]⟩] w fun e w'=>e=.returned (.string (wbS (q1l (btL t))))/\w=w':=by
 have h1:(t.toList==[])=false:=by
  rw[Lib.toList_data]
  have:=(show t.data.toList.length=t.size from q0c t)
  cases h:t.data.toList with
  | nil=>rw[h]at this;simp at this;omega
  | cons a b=>rfl
 go_in;go_wp2_with fail;refine(j9i t _ hs).mono ?_;rintro e w2⟨rfl,rfl⟩;go_wp2;go_ret;exact⟨rfl,rfl⟩
def k1j(t:ByteArray):ByteArray:=wbS ((btL t).takeWhile nlB)
theorem v4h(t:ByteArray)(w:World)(hs:t.size<=60000):
  Calls prog 122 #[.string t,.string ⟨#[10]⟩] w fun e w'=>(∃r b,e=.returned (.tuple #[.string (k1j t),.string r,.bool b]))/\Below w w w':=by
 have hge:=Lib.indexByte_ge t.data.toList 10;by_cases hm:Lib.indexByte t.data.toList 10=-1
 ·have HE:Hid (t=k1j t):=by
   show t=wbS ((btL t).takeWhile nlB);rw[j6a _ hm];rfl
  go_in;go_wp2_with(go_at_call 170;refine(k8l _ _ hm).mono ?_;rintro e w'⟨rfl,n,rfl⟩);go_ret3;exact⟨⟨_,_,by rw[<-HE.o];rfl⟩,j1v _ _⟩
 ·obtain⟨i,hi⟩:∃i:Nat,Lib.indexByte t.data.toList 10=i:=⟨(Lib.indexByte t.data.toList 10).toNat,by omega⟩;obtain⟨e1,e2⟩:=v7c _ i hi;have hi1:i+1<=t.size:=by rw[<-q0c];exact e2
  have HE:Hid (t.extract 0 i=k1j t):=by
   show t.extract 0 i=wbS ((btL t).takeWhile nlB);rw[k6b,e1]
  clear e1 e2 hge hm;go_in;go_wp2_with(go_at_call 170;refine(j2x _ _ _ hi hi1 hs).mono ?_;rintro e w'⟨rfl,n,rfl⟩);go_ret3;exact⟨⟨_,_,by rw[<-HE.o];rfl⟩,j1v _ _⟩
abbrev y9h(a:Nat):Value:=.func (.func 118) #[] #[.pointer (some ⟨a,0,none⟩)]
def z2s(w:World)(a:Nat)(bs:ByteArray):Prop:=a<w.heap.size/\w.cell? ⟨a,0,none⟩=some (.string bs)
theorem z2s.below{B:Nat}{w w':World}{a:Nat}{bs:ByteArray}(h:z2s w a bs)(hB:a<B)(hb:Below B w w'):z2s w' a bs:=
 ⟨Nat.lt_of_lt_of_le h.1 hb.size,(hb.cell (p:=⟨a,0,none⟩) hB).trans h.2⟩
theorem k1z(bs:ByteArray)(w:World):Calls prog 76 #[.string bs] w fun e w'=>e=.returned (y9h w.heap.size)/\w'=w.alloc (.cells #[.string bs] 9):=by
 go_in;go_wp2;go_ret;exact⟨rfl,rfl⟩
theorem z2s.new(bs:ByteArray)(w:World):z2s (w.alloc (.cells #[.string bs] 9)) w.heap.size bs:=⟨by rw[World.size_alloc];omega,z3o w _ _⟩
theorem y1q(s:ByteArray)(c:Int)(w:World):
  Calls prog 119 #[.string s,.int .u8 c] w fun e w'=>e=.returned (Lib.indexByte s.data.toList c.toNat.toUInt8)/\w'=w:=by
 go_in;go_wp2_with fail;refine(q6s _ _ _).mono ?_;rintro e w2⟨rfl,rfl⟩;go_wp2;go_ret;exact⟨rfl,rfl⟩
theorem q8q(c:UInt8){a:Nat}{bs:ByteArray}{w:World}(h:z2s w a bs):Calls prog 118 #[.int .u8 (c.toNat:Int),.pointer a] w fun e w'=>e=.returned (.bool ((btL bs).any (·==c)))/\w=w':=by
 have hc:=h.2;have HI:=(show Hid (_=_)from v6s (btL bs) c);have hu:(c.toNat:Int).toNat.toUInt8=c:=by simp
 go_in;go_wp2_with fail;refine(y1q bs _ _).mono ?_;rintro e w2⟨rfl,rfl⟩;rw[hu];generalize hz:Lib.indexByte bs.data.toList c=z;have HZ:Hid (decide (0<=z)=(btL bs).any (·==c)):=by rw[<-hz];exact HI
 clear hz HI;go_wp2;go_ret;exact⟨by rw[<-HZ.o];rfl,rfl⟩
set_option maxHeartbeats 2000000
theorem q4a(l:List UInt8):(wbS l).size=l.length:=by
 rw[<-q0c];rfl
theorem q6n{t:ByteArray}(h:0<t.size):btL t=t[0]::(btL t).drop 1:=by
 have hd:=q1h h;rw[List.drop_zero,Nat.zero_add]at hd;exact hd
theorem j3c(n m:Nat):decide (n<=m)=decide ((n:Int)<=(m:Int)):=by
 by_cases h:n<=m
 ·rw[decide_eq_true h,decide_eq_true (by omega)]
 ·rw[decide_eq_false h,decide_eq_false (by omega)]
theorem v3t{w:World}{a:Nat}{bs:ByteArray}(h:z2s w a bs):z2s w.drew a bs:=h
abbrev z1h(t:ByteArray)(w:World)(e:Ending)(w':World):Prop:=e=.returned (.tuple #[.string (wbS (tkW (btL t))),.bool (q6m (btL t))])/\Below w w w'
theorem j3t(t:ByteArray)(w:World)(h0:0<t.size)(hs:t.size<=60000)(hl:q2j t[0]=true):Calls prog 77 #[.string t] w fun e w'=>z1h t w e w':=by
 obtain⟨e1,e2⟩:=y7o (c:=t[0]) (r:=(btL t).drop 1) hl;rw[<-q6n h0]at e1 e2;have HL:Hid (q9d 97 122 t[0]=true):=hl
 have HN:Hid (wbS ((btL t).takeWhile (q9d 97 122))=wbS (tkW (btL t))):=by
  show _=_;rw[e1];rfl
 have HS:Hid (q6m (btL t)=decide (((wbS (tkW (btL t))).size:Int)<=8)):=by
  show _=_;rw[e2,q4a,e1,j3c];rfl
 have hz:(wbS (tkW (btL t))).size<=60000:=by
  rw[q4a];exact Nat.le_trans (z2h _) (by rw[q0c];exact hs)
 generalize hW:wbS (tkW (btL t))=W at HN HS hz;generalize hO:q6m (btL t)=O at HS;have HW:=(show Hid (_=_)from hW);have HO:=(show Hid (_=_)from hO);clear e1 e2 hl hW hO;go_in;go_wp2_with fail;refine(q4n 97 122 _).mono ?_;rintro e w1⟨⟨a1,b1,rfl,hF1⟩,hb1⟩;go_wp2_with fail;refine(q4n 48 57 _).mono ?_;rintro e w2⟨⟨a2,b2,rfl,hF2⟩,hb2⟩;have HF:Hid (q4j w2 a1 b1 97 122):=hF1.below hb2;have HG:Hid (q4j w2 a2 b2 48 57):=hF2;have HB:Hid (Below w w w2):=q0d hb1 Zl hb2;clear hF1 hF2 hb1 hb2;go_wp2_with fail;refine(q3j t[0] HF.o).mono ?_;rintro e w3⟨rfl,rfl⟩;rw[HL.o];go_wp2_with fail;refine(k4t t HF.o hs).mono ?_;rintro e w3⟨rfl,rfl⟩;rw[HN.o];go_wp2;refine bodyPost_ret (v:=.tuple #[.string W,.bool O]) (by rw[HS.o];simp[results,Tryz.results77,go_sem]) rfl ?_;exact⟨by rw[HW.o,HO.o],HB.o⟩
theorem j3s(t:ByteArray)(w:World)(h0:0<t.size)(hs:t.size<=60000)(hl:q2j t[0]=false)(hf:q1z t[0]=true):Calls prog 77 #[.string t] w fun e w'=>z1h t w e w':=by
 obtain⟨e1,e2⟩:=y7n (c:=t[0]) (r:=(btL t).drop 1) hl hf;rw[<-q6n h0]at e1 e2;have HL:Hid (q9d 97 122 t[0]=false):=hl;have HD:Hid (q9d 48 57 t[0]=true):=hf
 have HN:Hid (wbS ((btL t).takeWhile (q9d 48 57))=wbS (tkW (btL t))):=by
  show _=_;rw[e1];rfl
 have HS:Hid (q6m (btL t)=(decide (((wbS (tkW (btL t))).size:Int)<=6)&&((t[0].toNat:Int) != 48||(wbS (tkW (btL t))).toList==[48]))):=by
  show _=_
  have e48:((t[0].toNat:Int) != 48)=(t[0] != 48):=by
   show(!((t[0].toNat:Int)==48))=(!(t[0]==48))
   rw[show(48:Int)=((48:Nat):Int)from rfl,q5w _ 48 (by decide)];rfl
  have el:(wbS (tkW (btL t))).toList=tkW (btL t):=by rw[Lib.toList_data];rfl
  rw[e48,el,e2,q4a,e1,j3c];rfl
 have hz:(wbS (tkW (btL t))).size<=60000:=by
  rw[q4a];exact Nat.le_trans (z2h _) (by rw[q0c];exact hs)
 generalize hW:wbS (tkW (btL t))=W at HN HS hz;generalize hO:q6m (btL t)=O at HS;have HW:=(show Hid (_=_)from hW);have HO:=(show Hid (_=_)from hO)
 have hcs:(¬(W.size:Int)<=6/\Hid (O=false))\/((W.size:Int)<=6/\((t[0].toNat:Int) != 48)=true/\Hid (O=true))\/((W.size:Int)<=6/\((t[0].toNat:Int) != 48)=false/\Hid (O=(W.toList==[48]))):=by
  have hS:=HS.o;by_cases g1:(W.size:Int)<=6
  ·rw[decide_eq_true g1,Bool.true_and]at hS;cases g2:((t[0].toNat:Int) != 48)with
   | true=>rw[g2,Bool.true_or]at hS;exact .inr (.inl ⟨g1,rfl,hS⟩)
   | false=>rw[g2,Bool.false_or]at hS;exact .inr (.inr ⟨g1,rfl,hS⟩)
  ·rw[decide_eq_false g1,Bool.false_and]at hS;exact .inl ⟨g1,hS⟩
 clear e1 e2 hl hf hW hO HS;go_in;go_wp2_with fail;refine(q4n 97 122 _).mono ?_;rintro e w1⟨⟨a1,b1,rfl,hF1⟩,hb1⟩;go_wp2_with fail;refine(q4n 48 57 _).mono ?_;rintro e w2⟨⟨a2,b2,rfl,hF2⟩,hb2⟩;have HF:Hid (q4j w2 a1 b1 97 122):=hF1.below hb2;have HG:Hid (q4j w2 a2 b2 48 57):=hF2;have HB:Hid (Below w w w2):=q0d hb1 Zl hb2;clear hF1 hF2 hb1 hb2;go_wp2_with fail;refine(q3j t[0] HF.o).mono ?_;rintro e w3⟨rfl,rfl⟩;rw[HL.o];go_wp2_with fail;refine(q3j t[0] HG.o).mono ?_;rintro e w3⟨rfl,rfl⟩;rw[HD.o];go_wp2_with fail;refine(k4t t HG.o hs).mono ?_;rintro e w3⟨rfl,rfl⟩;rw[HN.o];rcases hcs with⟨c1,HC⟩|⟨c1,c2,HC⟩|⟨c1,c2,HC⟩
 all_goals
  go_wp2;refine bodyPost_ret (v:=.tuple #[.string W,.bool O]) (by rw[HC.o];simp[results,Tryz.results77,go_sem]) rfl ?_;exact⟨by rw[HW.o,HO.o],HB.o⟩
theorem k8t(t:ByteArray)(w:World)(h0:0<t.size)(hs:t.size<=60000)(hl:q2j t[0]=false)(hf:q1z t[0]=false)(hn:t[0]=35):Calls prog 77 #[.string t] w fun e w'=>z1h t w e w':=by
 obtain⟨e1,e2⟩:=y3x (c:=t[0]) (r:=(btL t).drop 1) hl hf hn;rw[<-q6n h0]at e1 e2;have HL:Hid (q9d 97 122 t[0]=false):=hl;have HD:Hid (q9d 48 57 t[0]=false):=hf;have hni:((t[0].toNat:Int)==35)=true:=by rw[hn];rfl
 have HN:Hid (wbS (q1l (btL (k1j t)))=wbS (tkW (btL t))):=by
  show _=_;rw[e1];rfl
 have hll:(k1j t).size<=60000/\0<(k1j t).size:=by
  have h1:=k7u nlB (btL t);rw[q0c]at h1;rw[k1j,q4a];refine⟨by omega,?_⟩;rw[q6n h0,List.takeWhile_cons,if_pos (by rw[hn];rfl)];simp
 have HS:Hid (q6m (btL t)=((wbS ((btL (wbS (tkW (btL t)))).takeWhile (q9d 32 126))).toList==(wbS (tkW (btL t))).toList)):=by
  show _=_;rw[Lib.toList_data,Lib.toList_data,e2,e1];rfl
 have hz:(wbS (tkW (btL t))).size<=60000:=by
  rw[q4a];exact Nat.le_trans (z2h _) (by rw[q0c];exact hs)
 generalize hW:wbS (tkW (btL t))=W at HN HS hz;generalize hO:q6m (btL t)=O at HS;have HW:=(show Hid (_=_)from hW);have HO:=(show Hid (_=_)from hO);generalize hM:wbS ((btL W).takeWhile (q9d 32 126))=M at HS;have HM:=(show Hid (_=_)from hM);obtain⟨hl1,hl2⟩:=hll;clear e1 e2 hl hf hn hW hO hM;go_in;go_wp2_with fail;refine(q4n 97 122 _).mono ?_;rintro e w1⟨⟨a1,b1,rfl,hF1⟩,hb1⟩;go_wp2_with fail;refine(q4n 48 57 _).mono ?_;rintro e w2⟨⟨a2,b2,rfl,hF2⟩,hb2⟩;have HF:Hid (q4j w2 a1 b1 97 122):=hF1.below hb2;have HG:Hid (q4j w2 a2 b2 48 57):=hF2;have HB:Hid (Below w w w2):=q0d hb1 Zl hb2;clear hF1 hF2 hb1 hb2;go_wp2_with fail;refine(q3j t[0] HF.o).mono ?_;rintro e w3⟨rfl,rfl⟩;rw[HL.o];go_wp2_with fail;refine(q3j t[0] HG.o).mono ?_;rintro e w3⟨rfl,rfl⟩;rw[HD.o];go_wp2_with fail;refine(v4h t _ hs).mono ?_;rintro e w3⟨⟨r,b,rfl⟩,hb3⟩;go_wp2_with fail;refine(j9k (k1j t) _ hl2 hl1).mono ?_;rintro e w4⟨rfl,rfl⟩;rw[HN.o];go_wp2_with fail;refine(q4n 32 126 _).mono ?_;rintro e w4⟨⟨a4,b4,rfl,hF4⟩,hb4⟩;have HK:Hid (q4j w4 a4 b4 32 126):=hF4;have HB4:Hid (Below w w w4):=q0d (q0d HB.o Zl hb3) Zl hb4;clear hF4 hb3 hb4;go_wp2_with fail;refine(k4t W HK.o hz).mono ?_;rintro e w5⟨rfl,rfl⟩;rw[HM.o];go_wp2;refine bodyPost_ret (v:=.tuple #[.string W,.bool O]) (by rw[HS.o];simp[results,Tryz.results77,go_sem]) rfl ?_;exact⟨by rw[HW.o,HO.o],HB4.o⟩
theorem k8s(t:ByteArray)(w:World)(h0:0<t.size)(hs:t.size<=60000)(hsp:spB t[0]=false)(hl:q2j t[0]=false)(hf:q1z t[0]=false)(hn:(t[0]==35)=false):Calls prog 77 #[.string t] w fun e w'=>z1h t w e w':=by
 obtain⟨e1,e2⟩:=y3w (c:=t[0]) (r:=(btL t).drop 1) hsp hl hf hn;rw[<-q6n h0]at e1 e2;have HL:Hid (q9d 97 122 t[0]=false):=hl;have HD:Hid (q9d 48 57 t[0]=false):=hf;have h1i:(1:Int)<=(t.size:Int):=by omega
 have h2i:(0:Int)<(t.size:Int):=by omega
 have hni:((t[0].toNat:Int)==35)=false:=by rw[show(35:Int)=((35:Nat):Int)from rfl,q5w _ 35 (by decide)];exact hn
 have HN:Hid (t.extract 0 1=wbS (tkW (btL t))):=by
  show _=_
  have e3:(btL t).take 1=[t[0]]:=by
   have h3:=congrArg (List.take 1) (q6n h0);rw[List.take_succ_cons,List.take_zero]at h3;exact h3
  rw[e1,k6b,e3]
 have HS:Hid (q6m (btL t)=(btL (⟨#[40,41,91,93,44,43,42,61,59]⟩:ByteArray)).any (·==t[0])):=by
  show _=_;rw[e2];rfl
 have hz:(wbS (tkW (btL t))).size<=60000:=by
  rw[q4a];exact Nat.le_trans (z2h _) (by rw[q0c];exact hs)
 generalize hW:wbS (tkW (btL t))=W at HN HS hz;generalize hO:q6m (btL t)=O at HS;have HW:=(show Hid (_=_)from hW);have HO:=(show Hid (_=_)from hO);clear e1 e2 hl hf hn hsp hW hO;go_in;go_wp2_with fail;refine(q4n 97 122 _).mono ?_;rintro e w1⟨⟨a1,b1,rfl,hF1⟩,hb1⟩;go_wp2_with fail;refine(q4n 48 57 _).mono ?_;rintro e w2⟨⟨a2,b2,rfl,hF2⟩,hb2⟩;have HF:Hid (q4j w2 a1 b1 97 122):=hF1.below hb2;have HG:Hid (q4j w2 a2 b2 48 57):=hF2;have HB:Hid (Below w w w2):=q0d hb1 Zl hb2;clear hF1 hF2 hb1 hb2;go_wp2_with fail;refine(q3j t[0] HF.o).mono ?_;rintro e w3⟨rfl,rfl⟩;rw[HL.o];go_wp2_with fail;refine(q3j t[0] HG.o).mono ?_;rintro e w3⟨rfl,rfl⟩;rw[HD.o];go_wp2_with fail
 go_region_held3 (fun _=>True) (trivial) (first|(go_at_call 76;refine(k1z _ _).mono ?_;rintro e w3⟨rfl,rfl⟩)|(go_at_call 118;refine(q8q t[0] (z2s.new _ _)).mono ?_;rintro e w4⟨rfl,rfl⟩;rw[<-HS.o])|(go_at_call 118;refine(q8q t[0] (v3t (z2s.new _ _))).mono ?_;rintro e w4⟨rfl,rfl⟩;rw[<-HS.o]))
 all_goals
  go_wp2;refine bodyPost_ret (v:=.tuple #[.string (t.extract 0 1),.bool O]) (by simp[results,Tryz.results77,go_sem]) rfl ?_;exact⟨by rw[HN.o,HW.o,HO.o],(HB.o.alloc HB.o.size _).trans ⟨rfl,rfl,rfl,Nat.le_refl _,fun _ _=>rfl⟩⟩
theorem j3r(t:ByteArray)(w:World)(h0:0<t.size)(hs:t.size<=60000)(hsp:spB t[0]=false):Calls prog 77 #[.string t] w fun e w'=>z1h t w e w':=by
 cases hl:q2j t[0]with
 | true=>exact j3t t w h0 hs hl
 | false=>
  cases hf:q1z t[0]with
  | true=>exact j3s t w h0 hs hl hf
  | false=>
   cases hn:(t[0]==35)with
   | true=>exact k8t t w h0 hs hl hf (beq_iff_eq.1 hn)
   | false=>exact k8s t w h0 hs hsp hl hf hn
set_option maxHeartbeats 4000000
theorem q8n(s:ByteArray)(w:World)(h:s.size<=281474976710656):
  Calls prog 78 #[.string s] w fun e w'=>e=.returned (.string s)/\Below w w w':=by
 go_in;go_wp2_with fail;refine(clone_sh s _ h).mono ?_;rintro e w2⟨rfl,hb⟩;go_wp2;go_ret;exact⟨rfl,hb⟩
theorem v7v(c:UInt8):(btL (⟨#[32,10]⟩:ByteArray)).any (·==c)=spB c:=by
 show((32==c)||((10==c)||false))=(c==32||c==10)
 rw[Bool.or_false,BEq.comm (a:=(32:UInt8)),BEq.comm (a:=(10:UInt8))]
theorem q5p.later{s:ByteArray}{w:World}{i:Nat}{dn:List (Nat × List UInt8)}{A P:Option Addr}{ac pc:Nat}{wr wr':World}(h:q5p s w i dn A P ac pc wr)(hb:Below wr wr wr'):q5p s w i dn A P ac pc wr':=
 {b:=h.b.trans (hb.mono h.b.size),le:=h.le,ln:=h.ln,eq:=h.eq,ws:=q3n h.ws hb,ps:=q3n h.ps hb}
theorem y3v{s:ByteArray}{k:Nat}(h:k<s.size):0<(s.extract k s.size).size/\∀h0:0<(s.extract k s.size).size,(s.extract k s.size)[0]=s[k]:=by
 have h1:0<(s.extract k s.size).size:=by rw[ByteArray.size_extract];omega
 refine⟨h1,fun h0=>?_⟩;have e1:=q6n h0;rw[k6a,q1h h,List.cons.injEq]at e1;exact e1.1.symm
theorem j5f{s:ByteArray}{k:Nat}(h:k<s.size)(hs:s.size<=60000)(hsp:spB s[k]=false)(W:World):
  Calls prog 77 #[.string (s.extract k s.size)] W fun e w'=>e=.returned (.tuple #[.string (wbS (tkW ((btL s).drop k))),.bool (tOk s k)])/\Below W W w':=by
 obtain⟨h1,h2⟩:=y3v h
 have:=j3r (s.extract k s.size) W h1 (by rw[ByteArray.size_extract];omega) (by rw[h2 h1];exact hsp)
 unfold z1h at this;rw[k6a]at this;exact this
theorem y2j{l:List UInt8}{c:UInt8}{z:List UInt8}(h:l=c::z)(h0:0<(wbS l).size):(wbS l)[0]=c:=by
 subst h;rfl
theorem j9z{s:ByteArray}{k:Nat}(h:k<s.size)(hsp:spB s[k]=false):0<(wbS (tkW ((btL s).drop k))).size/\∀h0:0<(wbS (tkW ((btL s).drop k))).size,(wbS (tkW ((btL s).drop k)))[0]=s[k]:=by
 have h1:∃z,tkW ((btL s).drop k)=s[k]::z:=by
  rw[tkW,q1h h];have hp:=q5f s[k] ((btL s).drop (k+1));obtain⟨m,hm⟩:∃m,q1e (s[k]::(btL s).drop (k+1))=m+1:=⟨_,(Nat.sub_add_cancel hp).symm⟩;rw[hm,List.take_succ_cons];exact z2i (k4x hsp) _
 obtain⟨z,hz⟩:=h1;exact⟨by rw[q4a,hz];simp,fun h0=>y2j hz h0⟩
theorem q5p.next{s:ByteArray}{w:World}{i:Nat}{dn:List (Nat × List UInt8)}{A P:Option Addr}{ac pc:Nat}{wr:World}(h:q5p s w i dn A P ac pc wr)(hi:i<s.size)(hs:spB s[i]=false)(ho:tOk s i=true){A' P':Option Addr}{ac' pc':Nat}{w':World}(hb:Below w w w')
  (h1:w'.ownsRow w.heap.size 9 1 (.slice A' (dn.length+1) ac') (dn.length+1) (strCells (dn.map fun x=>wbS x.2)++[.string (wbS (tkW ((btL s).drop i)))])) (h2:w'.ownsRow w.heap.size 3 1 (.slice P' (dn.length+1) pc') (dn.length+1) (q2w (dn.map (·.1))++[.int .i64 (i:Int)])):
  q5p s w (i+(tkW ((btL s).drop i)).length) (dn++[(i,tkW ((btL s).drop i))]) A' P' ac' pc' w':=by
 have hn:=h.word hi hs ho hb h1 h2
 have hp:1<=(tkW ((btL s).drop i)).length:=by
  rw[tOk,q1h hi]at ho;rw[q1h hi];exact y2b hs ho
 have hle:(tkW ((btL s).drop i)).length+i<=s.size:=by
  have:=z2h ((btL s).drop i)
  rw[List.length_drop,q0c]at this;omega
 have e:=hn.eq;have es:=v3h ((btL s).drop i) i;rw[List.drop_drop,List.drop_drop]at es;refine{b:=hn.b,le:=by omega,ln:=by have:=h.ln;simp;omega,eq:=?_,ws:=hn.ws,ps:=hn.ps};rw[e,lxW,lxF,lxW,lxF,es];rfl
theorem k7e{w:World}{B B' e size n:Nat}{v:Value}{xs:List Value}(h:w.ownsRow B e size v n xs)(hB:B'<=B):w.ownsRow B' e size v n xs:=by
 refine⟨h.1,?_⟩;rcases h.2 with h0|⟨g,c,cur,hv,hg,rest⟩
 ·exact .inl h0
 ·exact .inr ⟨g,c,cur,hv,by omega,rest⟩
def z7u(s:ByteArray)(w:World)(e:Ending)(w':World):Prop:=
 (q7n (btL s)≠0/\e=.returned (.tuple #[.slice none 0 0,.slice none 0 0,.int .i64 ((z9v (btL s):Nat):Int),q1y (q7n (btL s))]))\/
 (q7n (btL s)=0/\∃A P ac pc,e=.returned (.tuple #[.slice A (q2h (btL s)).length ac,.slice P (q2h (btL s)).length pc,.int .i64 0,.nilIface])/\q2r w (.slice A (q2h (btL s)).length ac) ((q2h (btL s)).map wbS) w'/\z1i w.heap.size (.slice P (q2h (btL s)).length pc) (z2c (btL s)) w')
theorem k5f(s:ByteArray)(w:World)(hl:(btL s).length<=60000):Calls prog 40 #[.string s] w fun e w'=>z7u s w e w'/\Below w w w':=by
 have hsz:s.size<=60000:=by rw[<-q0c];exact hl
 clear hl;have hszi:¬60000<(s.size:Int):=by omega
 go_in;go_wp2_with fail;refine(k1z _ _).mono ?_;rintro e w1⟨rfl,hw1⟩;have HO:Hid (z2s w1 w.heap.size ⟨#[32,10]⟩):=by rw[hw1];exact z2s.new _ _
 have HB1:Hid (Below w w w1):=by rw[hw1];exact Zb.alloc Zl _
 have hs1:=HO.o.1;generalize hbk:w.heap.size=bk at HO HB1 hs1⊢;have HBK:=hid hbk;clear hw1 hbk;go_wp2_with fail
 go_loopw [2,3,7,8] (fun x p m i wr=>∃(k:Nat)(dn:List (Nat × List UInt8))(A P:Option Addr)(ac pc:Nat),x=.slice A dn.length ac/\p=.slice P dn.length pc/\m=.int .i64 ((many (dn.map (·.2)):Nat):Int)/\i=(k:Int)/\q5p s w1 k dn A P ac pc wr) (fun _ _ _ i _=>s.size-(intOf i).toNat)
 case atStart=>exact⟨0,[],none,none,0,0,rfl,rfl,rfl,rfl,{b:=Below.refl _ _,le:=Nat.zero_le _,ln:=Nat.le_refl _,eq:=rfl,ws:=World.ownsRow_nil _ _ _ _,ps:=World.ownsRow_nil _ _ _ _}⟩
 case round=>
  obtain⟨k,dn,A,P,ac,pc,rfl,rfl,rfl,rfl,hR⟩:=hrel;have HR:=hid hR;have HOr:=hid (HO.o.below hs1 hR.b);have HBr:=hid (HB1.o.trans (hR.b.mono (Nat.le_of_lt hs1)));have hle:=hR.le;have hln:=hR.ln
  have hmn:many (dn.map (·.2))<=60000:=by
   have h1:many (dn.map (·.2))<=(dn.map (·.2)).length:=List.length_filter_le _ _;rw[List.length_map]at h1;omega
  clear hR;generalize hmm:many (dn.map (·.2))=mm at hmn;have HMM:=hid hmm;clear hmm;by_cases hlt:k<s.size
  ·have hki:(k:Int)<(s.size:Int):=by omega
   cases hs:spB s[k]with
   | true=>
    have HN:=hid (HR.o.space hlt hs);have HP:=(show Hid (_=_)from v7v s[k]);go_wp2_with fail;refine(q8q s[k] HOr.o).mono ?_;rintro e w2⟨rfl,rfl⟩;rw[HP.o,hs];clear hs;go_wp2
    go_roundw
    case rel=>exact⟨k+1,dn,A,P,ac,pc,rfl,rfl,by rw[HMM.o],by go_num,HN.o⟩
    case measure=>simp[intOf];omega
   | false=>
    have HP:=(show Hid (_=_)from v7v s[k]);have HS:=hid hs;have hkm:(k:Int)<=(s.size:Int):=by omega
    clear hs;go_wp2_with fail;refine(q8q s[k] HOr.o).mono ?_;rintro e w2⟨rfl,rfl⟩;rw[HP.o,HS.o];go_wp2_with fail;refine(j5f hlt hsz HS.o _).mono ?_;rintro e w2⟨rfl,hb2⟩;have HR2:=hid (HR.o.later hb2);have HB2:=hid (HB1.o.trans (HR2.o.b.mono (Nat.le_of_lt hs1)));clear HR HBr HOr hb2;cases hok:tOk s k with
    | false=>
     have HF:=hid (k6l (by rw[q0c];exact hsz) (k1h HR2.o hlt HS.o hok));generalize hu:wbS (tkW ((btL s).drop k))=u;clear hok hu;go_wp2;refine bodyPost_ret (v:=.tuple #[.slice none 0 0,.slice none 0 0,(k:Int),.iface 23 (.int .i64 5)]) (by simp[results,Tryz.results40,go_sem]) rfl ?_;exact⟨.inl ⟨by rw[HF.o.1];decide,by rw[HF.o.1,HF.o.2,v6q]⟩,by rw[HBK.o];exact HB2.o⟩
    | true=>
     have HOK:=hid hok;obtain⟨hu0,hu1⟩:=j9z hlt HS.o
     have hus:(wbS (tkW ((btL s).drop k))).size+k<=s.size:=by
      have:=z2h ((btL s).drop k)
      rw[List.length_drop,q0c]at this;rw[q4a];omega
     have HMY:Hid (many (dn.map (·.2)++[tkW ((btL s).drop k)])=mm+(if s[k] != 35 then 1 else 0)):=by
      show _=_;rw[k6r,HMM.o,k6s hlt HS.o]
     have HUZ:Hid ((tkW ((btL s).drop k)).length=(wbS (tkW ((btL s).drop k))).size):=(q4a _).symm;generalize hW:tkW ((btL s).drop k)=W at HMY HUZ hu0 hu1 hus⊢;have HW:=hid hW;generalize hu:wbS W=u at HUZ hu0 hu1 hus⊢;have HU:=hid hu;have hu0i:(0:Int)<(u.size:Int):=by omega
     clear hok hW hu;cases hn:(s[k] != 35)with
     | true=>
      have hni:((u[0].toNat:Int) != 35)=true:=by
       rw[hu1 hu0]
       show(!((s[k].toNat:Int)==35))=true
       rw[show(35:Int)=((35:Nat):Int)from rfl,q5w _ 35 (by decide)];exact hn
      have HMW:Hid (many ((dn++[(k,W)]).map (·.2))=mm+1):=by
       show _=_;rw[List.map_append]
       have:=HMY.o
       rw[hn]at this;exact this
      clear hn hu1 HMY;go_wp2_with fail;refine(q8n u _ (by omega)).mono ?_;rintro e w3⟨rfl,hb3⟩;have HR3:=hid (HR2.o.later hb3);have hsr:=HR3.o.b.size;clear HR2 HB2 hb3;obtain⟨i0,hi0,hz0,hz1,hz2⟩:=info_parts z0v;go_wp2_with(at_builtin;refine wpList_append_lies _ rfl _ _ 58 rfl w1.heap.size 9 i0 _ 1 16 Tryz.underlying58 hi0 hz0 hz1 hz2 rfl (by decide) _ _ _ rfl (World.ownsRow.alloc HR3.o.ws _) w3.heap.size 1 1 [.string u] rfl rfl (cell_one_new w3 _ _) (by intro u hu;simp at hu;subst hu;rfl) (by decide) (by unfold maxLen;omega) (by omega) (by simp;omega) (w3.heap.size+1) (by simp) ?_);intro g2 cap2 w4 hown2 hgrow2 hat2 hlt2;have hb2:=(HR3.o.b.alloc (by omega) (.cells #[.string u] 9)).grown hgrow2 (by simp;omega) (fun j hj=>(World.ownsRow.lt HR3.o.ws j hj).1);have HB2:=(show Hid (Below _ _ _)from hb2);have HP2:=hid (z2b (World.ownsRow.alloc HR3.o.ps _) (World.ownsRow.alloc HR3.o.ws _) (by decide) hgrow2);have HW2:=(show Hid (w4.ownsRow _ _ _ _ _ _)from hown2);have hs2:=hb2.size;clear hown2 hgrow2 hb2 hat2 hlt2;obtain⟨i1,hi1,hy0,hy1,hy2⟩:=info_parts z2m;go_wp2_with(at_builtin;refine wpList_append_lies _ rfl _ _ 45 rfl w1.heap.size 3 i1 _ 1 8 Tryz.underlying45 hi1 hy0 hy1 hy2 rfl (by decide) _ _ _ rfl (World.ownsRow.alloc HP2.o _) w4.heap.size 1 1 [(k:Int)] rfl rfl (cell_one_new w4 _ _) (by intro u hu;simp at hu;subst hu;rfl) (by decide) (by unfold maxLen;omega) (by omega) (by simp;omega) (w4.heap.size+1) (by simp) ?_);intro g3 cap3 w5 hown3 hgrow3 hat3 hlt3;have hb3:=(HB2.o.alloc (by omega) (.cells #[(k:Int)] 3)).grown hgrow3 (by simp;omega) (fun j hj=>(World.ownsRow.lt HP2.o j hj).1);have hW3:=z2b (World.ownsRow.alloc HW2.o _) (World.ownsRow.alloc HP2.o _) (by decide) hgrow3
      have HN:Hid (q5p s w1 (k+u.size) (dn++[(k,W)]) g2 g3 cap2 cap3 w5):=by
       show q5p _ _ _ _ _ _ _ _ _;rw[<-HUZ.o,<-HW.o];refine HR3.o.next hlt HS.o HOK.o hb3 ?_ ?_
       ·rw[HW.o,HU.o];exact hW3
       ·exact hown3
      clear hown3 hgrow3 hat3 hlt3 hb3 hW3;go_wp2
      go_roundw
      case rel=>exact⟨k+u.size,dn++[(k,W)],some ↑g2,some ↑g3,cap2,cap3,by rw[List.length_append];rfl,by rw[List.length_append];rfl,by rw[HMW.o];go_num,by go_num,HN.o⟩
      case measure=>simp[intOf];omega
     | false=>
      have hni:((u[0].toNat:Int) != 35)=false:=by
       rw[hu1 hu0]
       show(!((s[k].toNat:Int)==35))=false
       rw[show(35:Int)=((35:Nat):Int)from rfl,q5w _ 35 (by decide)];exact hn
      have HMW:Hid (many ((dn++[(k,W)]).map (·.2))=mm):=by
       show _=_;rw[List.map_append]
       have:=HMY.o
       rw[hn]at this;exact this
      clear hn hu1 HMY;go_wp2_with fail;refine(q8n u _ (by omega)).mono ?_;rintro e w3⟨rfl,hb3⟩;have HR3:=hid (HR2.o.later hb3);have hsr:=HR3.o.b.size;clear HR2 HB2 hb3;obtain⟨i0,hi0,hz0,hz1,hz2⟩:=info_parts z0v;go_wp2_with(at_builtin;refine wpList_append_lies _ rfl _ _ 58 rfl w1.heap.size 9 i0 _ 1 16 Tryz.underlying58 hi0 hz0 hz1 hz2 rfl (by decide) _ _ _ rfl (World.ownsRow.alloc HR3.o.ws _) w3.heap.size 1 1 [.string u] rfl rfl (cell_one_new w3 _ _) (by intro u hu;simp at hu;subst hu;rfl) (by decide) (by unfold maxLen;omega) (by omega) (by simp;omega) (w3.heap.size+1) (by simp) ?_);intro g2 cap2 w4 hown2 hgrow2 hat2 hlt2;have hb2:=(HR3.o.b.alloc (by omega) (.cells #[.string u] 9)).grown hgrow2 (by simp;omega) (fun j hj=>(World.ownsRow.lt HR3.o.ws j hj).1);have HB2:=(show Hid (Below _ _ _)from hb2);have HP2:=hid (z2b (World.ownsRow.alloc HR3.o.ps _) (World.ownsRow.alloc HR3.o.ws _) (by decide) hgrow2);have HW2:=(show Hid (w4.ownsRow _ _ _ _ _ _)from hown2);have hs2:=hb2.size;clear hown2 hgrow2 hb2 hat2 hlt2;obtain⟨i1,hi1,hy0,hy1,hy2⟩:=info_parts z2m;go_wp2_with(at_builtin;refine wpList_append_lies _ rfl _ _ 45 rfl w1.heap.size 3 i1 _ 1 8 Tryz.underlying45 hi1 hy0 hy1 hy2 rfl (by decide) _ _ _ rfl (World.ownsRow.alloc HP2.o _) w4.heap.size 1 1 [(k:Int)] rfl rfl (cell_one_new w4 _ _) (by intro u hu;simp at hu;subst hu;rfl) (by decide) (by unfold maxLen;omega) (by omega) (by simp;omega) (w4.heap.size+1) (by simp) ?_);intro g3 cap3 w5 hown3 hgrow3 hat3 hlt3;have hb3:=(HB2.o.alloc (by omega) (.cells #[(k:Int)] 3)).grown hgrow3 (by simp;omega) (fun j hj=>(World.ownsRow.lt HP2.o j hj).1);have hW3:=z2b (World.ownsRow.alloc HW2.o _) (World.ownsRow.alloc HP2.o _) (by decide) hgrow3
      have HN:Hid (q5p s w1 (k+u.size) (dn++[(k,W)]) g2 g3 cap2 cap3 w5):=by
       show q5p _ _ _ _ _ _ _ _ _;rw[<-HUZ.o,<-HW.o];refine HR3.o.next hlt HS.o HOK.o hb3 ?_ ?_
       ·rw[HW.o,HU.o];exact hW3
       ·exact hown3
      clear hown3 hgrow3 hat3 hlt3 hb3 hW3;go_wp2
      go_roundw
      case rel=>exact⟨k+u.size,dn++[(k,W)],some ↑g2,some ↑g3,cap2,cap3,by rw[List.length_append];rfl,by rw[List.length_append];rfl,by rw[HMW.o],by go_num,HN.o⟩
      case measure=>simp[intOf];omega
  ·have hki:¬(k:Int)<(s.size:Int):=by omega
   have HX:=hid (k1i HR.o hlt)
   have HL:Hid ((q2h (btL s)).length=dn.length/\many (q2h (btL s))=mm):=by
    refine⟨?_,?_⟩
    ·rw[q2h,HX.o.2,List.length_map]
    ·rw[q2h,HX.o.2];exact HMM.o
   by_cases h300:300<mm
   ·have hmi:(300:Int)<(mm:Int):=by omega
    have HF:=hid (k1f (by rw[q0c];exact hsz) HX.o.1 (by rw[HL.o.2];exact h300));go_wp2;refine bodyPost_ret (v:=.tuple #[.slice none 0 0,.slice none 0 0,.int .i64 0,.iface 23 (.int .i64 3)]) (by simp[results,Tryz.results40,go_sem]) rfl ?_;exact⟨.inl ⟨by rw[HF.o.1];decide,by rw[HF.o.1,HF.o.2,k5z];rfl⟩,by rw[HBK.o];exact HBr.o⟩
   ·have hmi:¬(300:Int)<(mm:Int):=by omega
    have HF:=hid (k1g (by rw[q0c];exact hsz) HX.o.1 (by rw[HL.o.2];exact h300));go_wp2;refine bodyPost_ret (v:=.tuple #[.slice A dn.length ac,.slice P dn.length pc,.int .i64 0,.nilIface]) (by simp[results,Tryz.results40,go_sem]) rfl ?_;refine⟨.inr ⟨HF.o.1,A,P,ac,pc,by rw[HL.o.1],k7e (B:=w1.heap.size) ?_ (by rw[HBK.o];omega),k7e (B:=w1.heap.size) ?_ (by rw[HBK.o];omega)⟩,by rw[HBK.o];exact HBr.o⟩
    ·show wr.ownsRow _ _ _ _ _ _;rw[List.length_map,HL.o.1,q2h,HX.o.2,List.map_map];exact HR.o.ws
    ·show wr.ownsRow _ _ _ _ _ _;rw[<-z2r,HL.o.1,z2c,HX.o.2];exact HR.o.ps
theorem v0b(s:ByteArray)(w:World):Calls prog 40 #[.string s] w fun e w'=>z7u s w e w'/\Below w w w':=by
 by_cases h:(btL s).length<=60000
 ·exact k5f s w h
 ·have HF:Hid (q7n (btL s)=3/\z9v (btL s)=0):=k1e (by omega);have hsz:60000<(s.size:Int):=by rw[q0c]at h;omega
  clear h;go_in;go_wp2;refine bodyPost_ret (v:=.tuple #[.slice none 0 0,.slice none 0 0,.int .i64 0,.iface 23 (.int .i64 3)]) (by simp[results,Tryz.results40,go_sem]) rfl ?_;exact⟨.inl ⟨by rw[HF.o.1];decide,by rw[HF.o.1,HF.o.2,k5z];rfl⟩,Below.refl _ _⟩
end Go.Proofs.YthjapabokcajhaaGreatDoor
