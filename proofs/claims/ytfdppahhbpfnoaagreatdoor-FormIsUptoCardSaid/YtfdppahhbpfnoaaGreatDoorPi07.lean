import Derived.Test.YtfdppahhbpfnoaaGreatDoorPi01
import Derived.Lib.Bytealg
import Derived.Lib.IndexLaws
import Derived.Test.YtfdppahhbpfnoaaGreatDoorPi04
import Derived.Maps.OwnSet
import Derived.DeepKeys4
open Go.Proofs.Tryz
namespace Go.Proofs.YtfdppahhbpfnoaaGreatDoor
open Go Go.RowKit
theorem k1p:∀(z r:List UInt8)(i:Nat),(∀x∈z,x=32)->lx (z++r) i=lx r (i+z.length)
 | [],r,i,_=>by simp
 | c::z,r,i,h=>by
  have hc:c=32:=h c (by simp);subst hc;rw[List.cons_append,j6g _ _ (by decide),k1p z r (i+1) (fun x hx=>h x (by simp[hx])),List.length_cons]
  congr 1;omega
theorem v8l{p:UInt8->Bool}:∀(l:List UInt8)x,x∈l.takeWhile p->p x=true
 | [],x,hx=>by cases hx
 | a::l,x,hx=>by
  rw[List.takeWhile_cons]at hx;by_cases ha:p a=true
  ·rw[if_pos ha]at hx;rcases List.mem_cons.1 hx with rfl|hx
   ·exact ha
   ·exact v8l l x hx
  ·rw[if_neg ha]at hx;cases hx
theorem z7d(w:List UInt8):∃z,w=q1k w++z/\∀x∈z,x=32:=by
 refine⟨(w.reverse.takeWhile (·==32)).reverse,?_,fun x hx=>?_⟩
 ·rw[q1k,<-List.reverse_append,List.takeWhile_append_dropWhile,List.reverse_reverse]
 ·have:=v8l _ _ (List.mem_reverse.1 hx)
  exact beq_iff_eq.1 this
theorem z2j(s:List UInt8):(tkW s).length<=s.length:=by
 have A:=z1b (s.take (q1c s));rw[List.length_take]at A;rw[tkW];omega
theorem v3t(s:List UInt8)(i:Nat):lx (s.drop (tkW s).length) (i+(tkW s).length)=lx (s.drop (q1c s)) (i+q1c s):=by
 obtain⟨z,D,B⟩:=z7d (s.take (q1c s));have C:=z0x s;have A:=congrArg List.length D;rw[List.length_append,List.length_take,Nat.min_eq_left C]at A
 have e:s.drop (tkW s).length=z++s.drop (q1c s):=by
  have E:s=q1k (s.take (q1c s))++(z++s.drop (q1c s)):=by
   rw[<-List.append_assoc,<-D,List.take_append_drop]
  have G:s.drop (tkW s).length=(q1k (s.take (q1c s))++(z++s.drop (q1c s))).drop (tkW s).length:=congrArg (List.drop _) E;rw[G,tkW,List.drop_left]
 rw[e,k1p z _ _ B]
 congr 1
 rw[tkW];omega
theorem y2b{c:UInt8}{r:List UInt8}(hs:spB c=false)(ho:q6q (c::r)=true):1<=(tkW (c::r)).length:=j9v (v8i hs ho)
theorem y7i{c:UInt8}{r:List UInt8}(hl:q2b c=true):tkW (c::r)=(c::r).takeWhile q2b/\q6q (c::r)=decide (((c::r).takeWhile q2b).length<=8):=by
 refine⟨?_,?_⟩
 ·simp only[tkW,q1c,hl,if_true,List.take_succ_cons,z5d,List.takeWhile_cons];exact q8z (fun _=>j6c) c hl r
 ·simp only[q6q,hl,if_true,List.takeWhile_cons,List.length_cons]
theorem y7h{c:UInt8}{r:List UInt8}(hl:q2b c=false)(hf:q1w c=true):tkW (c::r)=(c::r).takeWhile q1w/\q6q (c::r)=(decide (((c::r).takeWhile q1w).length<=6)&&(c != 48||(c::r).takeWhile q1w==[48])):=by
 refine⟨?_,?_⟩
 ·simp only[tkW,q1c,hl,hf,if_true,Bool.false_eq_true,if_false,List.take_succ_cons,z5d,List.takeWhile_cons];exact q8z (fun _=>j3x) c hf r
 ·simp only[q6q,hl,hf,if_true,Bool.false_eq_true,if_false,List.takeWhile_cons,List.length_cons]
  congr 1
  by_cases h:c=48
  ·subst h;cases A:r.takeWhile q1w with
   | nil=>rfl
   | cons a b=>
    simp
  ·have:(c != 48)=true:=by simp[h]
   rw[this];rfl
theorem v6o{p:UInt8->Bool}:∀l:List UInt8,(l.takeWhile p==l)=l.all p
 | []=>rfl
 | a::l=>by
  rw[List.takeWhile_cons,List.all_cons];cases h:p a with
  | true=>
   rw[if_pos rfl,<-v6o l];simp
  | false=>simp
theorem y3t{c:UInt8}{r:List UInt8}(hl:q2b c=false)(hf:q1w c=false)(hn:c=35):tkW (c::r)=q1k ((c::r).takeWhile nlB)/\q6q (c::r)=((q1k ((c::r).takeWhile nlB)).takeWhile prB==q1k ((c::r).takeWhile nlB)):=by
 subst hn;have B:(35::r:List UInt8).takeWhile nlB=35::r.takeWhile nlB:=by rw[List.takeWhile_cons];rfl
 refine⟨?_,?_⟩
 ·simp only[tkW,q1c,hl,hf,if_true,Bool.false_eq_true,if_false,List.take_succ_cons,z5d,beq_self_eq_true,B]
 ·rw[v6o,B];simp only[q6q,hl,hf,if_true,Bool.false_eq_true,if_false,beq_self_eq_true];obtain⟨z,G,A⟩:=z7d (35::r.takeWhile nlB)
  have C:(35::r.takeWhile nlB).all prB=((q1k (35::r.takeWhile nlB)).all prB&&z.all prB):=by
   rw[<-List.all_append,<-G]
  have D:z.all prB=true:=by
   rw[List.all_eq_true];intro x E;rw[A x E];decide
  rw[D,Bool.and_true,List.all_cons]at C;rw[<-C];rfl
theorem y3s{c:UInt8}{r:List UInt8}(hs:spB c=false)(hl:q2b c=false)(hf:q1w c=false)(hn:(c==35)=false):tkW (c::r)=[c]/\q6q (c::r)=y6p c:=by
 refine⟨?_,?_⟩
 ·simp only[tkW,q1c,hl,hf,hn,Bool.false_eq_true,if_false,List.take_succ_cons,List.take_zero];exact q2r [] (k5d hs)
 ·simp only[q6q,hl,hf,hn,Bool.false_eq_true,if_false]
theorem j6p:∀l:List UInt8,Lib.indexByte l 10=-1->l.takeWhile nlB=l
 | [],_=>rfl
 | b::l,h=>by
  unfold Lib.indexByte at h;have hge:=Lib.indexByte_ge l 10
  split at h
  ·cases h
  ·rename_i hb;have hb':nlB b=true:=by simpa[nlB]using hb
   split at h
   ·rename_i h1;rw[List.takeWhile_cons,if_pos hb',j6p l (by simpa using h1)]
   ·omega
theorem v7l:∀(l:List UInt8)(i:Nat),Lib.indexByte l 10=i->l.takeWhile nlB=l.take i/\i+1<=l.length
 | [],i,h=>by simp[Lib.indexByte]at h
 | b::l,i,h=>by
  unfold Lib.indexByte at h;have hge:=Lib.indexByte_ge l 10
  split at h
  ·rename_i hb
   have:i=0:=by omega
   subst this;have A:nlB b=false:=by simpa[nlB]using hb
   rw[List.takeWhile_cons,if_neg (by simp[A])];simp
  ·rename_i hb;have A:nlB b=true:=by simpa[nlB]using hb
   split at h
   ·omega
   ·rename_i h1;have C:Lib.indexByte l 10≠-1:=by simpa using h1
    obtain⟨j,rfl⟩:∃j,i=j+1:=⟨i-1,by omega⟩;obtain⟨B,D⟩:=v7l l j (by omega);rw[List.takeWhile_cons,if_pos A,B,List.take_succ_cons];exact⟨rfl,by simp;omega⟩
theorem v7b:∀(l:List UInt8)(c:UInt8),decide (0<=Lib.indexByte l c)=l.any (·==c)
 | [],c=>rfl
 | b::l,c=>by
  unfold Lib.indexByte;have hge:=Lib.indexByte_ge l c;have ih:=v7b l c;rw[List.any_cons,<-ih];cases hb:(b==c)with
  | true=>simp
  | false=>
   simp only[Bool.false_eq_true,if_false,Bool.false_or];by_cases h:Lib.indexByte l c=-1
   ·simp[h]
   ·have h2:(Lib.indexByte l c==-1)=false:=by simpa using h
    rw[h2];simp only[Bool.false_eq_true,if_false];rw[decide_eq_true (by omega),decide_eq_true (by omega)]
set_option maxRecDepth 100000
set_option maxHeartbeats 2000000
def OAt(T:TypeId)(B b:Nat)(pre:List Value)(p:Value)(bs R:List Value)(w:World):Prop:=
 ∃v,w.heap[b]?=some (.cells (pre++p::v::R).toArray T (0,0))/\w.ownsRowF B 5 1 v bs.length bs/\v.ownBlock≠some b/\(bs=[]->v=.slice none 0 0)
def IsO(T:TypeId)(B b:Nat)(pre bs R:List Value)(w:World):Prop:=
 OAt T B b pre (.pointer none) bs R w\/OAt T B b pre (.pointer (some ⟨b,pre.length,none⟩)) bs R w
section
variable {T:TypeId} {B b:Nat} {p v:Value} {pre bs R:List Value} {w:World}
theorem v4d(hb:w.heap[b]?=some (.cells (pre++p::v::R).toArray T (0,0)))(i:Nat):w.cell? ⟨b,i,none⟩=(pre++p::v::R)[i]?:=by
 simp[World.cell?,hb]
theorem j8a(hb:w.heap[b]?=some (.cells (pre++p::v::R).toArray T (0,0))):w.cell? ⟨b,pre.length,none⟩=some p:=by
 rw[v4d hb,List.getElem?_append_right Zl,Nat.sub_self];rfl
theorem k7g(hb:w.heap[b]?=some (.cells (pre++p::v::R).toArray T (0,0))):w.cell? ⟨b,pre.length+1,none⟩=some v:=by
 rw[v4d hb,List.getElem?_append_right (Nat.le_add_right _ _),Nat.add_sub_cancel_left];rfl
theorem olt(hb:w.heap[b]?=some (.cells (pre++p::v::R).toArray T (0,0))):b<w.heap.size:=by
 rcases Nat.lt_or_ge b w.heap.size with A|A
 ·exact A
 ·simp[Array.getElem?_eq_none A]at hb
theorem OAt.cell0(h:OAt T B b pre p bs R w):w.cell? ⟨b,pre.length,none⟩=some p:=by
 obtain⟨v,A,_⟩:=h;exact j8a A
theorem OAt.cellP(h:OAt T B b pre p bs R w)(i:Nat)(hi:i<pre.length):w.cell? ⟨b,i,none⟩=pre[i]?:=by
 obtain⟨v,A,_⟩:=h;rw[v4d A,List.getElem?_append_left hi]
theorem OAt.cellR(h:OAt T B b pre p bs R w)(i:Nat):w.cell? ⟨b,pre.length+(i+2),none⟩=R[i]?:=by
 obtain⟨v,A,_⟩:=h;rw[v4d A,List.getElem?_append_right (Nat.le_add_right _ _),Nat.add_sub_cancel_left];rfl
theorem OAt.shape(h:OAt T B b pre p bs R w):w.shape? b=some (T,pre.length+(R.length+2)):=by
 obtain⟨v,A,_⟩:=h;simp[World.shape?,A]
theorem OAt.lt(h:OAt T B b pre p bs R w):b<w.heap.size:=by
 obtain⟨v,A,_⟩:=h;exact olt A
theorem y8a(hb:w.heap[b]?=some (.cells (pre++p::v::R).toArray T (0,0)))(i:Nat)(q:Value):(w.setCell ⟨b,i,none⟩ q).heap[b]?=some (.cells ((pre++p::v::R).set i q).toArray T (0,0)):=by
 simp[World.setCell,Array.getElem?_modify,hb]
theorem OAt.used(h:OAt T B b pre p bs R w)(q:Value):OAt T B b pre q bs R (w.setCell ⟨b,pre.length,none⟩ q):=by
 obtain⟨v,E,C,A,D⟩:=h;refine⟨v,?_,?_,A,D⟩
 ·rw[y8a E,List.set_append_right _ _ Zl,Nat.sub_self];rfl
 ·exact C.kept (row:=some b) ⟨rfl,rfl,rfl,by simp[World.setCell],fun k _ hk=>Below.heap_setCell _ _ _ _ (fun e=>hk (by simp[e]))⟩ (Or.inr A)
theorem OAt.stored(h:OAt T B b pre p bs R w)(i:Nat)(q:Value):OAt T B b pre p bs (R.set i q) (w.setCell ⟨b,pre.length+(i+2),none⟩ q):=by
 obtain⟨v,E,C,A,D⟩:=h;refine⟨v,?_,?_,A,D⟩
 ·rw[y8a E,List.set_append_right _ _ (Nat.le_add_right _ _),Nat.add_sub_cancel_left];rfl
 ·exact C.kept (row:=some b) ⟨rfl,rfl,rfl,by simp[World.setCell],fun k _ hk=>Below.heap_setCell _ _ _ _ (fun e=>hk (by simp[e]))⟩ (Or.inr A)
theorem OAt.frozen(h:OAt T B b pre p bs R w)(i:Nat):w.frozen? ⟨b,i,none⟩=false:=by
 obtain⟨v,A,_⟩:=h;simp[World.frozen?,A]
theorem OAt.put{v':Value}{bs':List Value}(hb:w.heap[b]?=some (.cells (pre++p::v::R).toArray T (0,0)))(A:w.ownsRowF B 5 1 v' bs'.length bs')(D:T≠5)(h0:bs'=[]->v'=.slice none 0 0):
  OAt T B b pre p bs' R (w.setCell ⟨b,pre.length+1,none⟩ v'):=by
 have C:=Lib.ownBlock_neF A hb D;refine⟨v',?_,?_,C,h0⟩
 ·rw[y8a hb,List.set_append_right _ _ (Nat.le_add_right _ _),Nat.add_sub_cancel_left];rfl
 ·exact A.kept (row:=some b) ⟨rfl,rfl,rfl,by simp[World.setCell],fun k _ hk=>Below.heap_setCell _ _ _ _ (fun e=>hk (by simp[e]))⟩ (Or.inr C)
theorem OAt.alloc(h:OAt T B b pre p bs R w)(o:Obj):OAt T B b pre p bs R (w.alloc o):=by
 have C:=h.lt;obtain⟨v,G,A,D,E⟩:=h;exact⟨v,(Lib.alloc_old w o b C).trans G,A.kept (World.grownBy_alloc w o none) (by cases H:v.ownBlock<;>simp),D,E⟩
theorem OAt.W{w':World}(h:OAt T B b pre p bs R w)(hx:Below w w w'):OAt T B b pre p bs R w':=by
 have C:=h.lt;obtain⟨v,G,A,D,E⟩:=h;exact⟨v,(hx.block b C).trans G,A.kept (row:=none) ⟨hx.os,hx.tape,hx.output,hx.size,fun k hk _=>hx.block k hk⟩ (by cases H:v.ownBlock<;>simp),D,E⟩
theorem IsO.at(h:IsO T B b pre bs R w):∃p,OAt T B b pre p bs R w:=by
 rcases h with h|h
 ·exact⟨_,h⟩
 ·exact⟨_,h⟩
theorem IsO.lt(h:IsO T B b pre bs R w):b<w.heap.size:=h.at.elim fun _ h=>h.lt
theorem IsO.cellP(h:IsO T B b pre bs R w)(i:Nat)(hi:i<pre.length):w.cell? ⟨b,i,none⟩=pre[i]?:=h.at.elim fun _ h=>h.cellP i hi
theorem IsO.cellR(h:IsO T B b pre bs R w)(i:Nat):w.cell? ⟨b,pre.length+(i+2),none⟩=R[i]?:=h.at.elim fun _ h=>h.cellR i
theorem IsO.frozen(h:IsO T B b pre bs R w)(i:Nat):w.frozen? ⟨b,i,none⟩=false:=h.at.elim fun _ h=>h.frozen i
theorem IsO.alloc(h:IsO T B b pre bs R w)(o:Obj):IsO T B b pre bs R (w.alloc o):=h.imp (·.alloc o) (·.alloc o)
theorem IsO.W{w':World}(h:IsO T B b pre bs R w)(hx:Below w w w'):IsO T B b pre bs R w':=h.imp (·.W hx) (·.W hx)
theorem IsO.stored(h:IsO T B b pre bs R w)(i:Nat)(q:Value):IsO T B b pre bs (R.set i q) (w.setCell ⟨b,pre.length+(i+2),none⟩ q):=h.imp (·.stored i q) (·.stored i q)
theorem IsO.drew(h:IsO T B b pre bs R w):IsO T B b pre bs R w.drew:=h
theorem IsO.unused(T:TypeId)(B b:Nat)(w:World)(pre R:List Value)(h:w.heap[b]?=some (.cells (pre++.pointer none::.slice none 0 0::R).toArray T (0,0))):IsO T B b pre [] R w:=
 Or.inl ⟨.slice none 0 0,h,World.ownsRowF_nil _ _ _ _,by simp[Value.ownBlock],fun _=>rfl⟩
end
theorem k4o(b o:Nat)(w:World)(h0:w.cell? ⟨b,o,none⟩=some (.pointer (some ⟨b,o,none⟩))):
  Calls prog 75 #[.pointer (some ⟨b,o,none⟩)] w fun e w'=>e=.returned (.tuple #[])/\w'=w:=by
 obtain⟨j,A,_⟩:=Option.map_eq_some_iff.1 v6i;go_in;go_wp2;rw[Lib.run_neq_ptr_same w _ Tryz.underlying78 A];go_wp2
 go_end0
 exact⟨rfl,rfl⟩
theorem k1y(T n b o:Nat)(w:World)(hl:liesAt prog prog.depth T (n / prog.cellsOf T) o 81 1=true)(h0:w.cell? ⟨b,o,none⟩=some (.pointer none))(B:w.shape? b=some (T,n))(hn:o<n)(H:w.frozen? ⟨b,o,none⟩=false):
  Calls prog 75 #[.pointer (some ⟨b,o,none⟩)] w fun e w'=>e=.returned (.tuple #[])/\w'=w.setCell ⟨b,o,none⟩ (.pointer (some ⟨b,o,none⟩)):=by
 obtain⟨j,D,A⟩:=Option.map_eq_some_iff.1 v6i;have G:Hid (liesAt prog prog.depth T (n / prog.cellsOf T) o 81 1=true):=hl;have C:Hid (w.shape? b=some (T,n)):=B;have E:Hid (j.size≠0):=(show j.size≠0 by rw[A];decide);clear hl B A;go_in;go_wp2;rw[Lib.run_to_unsafe w ⟨b,o,none⟩ Tryz.underlying78 Tryz.underlying178 D E.o C.o hn];simp only[Result.andThen];rw[Oper.upon_value];go_wp2;rw[run_callFunc_extern func117 (by kernel_rfl) (by kernel_rfl) (by kernel_rfl) (e:=Extern.AbiNoEscape.same) (by kernel_rfl)];rw[Lib.run_noEscape];simp only[Result.andThen];rw[Oper.upon_value];go_wp2;rw[Lib.run_from_unsafe w ⟨b,o,none⟩ Tryz.underlying178 Tryz.underlying78 D C.o G.o];simp only[Result.andThen];rw[Oper.upon_value];go_wp2
 go_end0
 exact⟨rfl,rfl⟩
def j1u(T n o:Nat):Prop:=liesAt prog prog.depth T (n / prog.cellsOf T) o 81 1=true
theorem j0c(T B b o:Nat)(A bs R:List Value)(w:World)(ho:A.length=o)(hl:j1u T (o+(R.length+2)) o)(h:IsO T B b A bs R w):
  Calls prog 75 #[.pointer (some ⟨b,o,none⟩)] w fun e w'=>e=.returned (.tuple #[])/\(OAt T B b A (.pointer (some ⟨b,A.length,none⟩)) bs R w'/\q0v B b w w'/\Lib.OthersKept 5 (some b) w w'):=by
 subst ho;rcases h with h|h
 ·refine(k1y T (A.length+(R.length+2)) b A.length w hl h.cell0 h.shape (by omega) (h.frozen _)).mono ?_;rintro e w'⟨rfl,rfl⟩;exact⟨rfl,h.used _,(q0v.refl B b w).setCell (p:=⟨b,A.length,none⟩) (.inl rfl) _,(Lib.OthersKept.refl _ _ w).setCell ⟨b,A.length,none⟩ rfl _⟩
 ·refine(k4o b A.length w h.cell0).mono ?_;rintro e w'⟨rfl,rfl⟩;exact⟨rfl,h,q0v.refl B b _,Lib.OthersKept.refl _ _ _⟩
theorem k4v(T B b o:Nat)(A bs R:List Value)(s:ByteArray)(w:World)(ho:A.length=o)(hl:j1u T (o+(R.length+2)) o)(hT:T≠5)(h:IsO T B b A bs R w)(f:bs.length+s.size<=140737488355328)(u:B<=w.heap.size):
  Calls prog 38 #[.pointer (some ⟨b,o,none⟩),.string s] w fun e w'=>e=.returned (.tuple #[.int .i64 s.size,.nilIface])/\(IsO T B b A (bs++Lib.strCells s) R w'/\q0v B b w w'/\Lib.OthersKept 5 (some b) w w'):=by
 obtain⟨y,x,Y,Z,a⟩:=info_parts y2n;have m:Hid (j1u T (o+(R.length+2)) o):=hl;have n:Hid (T≠5):=hT;have M:Hid (A.length=o):=ho;have H:Hid (IsO T B b A bs R w):=h;clear hl hT h ho;go_in;go_wp2_with(go_at_call 75;refine(j0c T B b o A bs R _ M.o m.o H.o).mono ?_);rintro e P⟨rfl,S,L,U⟩;obtain⟨v,I,E,W,d⟩:=S;have l:Hid (bs=[]->v=.slice none 0 0):=d;have N:Hid (P.heap[b]?=some (.cells (A++.pointer (some ⟨b,A.length,none⟩)::v::R).toArray T (0,0))):=I;clear d;have z:P.cell? ⟨b,o,none⟩=some (.pointer (some ⟨b,o,none⟩)):=by have:=j8a I;rw[M.o]at this;exact this
 have c1:P.cell? ⟨b,o+1,none⟩=some v:=by have:=k7g I;rw[M.o]at this;exact this
 clear I;go_wp2_with(at_builtin;refine Lib.wpList_append_own_stringF _ rfl _ _ 79 9 rfl B 5 y Tryz.underlying79 Tryz.underlying9 x Y Z a _ _ _ rfl E s rfl ?c3 ?c4 ?c5 ?_)
 case c3=>unfold maxLen;omega
 case c4=>omega
 case c5=>have:=L.size;omega
 intro j O G C J;have q:Hid (j=.slice none 0 0↔v=.slice none 0 0/\s.size=0):=(show _↔_ by simpa using J);clear J;have V:b<P.heap.size:=olt N.o
 have D:O.heap[b]?=some (.cells (A++.pointer (some ⟨b,A.length,none⟩)::v::R).toArray T (0,0)):=by
  rw[C.block b V (fun e=>W e.symm)];exact N.o
 have Q:Hid (O.heap[b]?=some (.cells (A++.pointer (some ⟨b,A.length,none⟩)::v::R).toArray T (0,0))):=D;have d0:O.cell? ⟨b,o,none⟩=some (.pointer (some ⟨b,o,none⟩)):=by have:=j8a D;rw[M.o]at this;exact this
 have d1:O.cell? ⟨b,o+1,none⟩=some v:=by have:=k7g D;rw[M.o]at this;exact this
 have f1:O.frozen? ⟨b,o+1,none⟩=false:=Lib.frozen_of_heap D (o+1);clear D
 obtain⟨c,i,K,rfl⟩:∃c i K,j=.slice c i K:=by
  rcases G.2 with⟨X,_⟩|⟨g,K,r,fz,X,_⟩
  ·exact⟨_,_,_,X⟩
  ·exact⟨_,_,_,X⟩
 go_wp2;go_ret2;refine⟨rfl,.inr ?_,?_,(U.grown C (Lib.ownsRowF_kind E)).setCell ⟨b,o+1,none⟩ rfl _⟩
 ·rw[<-M.o];refine OAt.put Q.o (bs':=bs++Lib.strCells s) (by simpa[Lib.strCells_length]using G) n.o (fun h=>?_);obtain⟨S,t⟩:=List.append_eq_nil_iff.1 h;refine q.o.2 ⟨l.o S,?_⟩;rw[<-Lib.strCells_length,t];rfl
 ·exact(L.grown C (by have:=L.size;omega) (fun k hk=>(E.lt k hk).1)).setCell (p:=⟨b,o+1,none⟩) (.inl rfl) _
theorem j8h(T B b o:Nat)(E:List Value)(l:List UInt8)(R:List Value)(w:World)(ho:E.length=o)(h:IsO T B b E (Lib.byteCells l) R w)(h0:l≠[]):
  Calls prog 39 #[.pointer (some ⟨b,o,none⟩)] w fun e w'=>e=.returned (.string ⟨l.toArray⟩)/\Below B w w':=by
 obtain⟨p,I⟩:=h.at;obtain⟨v,H,D,W,_⟩:=I;have M:l.length≠0:=by simpa using h0
 rw[Lib.byteCells_length]at D
 obtain⟨g,A,C,G,rfl,J,U,S,V,K,Q,N⟩:∃g A C G,v=.slice (some ⟨g,0,none⟩) l.length A/\B<=g/\w.heap[g]?=some (.cells C 5 G)/\G.2<=l.length*1/\l.length<=A/\A<=maxLen/\C.size=A*1/\C.toList.take (l.length*1)=Lib.byteCells l:=by
  rcases D.2 with⟨_,Z⟩|⟨g,A,C,G,X,r⟩
  ·exact absurd Z M
  ·exact⟨g,A,C,G,X,r⟩
 have a:w.drew.cell? ⟨b,o+1,none⟩=some (.slice (some ⟨g,0,none⟩) l.length A):=by
  have:w.drew.heap[b]?=some (.cells (E++p::.slice (some ⟨g,0,none⟩) l.length A::R).toArray T (0,0)):=H
  have:=k7g this
  rw[ho]at this;exact this
 have O:(Builtin.unsafeSliceData_ #[79] 130 #[.slice (some ⟨g,0,none⟩) l.length A]).run prog w.drew=.ok (.pointer (some ⟨g,0,none⟩)) w.drew:=
  Lib.run_unsafeSliceData_row _ _ _ _ _ _ (by omega)
 have P:(Builtin.unsafeString_ #[130,3] 9 #[.pointer (some ⟨g,0,none⟩),.int .i64 l.length]).run prog w.drew=.ok (.string ⟨l.toArray⟩) (w.drew.freeze ⟨g,0,none⟩ l.length):=by
  refine Lib.run_unsafeString_row w.drew 130 3 9 5 Tryz.underlying130 v8o g C.size (by have L:w.drew.heap[g]?=some (.cells C 5 G):=U;simp[World.shape?,L]) l h0 (by omega) (by unfold maxLen at K;omega) ?_;intro j x Y
  have:=D.cells (g:=g) rfl j (.int .u8 x.toNat) (by simp[Lib.byteCells,Y])
  exact this
 clear H;go_in;go_wp2
 go_region
 all_goals (go_wp2;go_ret;exact⟨rfl,Lib.below_freeze (Below.drew (Below.refl B w)) (p:=⟨g,0,none⟩) J _⟩)
theorem j8g(T B b o:Nat)(A R:List Value)(w:World)(ho:A.length=o)(h:IsO T B b A [] R w):
  Calls prog 39 #[.pointer (some ⟨b,o,none⟩)] w fun e w'=>e=.returned (.string ⟨#[]⟩)/\Below B w w':=by
 obtain⟨p,E⟩:=h.at;obtain⟨v,C,D,G,H⟩:=E;obtain rfl:=H rfl;clear D G H;have J:∀(W:World)(q:Option Addr),(Builtin.unsafeString_ #[130,3] 9 #[.pointer q,.int .i64 0]).run prog W=.ok (.string .empty) W:=fun W q=>Lib.run_unsafeString_none W _ _ _ q
 have K:w.drew.cell? ⟨b,o+1,none⟩=some (.slice none 0 0):=by
  have:w.drew.heap[b]?=some (.cells (A++p::.slice none 0 0::R).toArray T (0,0)):=C
  have:=k7g this
  rw[ho]at this;exact this
 have I:(Builtin.unsafeSliceData_ #[79] 130 #[.slice none 0 0]).run prog w.drew=.ok (.pointer none) w.drew:=rfl;clear C;go_in;go_wp2
 go_region
 all_goals (go_wp2;go_ret;exact⟨rfl,Below.drew (Below.refl B w)⟩)
theorem v4h(T B b o:Nat)(A:List Value)(l:List UInt8)(R:List Value)(w:World)(ho:A.length=o)(h:IsO T B b A (Lib.byteCells l) R w):
  Calls prog 39 #[.pointer (some ⟨b,o,none⟩)] w fun e w'=>e=.returned (.string ⟨l.toArray⟩)/\Below B w w':=by
 by_cases C:l=[]
 ·subst C;exact j8g T B b o A R w ho h
 ·exact j8h T B b o A l R w ho h C
end Go.Proofs.YtfdppahhbpfnoaaGreatDoor
namespace Go.Proofs.YtfdppahhbpfnoaaGreatDoor
open Go Go.RowKit Go.Maps
theorem v3w:laidOutB prog=true:=by kernel_rfl
theorem y9d:(172:TypeId)<prog.types.size:=of_decide_eq_true (by kernel_rfl)
theorem mkt:prog.keyTypeAt 3 172=true:=by kernel_rfl
theorem y2t:Keyed prog 172:=Keyed.of_law (deep_law_laid v3w (m:=3) (by omega) y9d mkt (by rw[Tryz.underlying172]))
theorem y7x:prog.keyType 172=true:=by kernel_rfl
theorem v7i:prog.cellsOf 172=2:=by kernel_rfl
theorem y1c:prog.cellsOf 3=1:=by kernel_rfl
theorem y7w:∃d,prog.types.size=d+1:=⟨371-1,by kernel_rfl⟩
theorem y4h(w:World):(zeroValue 174).run prog w=.ok (.agg #[.int .i64 0,.int .i64 0,.int .i64 0,.int .i64 0,.int .i64 0]) w:=by kernel_rfl
theorem y8u{n:Nat}(h:n<=1000000):(Lit.int .i64 (n:Int)).wf=true:=WalkArith.wf_i64 (by omega)
theorem y7v{p c:Nat}(hp:p<=1000000)(hc:c<=1000000):∃kl,keyOf prog 172 (.agg #[.int .i64 (p:Int),.int .i64 (c:Int)])=some kl:=by
 obtain⟨d,C⟩:=y7w;have A:=y8u hp;have B:=y8u hc
 have D:(Value.agg #[.int .i64 (p:Int),.int .i64 (c:Int)]).formed prog 172=true:=by
  simp[Value.formed,Tryz.underlying172,v7i]
 refine⟨.string (keyBytes [.int .i64 p,.int .i64 c]),?_⟩;unfold keyOf;rw[Tryz.underlying172];simp only[y7x,D,Bool.and_self,if_true,C];simp[Program.keyLits,Tryz.underlying172,Tryz.underlying3,v7i,y1c,Value.cells,A,B]
def cvV(k:Cv):Value:=.agg #[.int .i64 k.o,.int .i64 k.l,.int .i64 k.ch,.int .i64 k.np,.int .i64 k.nc]
def zCv:Cv:=⟨0,0,0,0,0⟩
def cvR(v:Value):Option (DataW Value × List MemPlace):=some (.held v,[])
def y6o(S:Nat->Nat->Bool):Nat:=(List.range 40501).countP fun k=>S (k / 101) (k % 101)
theorem v9q(S:Nat->Nat->Bool):y6o S<=40501:=by
 have:=List.countP_le_length (p:=fun k=>S (k / 101) (k % 101)) (l:=List.range 40501)
 rw[List.length_range]at this;exact this
def z9w(S:Nat->Nat->Bool)(p c:Nat):Nat->Nat->Bool:=fun p' c'=>S p' c'||(decide (p'=p)&&decide (c'=c))
theorem z5z{f g:Nat->Bool}(k:Nat):∀(l:List Nat),k∈l->(∀x,f x=true->g x=true)->f k=false->g k=true->l.countP f+1<=l.countP g
 | [],h,_,_,_=>by simp at h
 | a::l,h,h1,h2,h3=>by
  have hm:l.countP f<=l.countP g:=List.countP_mono_left fun x _=>h1 x
  rw[List.countP_cons,List.countP_cons];by_cases e:a=k
  ·subst e;rw[h2,h3];simp;omega
  ·have h4:=z5z k l (by rcases List.mem_cons.1 h with h|h;exact absurd h.symm e;exact h) h1 h2 h3;cases hf:f a with
   | true=>rw[h1 a hf];omega
   | false=>simp only[Bool.false_eq_true,if_false,Nat.add_zero];exact Nat.le_trans h4 (Nat.le_add_right _ _)
theorem v2a{S:Nat->Nat->Bool}{p c:Nat}(hp:p<=400)(hc:c<=100)(h:S p c=false):y6o S+1<=y6o (z9w S p c):=by
 have A:(p*101+c) / 101=p:=by omega
 have B:(p*101+c) % 101=c:=by omega
 refine z5z (p*101+c) _ (List.mem_range.2 (by omega)) (fun x hx=>?_) ?_ ?_
 ·simp only[z9w,hx,Bool.true_or]
 ·rw[A,B];exact h
 ·simp[z9w,A,B]
def Mem(w:World)(b:Nat)(C:Nat->Nat->Cv)(S:Nat->Nat->Bool):Prop:=
 ∃D n,w.ownsMap prog 172 cvR b n D/\n<=y6o S/\∀p c:Nat,p<=400->c<=100->∀kl,keyOf prog 172 (.agg #[.int .i64 (p:Int),.int .i64 (c:Int)])=some kl->
  Maps.has D kl=S p c/\D.atKey kl (.held (cvV zCv))=.held (cvV (if S p c=true then C p c else zCv))
section
variable {w w':World} {b:Nat} {C:Nat→Nat→Cv} {S:Nat→Nat→Bool} {p c:Nat}
theorem Mem.lt(h:Mem w b C S):b<w.heap.size:=by
 obtain⟨D,n,h,_⟩:=h;exact h.lt
theorem Mem.kept(h:Mem w b C S)(hb:w'.heap[b]?=w.heap[b]?):Mem w' b C S:=by
 obtain⟨D,n,⟨B,A,E,G⟩,H⟩:=h;exact⟨D,n,⟨B,A,hb.trans E,G⟩,H⟩
theorem Mem.look(h:Mem w b C S)(hp:p<=400)(hc:c<=100):(Instr.lookup 168 (.map (some b)) (.agg #[.int .i64 (p:Int),.int .i64 (c:Int)]) false).run prog w=.ok (cvV (if S p c=true then C p c else zCv)) w:=by
 obtain⟨D,n,h,_,G⟩:=h;obtain⟨H,E⟩:=y7v (p:=p) (c:=c) (by omega) (by omega);obtain⟨v,I,A,B⟩:=h.lookup y2t Tryz.underlying168 (y4h w) (zd:=.held (cvV zCv)) (zp:=[]) rfl E;rw[(G p c hp hc H E).2]at B;simp only[cvR,Option.some.injEq,Prod.mk.injEq,DataW.held.injEq]at B;rw[A,B.1]
theorem Mem.look_ok(h:Mem w b C S)(hp:p<=400)(hc:c<=100):(Instr.lookup 168 (.map (some b)) (.agg #[.int .i64 (p:Int),.int .i64 (c:Int)]) true).run prog w=.ok (.tuple #[cvV (if S p c=true then C p c else zCv),.bool (S p c)]) w:=by
 obtain⟨D,n,h,_,G⟩:=h;obtain⟨H,B⟩:=y7v (p:=p) (c:=c) (by omega) (by omega);obtain⟨v,I,A,E⟩:=h.look_ok y2t Tryz.underlying168 (y4h w) (zd:=.held (cvV zCv)) (zp:=[]) rfl B;rw[(G p c hp hc H B).2]at E;simp only[cvR,Option.some.injEq,Prod.mk.injEq,DataW.held.injEq]at E;rw[A,E.1,(G p c hp hc H B).1]
theorem Mem.store(h:Mem w b C S)(hp:p<=400)(hc:c<=100)(hs:S p c=false):
  ∃w',(Instr.mapUpdate 168 (.map (some b)) (.agg #[.int .i64 (p:Int),.int .i64 (c:Int)]) (cvV (C p c))).run prog w=.ok () w'/\Mem w' b C (z9w S p c)/\w.grownBy w' (some b):=by
 obtain⟨D,n,h,N,L⟩:=h;obtain⟨K,A⟩:=y7v (p:=p) (c:=c) (by omega) (by omega);obtain⟨O,E,B,M⟩:=h.update y2t Tryz.underlying168 (by have:=v9q S;unfold maxLen;omega) A (d:=.held (cvV (C p c))) (ps:=[]) (val:=cvV (C p c)) rfl;refine⟨O,E,⟨_,_,B,Nat.le_trans (Nat.add_le_add_right N 1) (v2a hp hc hs),fun p' c' hp' hc' kl' hk'=>?_⟩,M⟩;by_cases e:p'=p/\c'=c
 ·obtain⟨rfl,rfl⟩:=e;have I:kl'=K:=by rw[A]at hk';exact(Option.some.inj hk').symm
  subst I;have H:z9w S p' c' p' c'=true:=by simp[z9w]
  rw[H,if_pos rfl];exact⟨has_put_same h.isMap (y2t.key A) _,atKey_put_same h.isMap (y2t.key A) _ _⟩
 ·have ne:kl'≠K:=by
   intro I;subst I
   have:=y2t.inj hk' A
   simp at this;omega
  have H:z9w S p c p' c'=S p' c':=by
   simp only[z9w];by_cases J:p'=p
   ·have G:¬c'=c:=fun G=>e ⟨J,G⟩
    simp[G]
   ·simp[J]
  rw[H,has_put_other ne,atKey_put_other ne];exact L p' c' hp' hc' kl' hk'
end
theorem Mem.made(w:World)(C:Nat->Nat->Cv):Mem (w.alloc (.map #[] 0)) w.heap.size C (fun _ _=>false):=
 ⟨.map [],0,World.ownsMap_made _ _ _ _,Nat.zero_le _,fun _ _ _ _ _ _=>⟨rfl,rfl⟩⟩
end Go.Proofs.YtfdppahhbpfnoaaGreatDoor
namespace Go.Proofs.YtfdppahhbpfnoaaGreatDoor
def q6z(f g:Nat->List Int->Except Int (List UInt8 × List Int))(deep:Nat)(ws:List Int):Except Int (List UInt8 × List Int):=
 match f deep ws with
 | .error e=>.error e
 | .ok (s,ws1)=>match g deep ws1 with
  | .error e=>.error e
  | .ok (t,ws2)=>.ok (s++t,ws2)
def q4r(f:Nat->List Int->Except Int (List UInt8 × List Int))(sA:ByteArray)(fl:Bool)(deep:Nat)(ws:List Int):Except Int (List UInt8 × List Int):=
 match ws with
 | []=>.error 2
 | c::ws=>if c=1 then f deep ws else if fl=true then .ok (sA.data.toList,ws)else .error 4
def q4g(f g:Nat->List Int->Except Int (List UInt8 × List Int))(deep:Nat)(ws:List Int):Except Int (List UInt8 × List Int):=
 match ws with
 | []=>.error 2
 | c::ws=>if c=0 then f deep ws else g deep ws
theorem v2x{t:Tr}{s:List UInt8}(h:t.Wf)(e:t.flat=some s):s.length<=20*t.N.length:=by
 have:=q7y t h
 rw[e]at this;exact this
theorem q5t:∀(t:Tr)(deep:Nat)(ws:List Int)(u:List UInt8)(v:List Int),t.Wf->t.lay deep ws=.ok (u,v)->deep+8*t.N.length<=3300->u.length<=4000*t.N.length
 | .leaf x,deep,ws,u,v,h,e,hd=>by
  obtain⟨_,_,_,_,h5,_⟩:=q2a h.1;simp only[Tr.lay]at e;simp only[Tr.N,List.length_cons,List.length_nil]at hd⊢
  split at e
  ·rename_i h1;cases e
   have:=q4c (h5 h1)
   rw[q0x];omega
  ·split at e
   ·cases e;simp
   ·cases e;simp;omega
 | .one x a,deep,ws,u,v,h,e,hd=>by
  obtain⟨_,_,_,_,_,h6⟩:=q2a h.1;simp only[Tr.lay]at e;simp only[Tr.N,List.length_cons]at hd⊢
  split at e
  ·rename_i h7
   have:=h6 h7
   have:=q5t a _ ws u v h.2.2 e (by omega)
   omega
  ·match ws,e with
   | c::ws,e=>
    simp only at e
    split at e
    ·have:=q5t a deep ws u v h.2.2 e (by omega)
     omega
    ·cases hf:a.flat with
     | none=>rw[hf]at e;cases e
     | some w=>
      rw[hf]at e;cases e
      have:=v2x h.2.2 hf
      omega
 | .two x a b,deep,ws,u,v,h,e,hd=>by
  simp only[Tr.lay]at e;simp only[Tr.N,List.length_cons,List.length_append]at hd⊢
  split at e
  ·cases ha:a.lay deep ws with
   | error e0=>rw[ha]at e;cases e
   | ok p=>
    obtain⟨s1,ws1⟩:=p;rw[ha]at e;simp only at e;cases hb:b.lay deep ws1 with
    | error e0=>rw[hb]at e;cases e
    | ok q=>
     obtain⟨s2,ws2⟩:=q;rw[hb]at e;cases e
     have:=q5t a deep ws s1 ws1 h.2.2.1 ha (by omega)
     have:=q5t b deep ws1 s2 _ h.2.2.2 hb (by omega)
     rw[List.length_append];omega
  ·match ws,e with
   | c::ws,e=>
    simp only at e
    split at e
    ·have:=q5t a deep ws u v h.2.2.1 e (by omega)
     omega
    ·have:=q5t b deep ws u v h.2.2.2 e (by omega)
     omega
theorem j5n{x:Nd}{a b:Tr}(h:x.op=6):Tr.lay (.two x a b)=q6z a.lay b.lay:=by
 funext deep ws
 simp only[Tr.lay,q6z,if_pos h];rfl
theorem z6n{x:Nd}{a b:Tr}(h:x.op=9):Tr.lay (.two x a b)=q4g a.lay b.lay:=by
 funext deep ws
 simp only[Tr.lay,q4g,if_neg (show ¬x.op=6 by omega)];rfl
theorem k1a{x:Nd}{a:Tr}(h:x.op=8):Tr.lay (.one x a)=q4r a.lay a.line a.isFlat:=by
 funext deep ws
 simp only[Tr.lay,q4r,if_neg (show ¬x.op=7 by omega)];cases ws with
 | nil=>rfl
 | cons c ws=>
  simp only[z4h,Tr.isFlat];cases a.flat with
  | none=>rfl
  | some s=>rfl
def shS(r:Except Int (List UInt8)):ByteArray:=match r with| .ok s=>⟨s.toArray⟩| .error _=>⟨#[]⟩
def shE(r:Except Int (List UInt8)):Int:=match r with| .ok _=>0| .error e=>e
theorem j0p{t:Tr}{ws:List Int}{k:Nat}(h:k<ws.length)(h0:ws[k]≠0)(h1:ws[k]≠1):t.show ws=.error 1:=by
 unfold Tr.show;rw[if_neg];intro A
 have:=k3a.1 A ws[k] (List.getElem_mem h)
 omega
theorem k7q{t:Tr}{ws:List Int}(h:q2q ws):t.show ws=match t.lay 0 ws with| .error e=>.error e| .ok (s,[])=>.ok s| .ok (_,_::_)=>.error 2:=by
 unfold Tr.show;rw[if_pos (k3a.2 h)];rfl
noncomputable def q5y(ds:List Nd)(ws:List Int):Except Int (List UInt8):=if h:q3f ds=0 then(v6x ds h).show ws else .error (q3f ds)
theorem k2i{ds:List Nd}{ws:List Int}(h:q3f ds≠0):q5y ds ws=.error (q3f ds):=dif_neg h
theorem z2g{ds:List Nd}{ws:List Int}{t:Tr}(ht:t.Wf)(e:ds=t.N)(hl:ds.length<=400):q5y ds ws=t.show ws:=by
 have h:q3f ds=0:=by rw[e];exact z1a ht (by rw[<-e];exact hl)
 rw[q5y,dif_pos h,z8c h ht e]
theorem v4x{ds:List Nd}{ws:List Int}{u:List UInt8}(h:q5y ds ws=.ok u):q3f ds=0/\ds.length<=400/\∃t:Tr,t.Wf/\ds=t.N/\t.show ws=.ok u:=by
 by_cases A:q3f ds=0
 ·rw[q5y,dif_pos A]at h;exact⟨A,(q5d A).1,_,q9h A,q3u A,h⟩
 ·rw[k2i A]at h;cases h
theorem q8i:∀(t:Tr)(u:List Int),u∈t.ways->u.length<=t.N.length
 | .leaf _,u,h=>by simp[Tr.ways]at h;subst h;simp
 | .one x a,u,h=>by
  simp only[Tr.ways]at h;simp only[Tr.N,List.length_cons]
  split at h
  ·have:=q8i a u h;omega
  ·rcases List.mem_append.1 h with h|h
   ·split at h
    ·simp at h;subst h;simp
    ·simp at h
   ·obtain⟨v,hv,rfl⟩:=List.mem_map.1 h
    have:=q8i a v hv
    simp;omega
 | .two x a b,u,h=>by
  simp only[Tr.ways]at h;simp only[Tr.N,List.length_cons,List.length_append]
  split at h
  ·obtain⟨p,hp,hpq⟩:=List.mem_flatMap.1 h;obtain⟨q,hq,rfl⟩:=List.mem_map.1 hpq;have h1:=q8i a p hp;have h2:=q8i b q hq;rw[List.length_append];omega
  ·rcases List.mem_append.1 h with h|h
   ·obtain⟨v,hv,rfl⟩:=List.mem_map.1 h
    have:=q8i a v hv
    simp;omega
   ·obtain⟨v,hv,rfl⟩:=List.mem_map.1 h
    have:=q8i b v hv
    simp;omega
theorem j8y{t:Tr}{ws:List Int}{u:List UInt8}(h:t.show ws=.ok u):q2q ws/\t.lay 0 ws=.ok (u,[]):=by
 unfold Tr.show at h
 split at h
 ·rename_i h0;refine⟨k3a.1 h0,?_⟩;cases A:t.lay 0 ws with
  | error e0=>rw[A]at h;cases h
  | ok p=>
   obtain⟨v,r⟩:=p;rw[A]at h;cases r with
   | nil=>cases h;rfl
   | cons c r=>cases h
 ·cases h
theorem j8x{ds:List Nd}{ws:List Int}{u:List UInt8}(h:q5y ds ws=.ok u):u.length<=1600000/\ws.length<=400:=by
 obtain⟨_,H,t,E,e,A⟩:=v4x h;have G:=(z4v t ws).1 ⟨u,A⟩;have B:=q8i t ws G;obtain⟨_,C⟩:=j8y A;rw[<-e]at B;have D:=q5t t 0 ws u [] E C (by rw[<-e];omega);rw[<-e]at D;omega
def Tr.go:Tr->List Int->List Int × List Int
 | .leaf _,rest=>([],rest)
 | .one x a,rest=>
  if x.op=7 then a.go rest
  else match rest with
   | []=>if a.isFlat=true then([0],[])else(1::(a.go []).1,(a.go []).2)
   | c::r=>if c=1 then(1::(a.go r).1,(a.go r).2)else([c],r)
 | .two x a b,rest=>
  if x.op=6 then((a.go rest).1++(b.go (a.go rest).2).1,(b.go (a.go rest).2).2)
  else match rest with
   | []=>(0::(a.go []).1,(a.go []).2)
   | c::r=>if c=0 then(0::(a.go r).1,(a.go r).2)else(c::(b.go r).1,(b.go r).2)
def Tr.first(t:Tr):List Int:=(t.go []).1
def q3l(l L:List (List Int)):Prop:=l.take 301=L.take 301
theorem q3l.refl(l:List (List Int)):q3l l l:=rfl
theorem q3l.cut(l:List (List Int)):q3l (l.take 301) l:=by
 unfold q3l;rw[List.take_take,Nat.min_self]
theorem q3l.or{l L:List (List Int)}(h:q3l l L):l=L\/(301<=l.length/\301<=L.length):=by
 unfold q3l at h;have B:=congrArg List.length h;rw[List.length_take,List.length_take]at B;by_cases A:301<=l.length
 ·exact .inr ⟨A,by omega⟩
 ·left;rw[List.take_of_length_le (by omega),List.take_of_length_le (by omega)]at h;exact h
theorem q3l.map{l L:List (List Int)}(h:q3l l L)(f:List Int->List Int):q3l (l.map f) (L.map f):=by
 unfold q3l at *;rw[<-List.map_take,<-List.map_take,h]
theorem q3l.app{l L m M:List (List Int)}(h:q3l l L)(k:q3l m M):q3l (l++m) (L++M):=by
 rcases h.or with rfl|⟨A,B⟩
 ·unfold q3l at *;rw[List.take_append,List.take_append]
  congr 1
  have e:∀x:List (List Int),x.take (301-l.length)=(x.take 301).take (301-l.length):=fun x=>by rw[List.take_take];congr 1;omega
  rw[e m,e M,k]
 ·unfold q3l at *;rw[List.take_append_of_le_length A,List.take_append_of_le_length B,h]
theorem q3l.flat{l L:List (List Int)}(h:q3l l L):∀us:List (List Int),q3l (us.flatMap fun u=>l.map (u++·)) (us.flatMap fun u=>L.map (u++·))
 | []=>rfl
 | u::us=>by
  rw[List.flatMap_cons,List.flatMap_cons];exact(h.map _).app (h.flat us)
def Tr.tl:Tr->List (List Int)->List (List Int)
 | .leaf _,bs=>bs
 | .one x a,bs=>if x.op=7 then a.tl bs else((if a.isFlat=true then bs.map (0::·)else [])++(a.tl bs).map (1::·)).take 301
 | .two x a b,bs=>if x.op=6 then a.tl (b.tl bs)else((a.tl bs).map (0::·)++(b.tl bs).map (1::·)).take 301
theorem q8y:∀(t:Tr)(bs:List (List Int)),q3l (t.tl bs) (t.ways.flatMap fun u=>bs.map (u++·))
 | .leaf x,bs=>by simp only[Tr.tl,Tr.ways,List.flatMap_cons,List.flatMap_nil,List.append_nil];simp[q3l]
 | .one x a,bs=>by
  have ih:=q8y a bs;simp only[Tr.tl,Tr.ways]
  split
  ·exact ih
  ·refine(q3l.cut _).trans ?_;rw[List.flatMap_append];refine q3l.app ?_ ?_
   ·split
    ·simp[q3l]
    ·simp[q3l]
   ·have e:(a.ways.map (1::·)).flatMap (fun u=>bs.map (u++·))=(a.ways.flatMap fun u=>bs.map (u++·)).map (1::·):=by
     rw[List.flatMap_map,List.map_flatMap]
     congr 1
     funext u
     rw[List.map_map];rfl
    rw[e];exact ih.map _
 | .two x a b,bs=>by
  simp only[Tr.tl,Tr.ways]
  split
  ·have e:(a.ways.flatMap fun u=>b.ways.map (u++·)).flatMap (fun u=>bs.map (u++·))=a.ways.flatMap fun u=>(b.ways.flatMap fun v=>bs.map (v++·)).map (u++·):=by
    rw[List.flatMap_assoc]
    congr 1
    funext u
    rw[List.flatMap_map,List.map_flatMap]
    congr 1
    funext v
    rw[List.map_map]
    congr 1
    funext z
    exact List.append_assoc u v z
   rw[e];exact(q8y a (b.tl bs)).trans ((q8y b bs).flat a.ways)
  ·refine(q3l.cut _).trans ?_
   have A:(a.ways.map (0::·)).flatMap (fun u=>bs.map (u++·))=(a.ways.flatMap fun u=>bs.map (u++·)).map (0::·):=by
    rw[List.flatMap_map,List.map_flatMap]
    congr 1
    funext u
    rw[List.map_map];rfl
   have B:(b.ways.map (1::·)).flatMap (fun u=>bs.map (u++·))=(b.ways.flatMap fun u=>bs.map (u++·)).map (1::·):=by
    rw[List.flatMap_map,List.map_flatMap]
    congr 1
    funext u
    rw[List.map_map];rfl
   rw[List.flatMap_append,A,B];exact((q8y a bs).map _).app ((q8y b bs).map _)
theorem y2c(t:Tr):q3l (t.tl [[]]) t.ways:=by
 have h:=q8y t [[]]
 have e:(t.ways.flatMap fun u=>[[]].map (u++·))=t.ways:=by
  simp
 rw[e]at h;exact h
theorem y5n(t:Tr):(t.ways.length<=300/\t.tl [[]]=t.ways)\/(300<t.ways.length/\300<(t.tl [[]]).length):=by
 rcases(y2c t).or with h|⟨B,C⟩
 ·by_cases A:t.ways.length<=300
  ·exact .inl ⟨A,h⟩
  ·exact .inr ⟨by omega,by rw[h];omega⟩
 ·exact .inr ⟨by omega,by omega⟩
theorem k7x:∀(t:Tr)(bs:List (List Int)),bs.length<=301->(t.tl bs).length<=301
 | .leaf x,bs,h=>h
 | .one x a,bs,h=>by
  simp only[Tr.tl]
  split
  ·exact k7x a bs h
  ·rw[List.length_take];omega
 | .two x a b,bs,h=>by
  simp only[Tr.tl]
  split
  ·exact k7x a _ (k7x b bs h)
  ·rw[List.length_take];omega
theorem j9t:∀(t:Tr)(bs:List (List Int))(m:Nat),(∀x∈bs,x.length<=m)->∀x∈t.tl bs,x.length<=m+t.N.length
 | .leaf x,bs,m,h,y,hy=>by have:=h y hy;omega
 | .one x a,bs,m,h,y,hy=>by
  have ih:=j9t a bs m h;simp only[Tr.tl]at hy;simp only[Tr.N,List.length_cons]
  split at hy
  ·have:=ih y hy;omega
  ·have hy:=List.mem_of_mem_take hy;rcases List.mem_append.1 hy with hy|hy
   ·split at hy
    ·obtain⟨z,hz,rfl⟩:=List.mem_map.1 hy
     have:=h z hz
     simp;omega
    ·simp at hy
   ·obtain⟨z,hz,rfl⟩:=List.mem_map.1 hy
    have:=ih z hz
    simp;omega
 | .two x a b,bs,m,h,y,hy=>by
  have ia:=j9t a bs m h;have ib:=j9t b bs m h;simp only[Tr.tl]at hy;simp only[Tr.N,List.length_cons,List.length_append]
  split at hy
  ·have:=j9t a (b.tl bs) _ ib y hy;omega
  ·have hy:=List.mem_of_mem_take hy;rcases List.mem_append.1 hy with hy|hy
   ·obtain⟨z,hz,rfl⟩:=List.mem_map.1 hy
    have:=ia z hz
    simp;omega
   ·obtain⟨z,hz,rfl⟩:=List.mem_map.1 hy
    have:=ib z hz
    simp;omega
end Go.Proofs.YtfdppahhbpfnoaaGreatDoor
namespace Go.Proofs.YtfdppahhbpfnoaaGreatDoor
open Go Go.RowKit
set_option maxRecDepth 100000
set_option maxHeartbeats 1000000
def k4b(a b:Int × Int):Bool:=if a.1 != b.1 then decide (a.1<b.1)else decide (a.2<b.2)
theorem j0j(a b:Int × Int)(w:World):
  Calls prog 65 #[.agg #[.int .i64 a.1,.int .i64 a.2],.agg #[.int .i64 b.1,.int .i64 b.2]] w fun e w'=>e=.returned (.bool (k4b a b))/\Below w w w':=by
 by_cases h:a.1=b.1
 ·have A:k4b a b=decide (a.2<b.2):=by simp[k4b,h]
  rw[A];have B:(a.1 != b.1)=false:=by simp[h]
  clear h A;go_in;go_wp2;go_ret;exact⟨rfl,(Zb.alloc Zl _).alloc (by simp) _⟩
 ·have A:k4b a b=decide (a.1<b.1):=by simp[k4b,h]
  rw[A];have B:(a.1 != b.1)=true:=by simp[h]
  clear h A;go_in;go_wp2;go_ret;exact⟨rfl,(Zb.alloc Zl _).alloc (by simp) _⟩
theorem y0q(a b:Nat × Nat):k4b ((a.1:Int),(a.2:Int)) ((b.1:Int),(b.2:Int))=decide (q2w a b):=by
 rw[Bool.eq_iff_iff,decide_eq_true_eq];unfold k4b q2w;dsimp only
 split
 ·rename_i h;have A:(a.1:Int)≠b.1:=bne_iff_ne.1 h;rw[decide_eq_true_eq];omega
 ·rename_i h;have A:(a.1:Int)=b.1:=by simpa using h
  rw[decide_eq_true_eq];omega
theorem j8w(a b:Nat × Nat)(w:World):
  Calls prog 65 #[.agg #[.int .i64 (a.1:Int),.int .i64 (a.2:Int)],.agg #[.int .i64 (b.1:Int),.int .i64 (b.2:Int)]] w fun e w'=>e=.returned (.bool (decide (q2w a b)))/\Below w w w':=by
 have:=j0j ((a.1:Int),(a.2:Int)) ((b.1:Int),(b.2:Int)) w
 rw[y0q]at this;exact this
end Go.Proofs.YtfdppahhbpfnoaaGreatDoor
